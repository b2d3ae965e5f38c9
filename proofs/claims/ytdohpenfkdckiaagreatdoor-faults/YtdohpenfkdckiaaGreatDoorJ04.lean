import Derived.Test.YtdohpenfkdckiaaGreatDoorJ03
import Derived.Conc.MuLib
import Derived.Conc.MuLone
import Derived.KernelRfl
import Derived.Maps.OwnSet
import Derived.Lib.Strings
import Derived.Lib.BufferWrite
import Derived.Lib.UnsafeStr
import Derived.Laws.MakeOwn
import Derived.Lib.AppendStr
import Derived.ChangeKeysEq
set_option linter.all false
set_option maxRecDepth 100000
set_option maxHeartbeats 0
namespace Go.Proofs.YtdohpenfkdckiaaGreatDoor
open Go.Proofs.Tryz Go.RowKit
section
open Go.RowKit Go.Extern.Stop Go.Stop Go.Extern
def Qo(F:Nat)(call)(x)(w)(a:w.heap[F]?=some (ϲ #[ϕ call,x] 246)):
  Ω 353 #[ϖ F] w λe w'=>e=ϱ x/\w'=w:=by
 have b:=Y a 1;simp at b;clear a;go_enter func353,ntmps353;go_wp2;go_ret;exact⟨rfl,rfl⟩
def RC(F E a:Nat)(call)(k:Int)(w)(j:w.heap[F]?=some (ϲ #[ϕ call,.iface 45 (ϊ k)] 246))(i:w.heap[E]?=some (ϲ #[ϊ 0] 45))(m:w.heap[a]?=some (ϲ #[ϖ E] 95)):
  Ω 98 #[.iface 243 (ϖ F),.iface 95 (ϖ E),.agg #[ϗ (some (ϰ 5 95)),ϖ a,.int .u64 150],.iface 220 (.agg #[ϗ (some (ϰ 5 45))])] w λe w'=>e=ϱ (ϐ true)/\w'.heap[E]?=some (ϲ #[ϊ k] 45)/\Kp [E] w w':=by
 have:=@run_callFunc_extern prog 95 _ (λargs=>ReflectliteValue.unpack (args.getD 0 (.tuple #[]))) func95 kR kR kR kR;have:=@run_callFunc_extern prog 151 _ ReflectliteType.typeOf func151 kR kR kR kR;have:=@run_callFunc_extern prog 342 _ (ReflectliteType.relation "AssignableTo" ReflectliteType.assignableTo) func342 kR kR kR kR;have:=@run_callFunc_extern prog 152 _ (ReflectliteValue.method (ReflectliteValue.valueError "reflectlite.Value.Elem" 0) ReflectliteValue.elem) func152 kR kR kR kR;have:=@run_callFunc_extern prog 153 _ ReflectliteValue.set func153 kR kR kR kR;have:=Md;have:=GP;have:=LU;have:=GO;have:=LK;have:=LI;have:=Mg;have:∀W:World,Sem.run prog (Instr.typeAssert (.iface 243 (ϖ F)) 38 225 true) W=.ok (.tuple #[.nilIface,ϐ false]) W:=λW=>run_typeAssert_lacksB underlying225 kR kR _ _ W;have:∀W:World,Sem.run prog (Instr.typeAssert (.iface 243 (ϖ F)) 38 228 true) W=.ok (.tuple #[.iface 243 (ϖ F),ϐ true]) W:=λW=>run_typeAssert_hasB underlying228 kR _ _ W;have:=U i;have:=U j;have:=U m;go_enter func98,ntmps98;go_wp2;apply wp_loop_rounds 3;rw[rounds_succ];go_wp2_with fail;obtain⟨b,c,l,r⟩:∃b,b=w.alloc (ϲ #[ϗ (some (ϰ 5 95)),ϖ a,.int .u64 150] 143)/\Kp [E] w b/\ϳ b=ϳ w+1:=⟨_,rfl,kF.alloc _,sM⟩;have p:Ϙ b F (ϲ #[ϕ call,.iface 45 (ϊ k)] 246):=by rw[c];exact ν _ j
 have d:Ϙ b E (ϲ #[ϊ 0] 45):=by rw[c];exact ν _ i
 have q:Ϙ b a (ϲ #[ϖ E] 95):=by rw[c];exact ν _ m
 have g:Ϙ b (ϳ w) (ϲ #[ϗ (some (ϰ 5 95)),ϖ a,.int .u64 150] 143):=by rw[c];exact μ _ _
 rw[<-c];clear c;have t:=Y g 0;have u:=Y g 1;have v:=Y g 2;have h:=Y q 0;simp at t u v h;have:=LO (ϰ a 0) (ϰ E 0) b h;have n:=Y (μ b (ϲ #[ϊ k] 45)) 0;have f:=Y (ν (ϲ #[ϊ k] 45) d) 0;have o:=ρ (ν (ϲ #[ϊ k] 45) d) 0;simp at n f;have s:=Mb (ϰ E 0) ⟨ϳ b,0,none⟩ k (ϊ 0) (b.alloc (ϲ #[ϊ k] 45)) sM (sU f) o;rw[r]at s;clear n f o;refine mR (Qo F call _ _ p) ?_;rintro x rfl;go_wp2_with fail;rw[rounds_succ];go_wp2;go_ret;refine⟨rfl,?_,?_⟩
 .first
   | exact ξ (ν _ d) 0 _
   | exact ν _ (ξ d 0 _)
 .first
   | exact(l.alloc _).sc _
   | exact(l.sc _).alloc _
def RA(F E:Nat)(call)(k:Int)(w)(c:w.cell? (ϰ 0 0)=some Bd)(b:w.heap[F]?=some (ϲ #[ϕ call,.iface 45 (ϊ k)] 246))(a:w.heap[E]?=some (ϲ #[ϊ 0] 45)):
  Ω 53 #[.iface 243 (ϖ F),.iface 95 (ϖ E)] w λe w'=>e=ϱ (ϐ true)/\w'.heap[E]?=some (ϲ #[ϊ k] 45)/\Kp [E] w w':=by
 have:=@run_callFunc_extern prog 95 _ (λargs=>ReflectliteValue.unpack (args.getD 0 (.tuple #[]))) func95 kR kR kR kR;have:=@run_callFunc_extern prog 96 _ (ReflectliteValue.methodAny (ReflectliteValue.valueError "reflectlite.Value.Type" 0) (λt _ _ _=>ReflectliteType.toType t)) func96 kR kR kR kR;have:=@run_callFunc_extern prog 97 _ (ReflectliteValue.method (ReflectliteValue.valueError "reflectlite.Value.IsNil" 0) ReflectliteValue.isNil) func97 kR kR kR kR;have:=@run_callFunc_extern prog 322 _ (ReflectliteType.abiMethod λt=>do pure (.int .u8 (<-Rtype.kind t))) func322 kR kR kR kR;have i:=@run_callFunc_extern prog 344 _ (ReflectliteType.method ReflectliteType.elem) func344 kR kR kR kR;have j:=@run_callFunc_extern prog 345 _ (ReflectliteType.relation "Implements" ReflectliteType.implements_) func345 kR kR kR kR;have o:=Mf;have:=Mc;have m:=LY;have:=LV;have:=LW;have:=LT;have:=LR;have:=LN;have:=LP;have:=U a;have:=U b;have h:0<w.heap.size:=oM
 have n:=LQ (ϰ w.heap.size 0) (ϰ E 0) ((w.alloc (ϲ #[ϖ E] 95)).alloc (ϲ #[ϗ (some (ϰ 5 95)),ϖ w.heap.size,.int .u64 150] 143)) sM;have l:((w.alloc (ϲ #[ϖ E] 95)).alloc (ϲ #[ϗ (some (ϰ 5 95)),ϖ w.heap.size,.int .u64 150] 143)).cell? (ϰ 0 0)=some (.iface 220 (.agg #[ϗ (some (ϰ 5 38))])):=by
  rw[World.cell?_alloc_lt _ _ (ϰ 0 0) sM,World.cell?_alloc_lt _ _ (ϰ 0 0) h];exact c
 clear c;go_enter func53,ntmps53;go_wp2_with fail;refine mR (RC F E w.heap.size call k _ (ν _ (ν _ b)) (ν _ (ν _ a)) (ν _ (μ _ _))) ?_;rintro p ⟨d,f⟩;have g:=(((Kp.refl [E] w).alloc _).alloc _).tr f;go_wp2;go_ret;exact⟨rfl,d,g⟩
end
def KZ(w):Ω 24 #[.nilIface] w λe w'=>e=ϱ (ϊ 0)/\w'=w:=by
 go_enter func24,ntmps24;go_wp2;go_ret;exact⟨rfl,rfl⟩
def qH5(F:Nat)(call)(k:Int)(w)(f:w.cell? (ϰ 0 0)=some Bd)(a:w.heap[F]?=some (ϲ #[ϕ call,.iface 45 (ϊ k)] 246)):
  Ω 24 #[.iface 243 (ϖ F)] w λe w'=>e=ϱ (ϊ k)/\Kp [] w w':=by
 have:=U a;have g:0<w.heap.size:=oM
 go_enter func24,ntmps24;go_wp2_with fail;refine mR (RA F w.heap.size call k _ (by rw[World.cell?_alloc_lt _ _ (ϰ 0 0) g];exact f) (ν _ a) (μ _ _)) ?_;rintro l ⟨b,c⟩;have d:=((Kp.refl [] w).alloc _).trans c (by intro i h j;simp at h;omega);have c0:=Y b 0;simp at c0;go_wp2;go_ret;exact⟨rfl,d⟩
abbrev Ys:Go.Conc.Locks.MuLink:={ lock:=105,unlock:=106,ilock:=165,iunlock:=166,lockSlow:=231,unlockSlow:=234,disable:=227,enable:=229,acquire:=230,relMerge:=232,cas32:=228,add32:=233,tMutex:=164,tIMutex:=162,tPMutex:=242,tPIMutex:=306,tPI32:=308,tUP:=140,tNoCopy:=159,tU32:=160 }
def Ki:Go.Conc.Locks.MuLib prog Ys:=
 ⟨func105,func106,func165,func166,func227,func229,func230,func232,func228,func233,underlying162,runUnderlying162,sizeOf162,isAgg162,zeroValue162,underlying164,runUnderlying164,sizeOf164,isAgg164,zeroValue164,underlying242,runUnderlying242,sizeOf242,isAgg242,zeroValue242,underlying306,runUnderlying306,sizeOf306,isAgg306,zeroValue306,underlying308,runUnderlying308,sizeOf308,isAgg308,zeroValue308,underlying140,runUnderlying140,sizeOf140,isAgg140,zeroValue140,underlying159,runUnderlying159,sizeOf159,isAgg159,zeroValue159,underlying21,runUnderlying21,sizeOf21,isAgg21,zeroValue21,kR⟩
section
open Go.RowKit Go.Extern.Stop Go.Stop Go.Extern
def NF(w):((Extern.ReflectliteType.method λt=>do Rtype.noPackHeld "Comparable" t;(λa=>Value.bool a.comparable) <$> typeInfo t) #[.agg #[ϗ (some (ϰ 5 45))]]).run prog w=.ok (ϐ true) w:=kR
def NI(h)(w):(Go.method 513 220 (.agg #[h]) "Comparable").run prog w=.ok (343,.agg #[h]) w:=kR
def NG(k:Int)(w):Sem.run prog (binOp .eql 38 (.iface 45 (ϊ k)) (.iface 45 (ϊ 8))) w=.ok (ϐ (k == 8)) w:=by
 kernel_rfl
def NK(v)(xT)(w):(Instr.typeAssert (.iface 243 v) xT 313 true).run prog w=.ok (.tuple #[.nilIface,ϐ false]) w:=run_typeAssert_lacksB underlying313 kR kR v xT w
def NJ(v)(xT)(w):(Instr.typeAssert (.iface 45 v) xT 313 true).run prog w=.ok (.tuple #[.nilIface,ϐ false]) w:=run_typeAssert_lacksB underlying313 kR kR v xT w
def WY(v)(xT)(w):(Instr.typeAssert (.iface 45 v) xT 228 true).run prog w=.ok (.tuple #[.nilIface,ϐ false]) w:=run_typeAssert_lacksB underlying228 kR kR v xT w
def WZ(v)(xT)(w):(Instr.typeAssert (.iface 45 v) xT 229 true).run prog w=.ok (.tuple #[.nilIface,ϐ false]) w:=run_typeAssert_lacksB underlying229 kR kR v xT w
def NH(v)(xT)(w):(Instr.typeAssert (.iface 243 v) xT 228 true).run prog w=.ok (.tuple #[.iface 243 v,ϐ true]) w:=run_typeAssert_hasB underlying228 kR v xT w
def WT(F:Nat)(call)(k:Int)(w)(d:k≠8)(a:w.heap[F]?=some (ϲ #[ϕ call,.iface 45 (ϊ k)] 246)):
  Ω 109 #[.iface 243 (ϖ F),.iface 45 (ϊ 8)] w λe w'=>e=ϱ (ϐ false)/\w'=w:=by
 have:=@run_callFunc_extern prog 151 _ ReflectliteType.typeOf func151 kR kR kR kR;have:=@run_callFunc_extern prog 343 _ (Extern.ReflectliteType.method λt=>do Rtype.noPackHeld "Comparable" t;pure (ϐ (<-typeInfo t).comparable)) func343 kR kR kR kR;have:=GP;have:=NF;have:=NI;have:=NK;have:=NJ;have:=WY;have:=WZ;have:=NH;have:=GO;have:=run_eql_iface_types (P:=prog) 243 45 (ϖ F) (ϊ 8) underlying38 dC w;have b:(k == 8)=false:=by simp[d]
 have c:=NG k w;rw[b]at c;have:=U a;have:=ϻ a 1;go_enter func109,ntmps109;go_wp2;refine wp_loop_rounds 2 ?_;rw[rounds_succ];go_wp2;rw[rounds_succ];go_wp2;go_ret;exact⟨rfl,rfl⟩
def WX(v)(xT)(w):(Instr.typeAssert (.iface 330 v) xT 313 true).run prog w=.ok (.tuple #[.nilIface,ϐ false]) w:=run_typeAssert_lacksB underlying313 kR kR v xT w
def WU(v)(xT)(w):(Instr.typeAssert (.iface 330 v) xT 228 true).run prog w=.ok (.tuple #[.iface 330 v,ϐ true]) w:=run_typeAssert_hasB underlying228 kR v xT w
def LZ(p)(w):(Go.method 513 330 (ϗ (some p)) "Unwrap").run prog w=.ok (355,ϗ (some p)) w:=kR
def WV(F:Nat)(call)(p)(w)(a:w.heap[F]?=some (ϲ #[ϕ call,.iface 330 (ϗ (some p))] 246)):
  Ω 109 #[.iface 243 (ϖ F),.iface 45 (ϊ 8)] w λe w'=>e=ϱ (ϐ true)/\w'=w:=by
 have:=@run_callFunc_extern prog 151 _ ReflectliteType.typeOf func151 kR kR kR kR;have:=@run_callFunc_extern prog 343 _ (Extern.ReflectliteType.method λt=>do Rtype.noPackHeld "Comparable" t;pure (ϐ (<-typeInfo t).comparable)) func343 kR kR kR kR;have:=GP;have:=NF;have:=NI;have:=NK;have:=WX;have:=NJ;have:=WU;have:=NH;have:=GO;have:=LZ;have:=run_eql_iface_types (P:=prog) 243 45 (ϖ F) (ϊ 8) underlying38 dC w;have:=run_eql_iface_types (P:=prog) 330 45 (ϗ (some p)) (ϊ 8) underlying38 dC w;have b:=NG 8 w;rw[show((8:Int) == 8)=true from rfl]at b;have:=U a;have:=ϻ a 1;go_enter func109,ntmps109;go_wp2;refine wp_loop_rounds 3 ?_;rw[rounds_succ];go_wp2;rw[rounds_succ];go_wp2;rw[rounds_succ];go_wp2;go_ret;exact⟨rfl,rfl⟩
end
section
open Go.RowKit Go.MuLone
def WW(k:Int)(w):Ω 109 #[.nilIface,.iface 45 (ϊ k)] w λe w'=>e=ϱ (ϐ false)/\w'=w:=by
 have:∀W:World,Sem.run prog (binOp .eql 38 .nilIface (.iface 45 (ϊ k))) W=.ok (.bool false) W:=λW=>by kernel_rfl
 go_enter func109,ntmps109;go_wp2;go_ret;exact⟨rfl,rfl⟩
def SL(args)(W):Sem.run prog (callFunc 108 args) W=.ok (.enter 108 args) W:=by
 simp[go_sem,func108]
def Ru(S F St f:Nat)(s)(first cap)(w)(R:ϩ->ϯ)(i:w.heap[S]?=some (ϲ #[ϖ St] 97))(h:w.heap[F]?=some (ϲ #[.func (.func f) first cap] 1))(j:w.heap[St]?=some (η 1 s))(g:s.po=true->R (some 7) w)
  (n:∀W:Ϣ,Sem.run prog (callFunc f (first++cap)) W=.ok (.enter f (first++cap)) W)
  (l:s.po=false->Calls prog f (first++cap) w λe w'=>∃k,e=Al k/\R k w'):
  Ω 108 #[ϖ S,ϖ F] w λe w'=>∃k,e=Al k/\R k w':=by
 have m:=Y i 0;have d:=Y h 0;have a:=Y j 7;simp at m d a
 cases hpo:s.po with
 | true=>
  rw[hpo]at a;go_enter func108,ntmps108;go_wp2;exact⟨rfl,rfl,some 7,rfl,g hpo⟩
 | false=>
 rw[hpo]at a;have c:=zh (l hpo);go_enter func108,ntmps108;go_wp2_with fail;refine(show Calls _ _ _ _ _ from c).mono ?_;rintro e o ⟨k,rfl,b⟩
 cases k with
 | none=>
  simp[Al];go_wp2
  go_end0
  exact⟨none,rfl,b⟩
 | some k=>
  simp[Al];go_wp2;exact⟨rfl,some k,rfl,b⟩
def ioK:Option Int→Bool
 | none=>false
 | some k=>decide (1000≤k)
def Sto.aft(s:Sto)(k:Option Int):Sto:={ s with po:=s.po || ioK k }
def Sto.qO8{s:Sto}{k:ϩ}(h:ioK k=false):s.aft k=s:=by simp[Sto.aft,h]
def WS{w}{v}{k:ϩ}(c:ErrV w v k)(d:k≠some 8):Ω 109 #[v,.iface 45 (ϊ 8)] w λe w'=>e=ϱ (ϐ (ioK k))/\w'=w:=by
 cases k with
 | none=>rw[show v=.nilIface from c];exact WW 8 w
 | some k=>
  obtain⟨F,f,rfl,a⟩:=c;by_cases h:k<1000
  .rw[(Iw h).1,(Iw h).2]at a;rw[show ioK (some k)=false by simp[ioK];omega];exact WT F _ k w (λe=>d (by rw[e])) a
  .obtain⟨b,rfl⟩:∃b:Nat,k=1000+b:=⟨(k-1000).toNat,oM⟩;rw[(Iv b).1,(Iv b).2]at a;rw[show ioK (some (1000+(b:Int)))=true by simp[ioK];omega];exact WV F _ _ w a
def ErrV.set{w}{v x}{k:ϩ}{St i:Nat}{c}{fr}(b:ErrV w v k)(f:w.heap[St]?=some (ϲ c 169 fr)):ErrV (w.setCell (ϰ St i) x) v k:=by
 cases k with
 | none=>exact b
 | some k=>
  let⟨F,d,e,a⟩:=b;refine⟨F,d,e,(AM (λe=>?_) _ _).trans a⟩;rw[e,f]at a;cases a
def IV(St f:Nat)(s)(first cap)(call)(X)(Q:ϩ->Sto->Ϣ->ϯ)(w)(m:w.heap[St]?=some (η 0 s))(O:s.po=true->∀W,Q (some 7) s W W)
  (N:∀W:Ϣ,Sem.run prog (callFunc f (first++cap)) W=.ok (.enter f (first++cap)) W) (D:∀i,i∈X->i<w.heap.size)
  (E:s.po=false->∀W:Ϣ,Kp [St] w W->W.heap[St]?=some (η 1 s)->Calls prog f (first++cap) W λe a=>∃k b,k≠some 8/\e=Al k/\Q k b W a/\Kp (St::X) W a/\a.heap[St]?=some (η 1 b)):
  Ω 64 #[ϖ St,ϕ call,.func (.func f) first cap] w λe w'=>∃k b v,e=ϱ v/\ErrV w' v k/\w'.heap[St]?=some (η 0 (b.aft k))/\Kp (St::X) w w'/\∃W a B,Q k b W a/\Kp [St] w W/\w.heap.size<=B/\B<W.heap.size/\a.heap[B]?=some (ϲ #[.nilIface] 38)/\Kp [St,B] a w'/\a.heap[St]?=some (η 1 b):=by
 have:=zM;have:=U m
 go_enter_defers func64,ntmps64
 go_wp2_with fail;apply mR (lock_free Ki (ϰ St 0) _ (Y (ν _ (ν _ m)) 0) (ρ (ν _ (ν _ m)) 0));rintro c rfl;obtain⟨c,C,z,T,q,M,r⟩:∃c,c=((w.alloc (ϲ #[ϖ St] 97)).alloc (ϲ #[.func (Fn.func f) first cap] 1)).setCell (ϰ St 0) (.int .i32 1)/\Kp [St] w c/\c.heap.size=w.heap.size+2/\Ϙ c w.heap.size (ϲ #[ϖ St] 97)/\c.heap[w.heap.size+1]?=some (ϲ #[.func (Fn.func f) first cap] 1)/\Ϙ c St (η 1 s):=by
  refine⟨_,rfl,(((kF.alloc _).alloc _).sc _),by simp[World.setCell],?_,?_,?_⟩
  .exact (AM oM _ _).trans (ν _ (μ _ _))
  .apply (AM oM _ _).trans;have e:=μ (w.alloc (ϲ #[ϖ St] 97)) (ϲ #[.func (Fn.func f) first cap] 1);simpa using e
  .exact ξ (ν _ (ν _ m)) 0 _
 rw[<-C];clear C;have y:=Y q 0;simp at y;have A:Kp [St] w ((c.alloc (ϲ #[ϕ call] 9)).alloc (ϲ #[.nilIface] 38)):=(z.alloc _).alloc _;have g:=λ(k:Nat)(o:Obj)(h:Ϙ c k o)=>ν (ϲ #[.nilIface] 38) (ν (ϲ #[ϕ call] 9) h);have F:Hid (Ω 108 #[ϖ w.heap.size,ϖ (w.heap.size+1)] ((c.alloc (ϲ #[ϕ call] 9)).alloc (ϲ #[.nilIface] 38)) λe a=>∃k,e=Al k/\(∃b,k≠some 8/\Q k b ((c.alloc (ϲ #[ϕ call] 9)).alloc (ϲ #[.nilIface] 38)) a/\Ϙ a St (η 1 b))/\Kp (St::X) ((c.alloc (ϲ #[ϕ call] 9)).alloc (ϲ #[.nilIface] 38)) a):=by
  refine Ru w.heap.size (w.heap.size+1) St f s first cap _ (λk a=>(∃b,k≠some 8/\Q k b ((c.alloc (ϲ #[ϕ call] 9)).alloc (ϲ #[.nilIface] 38)) a/\Ϙ a St (η 1 b))/\Kp (St::X) ((c.alloc (ϲ #[ϕ call] 9)).alloc (ϲ #[.nilIface] 38)) a) (g _ _ q) (g _ _ M) (g _ _ r) (λh=>⟨⟨s,dC,O h _,g _ _ r⟩,Kp.refl _ _⟩) N (λh=>(E h _ A (g _ _ r)).mono ?_)
  rintro e a ⟨k,b,H,I,p,K,L⟩;exact⟨k,I,⟨b,H,p,L⟩,K⟩
 clear E g;go_wp2_with fail;apply(Jh 108 _ _ _ _ (St::X) (λi j=>by rcases List.mem_cons.1 j with rfl | h;omega;have:=D _ h;omega) (SL _) F).mono;rintro e S ⟨k,v,a,rfl,hv,hF,⟨b,hk8,hQ,hst⟩,hE1,hKw,hK12⟩;have:=hKw.size;have d:=hK12.ho hst;have u:Hid (∀t,Kp [St] S t->∃W a B,Q k b W a/\Kp [St] w W/\w.heap.size<=B/\B<W.heap.size/\Ϙ a B (ϲ #[.nilIface] 38)/\Kp [St,B] a t/\Ϙ a St (η 1 b)):=
  λt p=>⟨_,a,c.heap.size+1,hQ,A,oM,sM,hE1,(hK12.mono (S':=[St,c.heap.size+1]) sM).trans p (by simp +contextual),hst⟩
 have x:=zh (((z.mono (S':=St::X) sM).trans hKw (λ_ h _=>h)).trans hK12 (by intro i j hlt;simp at j;omega));have l:=hid (WS hv hk8);have G:=Y (hK12.heap (hKw.heap q (λj=>by rcases List.mem_cons.1 j with h | h;omega;have:=D _ h;omega)) sO) 0;simp[zG,zH,zI]at G;clear hQ hE1 hK12 hKw y
 cases hio:ioK k with
 | false=>
  rw[hio]at l
  go_wp2_with (go_at_call 109;apply mR (show Calls _ _ _ _ _ from l);rintro w' rfl)
  apply leaves_cons (f:=106) (args:=#[ϖ St]) sM (by simp[go_sem]);apply(unlock_deferred Ki (ϰ St 0) .returning _ (Y d 0) (ρ d 0)).mono;rintro e P R ⟨rfl,rfl,rfl⟩;exact⟨_,results_tmp rfl _ _ _,k,b,v,rfl,hv.set d,by rw[Sto.qO8 hio];exact ξ d 0 _,x.sc _,u _ (kF.sc _)⟩
 | true=>
  have:=ϻ d 7;have:=ρ d 7;have:=U d;rw[hio]at l
  go_wp2_with (go_at_call 109;apply mR (show Calls _ _ _ _ _ from l);rintro w' rfl)
  have n:=ξ d 7 (.bool true);apply leaves_cons (f:=106) (args:=#[ϖ St]) sM (by simp[go_sem]);apply(unlock_deferred Ki (ϰ St 0) .returning _ (Y n 0) (ρ n 0)).mono;rintro e P R ⟨rfl,rfl,rfl⟩;refine⟨_,results_tmp rfl _ _ _,k,b,v,rfl,(hv.set d).set n,?_,(x.sc _).sc _,u _ ((kF.sc _).sc _)⟩;rw[show b.aft k={ b with po:=true } by simp[Sto.aft,hio]];exact ξ n 0 _
def Rv(k:ϩ)(j:k≠some 8/\ioK k=false)(St f:Nat)(s s')(first cap)(call)(X)(Q:Ϣ->ϯ)(w)(n:w.heap[St]?=some (η 0 s))(q:s.po=false)
  (p:∀W:Ϣ,Sem.run prog (callFunc f (first++cap)) W=.ok (.enter f (first++cap)) W) (o:∀i,i∈X->i<w.heap.size)
  (r:∀W:Ϣ,Kp [St] w W->W.heap[St]?=some (η 1 s)->Calls prog f (first++cap) W λe a=>e=Al k/\Q W a/\Kp (St::X) W a/\a.heap[St]?=some (η 1 s')):
  Ω 64 #[ϖ St,ϕ call,.func (.func f) first cap] w λe w'=>∃v,e=ϱ v/\ErrV w' v k/\w'.heap[St]?=some (η 0 s')/\Kp (St::X) w w'/\∃W a B,Q W a/\Kp [St] w W/\w.heap.size<=B/\B<W.heap.size/\a.heap[B]?=some (ϲ #[.nilIface] 38)/\Kp [St,B] a w':=by
 refine(IV St f s first cap call X (λu t W a=>u=k/\t=s'/\Q W a) w n (λh=>by rw[q]at h;cases h) p o λ_ W l m=>(r W l m).mono ?_).mono ?_
 .rintro e a ⟨c,d,b,g⟩;exact⟨k,s',j.1,c,⟨rfl,rfl,d⟩,b,g⟩
 .rintro e w' ⟨_,_,v,c,d,b,g,W,a,B,⟨rfl,rfl,e5⟩,e6,e7,e8,e9,e10,_⟩;exact⟨v,c,d,by rw[Sto.qO8 j.2]at b;exact b,g,W,a,B,e5,e6,e7,e8,e9,e10⟩
end
def zS6{p:Prop}(_h:p:=by
 have hh:h=⟨⟨#[]⟩,0,0,none⟩:=hR;have hem:Ω 92 #[θ E.V h] w0 λe w'=>e=ϱ (.bool true)/\Kp [] w0 w':=by rw[hh];exact GW E.V w0
 clear hh;refine mR (show Calls _ _ _ _ _ from hem) ?_;rintro w1 hK1;have hT1:=ag.tail hK1;have bo:=hK1.hp af;have:=U bo;have:=Y bo;have:=ρ bo;go_wp2;have hts:=BO (.string ⟨#[]⟩) (.string ⟨#[]⟩) bo;have ah:=hT1.qN5 oM bo dC hts.2;have t0:=ϻ hts.1 0;have t1:=ϻ hts.1 1;refine bodyPost_ret (v:=AB none) ?_ rfl (.inr ⟨rfl,ah⟩);exact Tz.out):p:=_h
def zS7{p:Prop}(_h:p:=by
 clear bv bt bp;refine zU 5 (.agg #[.string fk,.string fv]) bu ?_;refine zU 6 (.bool fb) bu ?_;have:=U bq;have z0:=Y bq;have fz0:=ρ bq;refine zq 7 λK hK=>?_;go_simp;have hts:=BO (.string fk) (.string fv) bq;let⟨w4,hw4,hR4,hK4⟩:=gE hts;rw[<-hw4];clear hw4 hts z0 fz0;have hT4:=ah.qN5 oM bq dC hK4;have hS4:=hK4.hp bu;refine zk hK hS4 ?_;refine zq 8 λK hK=>?_;go_simp;refine zk hK hS4 ?_;refine zd ?_;go_wp2;have t0:=ϻ hR4 0;have t1:=ϻ hR4 1;exact Tz.out):p:=_h
def QR{p:Prop}(_h:p:=by
 clear ae af hK0 ag hK1 br;go_wp2_with fail;have hS0:=hB1;refine wp_region_held_drew (S:=λW=>Ϙ W w.heap.size (ϲ (ϟ E.V h) 89)) kR hS0 (λ_=>?_);refine zW 0 (.agg (ϟ E.V h)) hS0 id ?_;refine zW 1 (.agg (ϟ E.V h)) hS0 id ?_;refine zU 3 (.func (.func g) #[] cap) hS0 ?_;exact Tz.out):p:=_h
def Iu(E)(r)(h)(g:Nat)(cap)(f:Ϧ->Bool)(w)(hd:E.Dev w)(hR:RR E w h r)(hg:RGood r)(m:Up f)(i:Asks E w g cap f)
  (j:ϴ g):
  E.C 49 #[θ E.V h,.func (.func g) #[] cap] w λe w'=>e=ϱ (AB (r.cont.find? λq=>f q.k))/\E.To w w':=by
 rw[θ];go_enter func49,ntmps49;go_wp2_with fail;let⟨w0,hw0,ae,af,hK0,hs0⟩:=alC w (ϲ (ϟ E.V h) 89) (ϲ ϝ 42)
 rw[<-hw0];have ag:=Env.To.of0 hd hK0
 cases r with
 | none=>
  have Tz:Hid (∀{p:Prop},(_h:p:=by
   simp[results,results49,go_sem,t0,t1,AB])->p):=λh=>h;exact zS6
 | «at» n l=>
  have br:RL E.O n w h l:=hR;let⟨g1,c,o⟩:=hg;refine mR (EQ E n h l w0 (Env.RL br hd ag) g1) ?_;rintro w1 hK1;have hT1:=ag.tail hK1;have hB1:=hK1.hp ae;have bo:=hK1.hp af;have b:=zh (Env.RL br hd hT1);have hc1:1<=cnt n l.sub:=oM
  obtain⟨fk,fv,fb,a⟩:∃fk fv fb,AB ((cont n l.sub).find? λq=>f q.k)=.tuple #[.agg #[.string fk,.string fv],.bool fb]:=by
   cases (cont n l.sub).find? λq=>f q.k with
   | none=>exact⟨_,_,_,rfl⟩
   | some p=>exact⟨_,_,_,rfl⟩
  have Tz:Hid (∀{p:Prop},(_h:p:=by
   refine zq 2 λK hK=>?_;go_simp;have hTd:=hT1.tail (kF.drew);refine Env.call (Fr E n h l w1.drew hTd.dev (RL.qM3 b ((Kp.refl [] _).drew) (Apt.nil _ _))) hTd ?_;rintro e w2 ⟨q,rfl,d,bv⟩;have hT2:=hTd.trans bv;have bt:=bv.new (k:=w.heap.size) hd oM hS0;have bp:=bv.new (k:=w.heap.size+1) hd oM bo;refine zk hK bt ?_
   clear bv hTd hS0 hB1;refine zq 4 λK hK=>?_;go_simp;refine Env.call (VG E g cap f m j n h l q w2 hT2.dev d c hc1 (i.to hT2)) hT2 ?_;rintro e w3 ⟨rfl,bv⟩;rw[a];have ah:=hT2.trans bv;have bu:=bv.new (k:=w.heap.size) hd oM bt;have bq:=bv.new (k:=w.heap.size+1) hd oM bp;refine zk hK bu ?_
   have Tz:Hid (∀{p:Prop},(_h:p:=by
    refine bodyPost_ret (v:=.tuple #[.agg #[.string fk,.string fv],.bool fb]) ?_ rfl (.inr ⟨?_,hT4⟩)
    .simp[results,results49,go_sem,t0,t1]
    .rw[show(Root.at n l).cont=cont n l.sub from rfl,a])->p):=λh=>h;exact zS7)->p):=λh=>h;exact QR
structure Tx where
 St:Nat
 nr:Int
 wrt:Bool
 over:Bool
 on:Ϭ
 h:HL
 ch:Int
def Ac(t:Tx):Obj:=
 .cells #[.pointer (some ⟨t.St,0,none⟩),.int .u64 t.nr,.bool t.wrt,.bool t.over,.pointer t.on,.string t.h.key,.int .i64 t.h.b,.int .u64 t.h.s,.pointer t.h.ptr,.int .u64 t.ch] 99
def SM(args)(W):Sem.run prog (callFunc 90 args) W=.ok (.enter 90 args) W:=by
 simp[go_sem,func90]
def Wp(S F x f:Nat)(t)(first cap)(w)(R:ϩ->ϯ)(d:w.heap[S]?=some (ϲ #[ϖ x] 32))(c:w.heap[F]?=some (ϲ #[.func (.func f) first cap] 1))(i:w.heap[x]?=some (Ac t))(g:t.over=false)
  (m:∀W:Ϣ,Sem.run prog (callFunc f (first++cap)) W=.ok (.enter f (first++cap)) W)
  (h:Calls prog f (first++cap) w λe w'=>∃k,e=Al k/\R k w'):
  Ω 90 #[ϖ S,ϖ F] w λe w'=>∃k,e=Al k/\R k w':=by
 have l:=Y d 0;have b:=Y c 0;have j:=Y i 3;simp[g]at l b j;go_enter func90,ntmps90;go_wp2_with fail;refine(show Calls _ _ _ _ _ from h).mono ?_;rintro e n ⟨k,rfl,a⟩
 cases k with
 | none=>
  simp[Al];go_wp2
  go_end0
  exact⟨none,rfl,a⟩
 | some k=>
  simp[Al];go_wp2;exact⟨rfl,some k,rfl,a⟩
def Wq(S F x:Nat)(t)(w)(a:w.heap[S]?=some (ϲ #[ϖ x] 32))(c:w.heap[x]?=some (Ac t))(b:t.over=true):
  Ω 90 #[ϖ S,ϖ F] w λe w'=>e=Al (some 5)/\w'=w:=by
 have f:=Y a 0;have d:=Y c 3;simp[b]at f d;go_enter func90,ntmps90;go_wp2;exact⟨rfl,rfl,rfl,rfl⟩
def Nw(x St f:Nat)(t)(s)(first cap)(call)(X)(Q:ϩ->Sto->Ϣ->ϯ)(w)(y:w.heap[x]?=some (Ac t))(P:t.St=St)(n:w.heap[St]?=some (η 0 s))(O:s.po=true->∀W,Q (some 7) s W W)(p:∀i,i∈X->i<w.heap.size)
  (u:s.po=false->∀W:Ϣ,Kp [St] w W->W.heap[St]?=some (η 1 s)->W.heap[w.heap.size]?=some (ϲ #[ϖ x] 32)->W.heap[w.heap.size+1]?=some (ϲ #[.func (.func f) first cap] 1)->Ω 90 #[ϖ w.heap.size,ϖ (w.heap.size+1)] W λe a=>∃k b,k≠some 8/\e=Al k/\Q k b W a/\Kp (St::X) W a/\a.heap[St]?=some (η 1 b)):
  Ω 45 #[ϖ x,ϕ call,.func (.func f) first cap] w λe w'=>∃k b v,e=ϱ v/\ErrV w' v k/\w'.heap[St]?=some (η 0 (b.aft k))/\Kp (St::X) w w'/\∃W a B,Q k b W a/\Kp [St] w W/\w.heap.size<=B/\B<W.heap.size/\a.heap[B]?=some (ϲ #[.nilIface] 38)/\Kp [St,B] a w'/\a.heap[St]?=some (η 1 b):=by
 have:=zM;have:=U n;have:=U y;subst P;have C:=Y (ν (ϲ #[.func (Fn.func f) first cap] 1) (ν (ϲ #[ϖ x] 32) y)) 0;simp[zG,zH]at C;obtain⟨c,L,d,S,D,G⟩:∃c,c=(w.alloc (ϲ #[ϖ x] 32)).alloc (ϲ #[.func (Fn.func f) first cap] 1)/\Kp [] w c/\c.heap.size=w.heap.size+2/\Ϙ c w.heap.size (ϲ #[ϖ x] 32)/\c.heap[w.heap.size+1]?=some (ϲ #[.func (Fn.func f) first cap] 1):=by
  refine⟨_,rfl,(kF.alloc _).alloc _,sM,ν _ (μ _ _),?_⟩;have e:=μ (w.alloc (ϲ #[ϖ x] 32)) (ϲ #[.func (Fn.func f) first cap] 1);simpa using e
 have j:Hid (Ω 64 #[ϖ t.St,ϕ call,.func (.func 90) #[] #[ϖ w.heap.size,ϖ (w.heap.size+1)]] c _):=IV t.St 90 s #[] #[ϖ w.heap.size,ϖ (w.heap.size+1)] call X Q c (d.hp n) O (SM _) (λi M=>by have:=p i M;omega) λN W hK K=>
  u N W ((d.mono (S':=[t.St]) sM).trans hK (λ_ h _=>h)) K (hK.ho D) (hK.ho G)
 clear u p;go_enter func45,ntmps45;go_wp2_with fail;rw[<-L];refine(show Calls _ _ _ _ _ from j).mono ?_;rintro e g ⟨k,b,v,rfl,r,o,H,W,a,B,m,I,R,E,F,l,q⟩;have A:Hid (∃k b z,Ending.returned v=ϱ z/\ErrV g z k/\Ϙ g t.St (η 0 (b.aft k))/\Kp (t.St::X) w g/\∃W a B,Q k b W a/\Kp [t.St] w W/\w.heap.size<=B/\B<W.heap.size/\Ϙ a B (ϲ #[.nilIface] 38)/\Kp [t.St,B] a g/\Ϙ a t.St (η 1 b)):=
  ⟨k,b,v,rfl,r,o,(d.mono (S':=t.St::X) sM).trans H (λ_ h _=>h),W,a,B,m,(d.mono (S':=[t.St]) sM).trans I (λ_ h _=>h),oM,E,F,l,q⟩
 clear r m l o q j;go_wp2;go_ret;exact A
def EV(x St f:Nat)(t)(s)(first cap)(call)(X)(Q:ϩ->Sto->Ϣ->ϯ)(w)(h:w.heap[x]?=some (Ac t))(r:t.over=false)(z:t.St=St)(n:w.heap[St]?=some (η 0 s))(y:s.po=true->∀W,Q (some 7) s W W)(q:x≠St)
  (p:∀W:Ϣ,Sem.run prog (callFunc f (first++cap)) W=.ok (.enter f (first++cap)) W) (o:∀i,i∈X->i<w.heap.size)
  (A:s.po=false->∀W:Ϣ,Kp [St] w W->W.heap[St]?=some (η 1 s)->Calls prog f (first++cap) W λe a=>∃k b,k≠some 8/\e=Al k/\Q k b W a/\Kp (St::X) W a/\a.heap[St]?=some (η 1 b)):
  Ω 45 #[ϖ x,ϕ call,.func (.func f) first cap] w λe w'=>∃k b v,e=ϱ v/\ErrV w' v k/\w'.heap[St]?=some (η 0 (b.aft k))/\Kp (St::X) w w'/\∃W a B,Q k b W a/\Kp [St] w W/\w.heap.size<=B/\B<W.heap.size/\a.heap[B]?=some (ϲ #[.nilIface] 38)/\Kp [St,B] a w'/\a.heap[St]?=some (η 1 b):=
 Nw x St f t s first cap call X Q w h z n y o λu W hK m j l=>
  (Wp _ _ x f t first cap W (λk a=>∃b,k≠some 8/\Q k b W a/\Kp (St::X) W a/\Ϙ a St (η 1 b)) j l (hK.heap h (by simp;exact q)) r p ((A u W hK m).mono λe a ⟨k,b,c,d,g⟩=>⟨k,d,b,c,g⟩)).mono λe a ⟨k,d,b,c,g⟩=>⟨k,b,c,d,g⟩
def Hh(k:ϩ)(j:k≠some 8/\ioK k=false)(x St f:Nat)(t)(s s')(first cap)(call)(X)(Q:Ϣ->ϯ)(w)(A:w.heap[x]?=some (Ac t))(r:t.over=false)(y:t.St=St)(n:w.heap[St]?=some (η 0 s))(u:s.po=false)(q:x≠St)
  (p:∀W:Ϣ,Sem.run prog (callFunc f (first++cap)) W=.ok (.enter f (first++cap)) W) (o:∀i,i∈X->i<w.heap.size)
  (z:∀W:Ϣ,Kp [St] w W->W.heap[St]?=some (η 1 s)->Calls prog f (first++cap) W λe a=>e=Al k/\Q W a/\Kp (St::X) W a/\a.heap[St]?=some (η 1 s')):
  Ω 45 #[ϖ x,ϕ call,.func (.func f) first cap] w λe w'=>∃v,e=ϱ v/\ErrV w' v k/\w'.heap[St]?=some (η 0 s')/\Kp (St::X) w w'/\∃W a B,Q W a/\Kp [St] w W/\w.heap.size<=B/\B<W.heap.size/\a.heap[B]?=some (ϲ #[.nilIface] 38)/\Kp [St,B] a w':=by
 refine(EV x St f t s first cap call X (λC t W a=>C=k/\t=s'/\Q W a) w A r y n (λh=>by rw[u]at h;cases h) q p o λ_ W l m=>(z W l m).mono ?_).mono ?_
 .rintro e a ⟨c,d,b,g⟩;exact⟨k,s',j.1,c,⟨rfl,rfl,d⟩,b,g⟩
 .rintro e w' ⟨_,_,v,c,d,b,g,W,a,B,⟨rfl,rfl,e5⟩,e6,e7,e8,e9,e10,_⟩;exact⟨v,c,d,by rw[Sto.qO8 j.2]at b;exact b,g,W,a,B,e5,e6,e7,e8,e9,e10⟩
def goK(s:Sto):Int:=if s.po=true then 7 else 5
def Eu(x St f:Nat)(t)(s)(first cap)(call)(w)(a:w.heap[x]?=some (Ac t))(g:s.po=true\/t.over=true)(i:t.St=St)(c:w.heap[St]?=some (η 0 s))(d:x≠St):
  Ω 45 #[ϖ x,ϕ call,.func (.func f) first cap] w λe w'=>∃v,e=ϱ v/\ErrV w' v (some (goK s))/\w'.heap[St]?=some (η 0 s)/\Kp [St] w w':=
 (Nw x St f t s first cap call [] (λk b _ _=>k=some (goK s)/\b=s) w a i c (λh _=>⟨by simp[goK,h],rfl⟩) sM λhp W hK hS hB hF=>
  (Wq _ _ x t W hB (hK.heap a (by simp;exact d)) (g.resolve_left (by rw[hp];decide))).mono λe j h=>⟨some 5,s,dC,h.1,⟨by simp[goK,hp],rfl⟩,by rw[h.2];exact Kp.refl _ _,by rw[h.2];exact hS⟩).mono λe w' ⟨k,b,v,h1,h2,h3,h4,_,_,_,⟨e1,e2⟩,_⟩=>⟨v,h1,by rw[<-e1];exact h2,by
   rw[Sto.qO8 (by rw[e1,goK];split<;>rfl),e2]at h3;exact h3,h4⟩
open Go.Maps (Keyed)
open Go.ChangeMaps
def Mh(V:Nat)(b s:Int)(w):
  Ω 110 #[ϖ V,.agg #[ϊ b,.int .u64 s]] w λe w'=>e=ϱ (θ V ⟨⟨#[]⟩,b,s,none⟩)/\Kp [] w w':=by
 go_enter func110,ntmps110;go_wp2;refine bodyPost_ret (results_cell_row results110 _ _ (w.heap.size+1) 89 #[ϖ V,ϕ ⟨#[]⟩,ϊ b,.int .u64 s,ϗ none] (0,0) _ rfl ?_ underlying89 rfl kR) rfl ⟨rfl,(kF.alloc _).alloc _⟩;simpa using(μ (w.alloc (ϲ #[ϊ b,.int .u64 s] 84)) (ϲ #[ϖ V,ϕ ⟨#[]⟩,ϊ b,.int .u64 s,ϗ none] 89))
def Gk(St:Nat)(m:Int)(s)(w)(k:w.heap[St]?=some (η m s)):
  Ω 66 #[ϖ St] w λe w'=>e=ϱ (θ s.V ⟨⟨#[]⟩,s.rb,s.rs,none⟩)/\Kp [] w w':=by
 have:=U k;go_enter func66,ntmps66;go_wp2_with fail;obtain⟨f,l,p,g⟩:=alA w (ϲ ϛ 89);rw[<-l];clear l;have a:=g.hp k;refine wp_region_held_drew (S:=λW=>Ϙ W St (η m s)) kR a (λ_=>?_);apply zP 0 St 0 a;apply zP 1 St 0 a;refine zP 2 St 2 a ?_;apply zV 3 (ϖ s.V) rfl (λW c=>by have:=ϻ c 2;go_simp) a;refine zP 4 St 0 a ?_;apply zP 5 St 0 a;apply zP 6 St 3 a;apply zP 7 St 4 a;apply zV 8 (.agg #[ϊ s.rb,.int .u64 s.rs]) rfl (λW c=>by have:=ϻ c 4;have:=ϻ c 5;go_simp) a;refine zq 9 λK hK=>?_;go_simp;refine mR (Mh s.V s.rb s.rs f.drew) ?_;rintro x o;have d:Kp [] f x:=((Kp.refl _ f).drew).tr o;have j:=d.hp a;have b:=d.hp p;have:=U b;refine hK.out _ _ j (λ_=>?_)
 try simp[zZ]
 have:=Y b;have:=ρ b;refine zq 10 λK hK=>?_;rw[θ];go_simp;obtain⟨z,v,q,h⟩:=gE (DE (ϖ s.V) (ϕ ⟨#[]⟩) (ϊ s.rb) (.int .u64 s.rs) (ϗ none) b);have u:HL.ptr ⟨⟨#[]⟩,s.rb,s.rs,none⟩=none:=rfl
 try simp[u]
 rw[<-v];have r:=h.ho j;refine hK.out _ _ r (λ_=>?_);refine zd ?_;have n:=zh ((g.tr d).trans h (by intro i t y;simp at t;omega));go_wp2;exact bodyPost_ret (results_cell_row results66 _ _ (ϳ w) 89 #[ϖ s.V,ϕ ⟨#[]⟩,ϊ s.rb,.int .u64 s.rs,ϗ none] (0,0) _ rfl q underlying89 rfl kR) rfl ⟨rfl,n⟩
def EL(V:Nat):Value→Option (DataW Unit×List MemPlace)
 | .agg c=>match c.toList with
  | [.pointer (some a),.string k,.int .i64 x,.int .u64 y,.pointer none]=>if a.block=V∧a.off=0∧a.spot=none then some (.agg [.lit (.string k.data.toList),.lit (.int .i64 x),.lit (.int .u64 y)],[]) else none
  | _=>none
 | _=>none
def RM(w:Ϣ)(V M n:Nat)(D:Ϫ):Prop:=w.ownsMap prog 78 (EL V) M n D
def CH:Keyed prog 78:=Maps.int_keyed underlying78
def RM.kp{S}{w w'}{V M n:Nat}{D}(h:RM w V M n D)(hK:Kp S w w')(c:M∉S):RM w' V M n D:=by
 let⟨b,a,d,e⟩:=h;exact⟨b,a,hK.heap d c,e⟩
def Kp.qT8{w w'}{M:Nat}(h:w.mapTurned w' M):Kp [M] w w':=
 (Kp.refl [M] w).grown h.grown (λk a=>by cases a;exact .inl sM)
def Gd:prog.underlying 167=some (.map 78 89):=underlying167
def χ(n:Int):Lit:=.int .u64 n
def NP{n:Int}(a:0<=n)(b:n<=1000000000):keyOf prog 78 (.int .u64 n)=some (χ n):=
 Maps.keyOf_int_mk underlying78 (by simp[Lit.wf,IntKind.min,IntKind.max,IntKind.signed,IntKind.bits];omega)
def RM.len{w}{V M n:Nat}{D}(h:RM w V M n D)(ty):(Builtin.len_ #[167] ty #[.map (some M)]).run prog w=.ok (ϊ (Maps.size D)) w:=
 World.ownsMap.len h Gd ty
def RM.drop{w}{V M n:Nat}{D}(h:RM w V M n D){x:Int}(b:0<=x)(a:x<=1000000000)(ty):
  ∃w',(Builtin.delete_ #[167,78] ty #[.map (some M),.int .u64 x]).run prog w=.ok (.tuple #[]) w'/\RM w' V M n (D.del (χ x))/\Kp [M] w w':=by
 let⟨w',a,c,d⟩:=World.ownsMap.drop h CH Gd (NP b a) ty;exact⟨w',a,c,Kp.qT8 d⟩
def Bq(h:HL):DataW Unit:=.agg [.lit (.string h.key.data.toList),.lit (.int .i64 h.b),.lit (.int .u64 h.s)]
def RM.store{w}{V M n:Nat}{D}(h:RM w V M n D){x:Int}(b:0<=x)(a:x<=1000000000)(i:n<=1000000000)(r)(f:r.p=none):
  ∃w',(Instr.mapUpdate 167 (.map (some M)) (.int .u64 x) (θ V r)).run prog w=.ok () w'/\RM w' V M (n+1) (D.put (χ x) (Bq r))/\Kp [M] w w':=by
 have g:EL V (θ V r)=some (Bq r,[]):=by
  have e:r.ptr=none:=by simp[HL.ptr,f]
  rw[θ,e];simp[EL,Bq]
 let⟨w',a,c,d⟩:=World.ownsMap.store h CH Gd (by simp[maxLen];omega) (NP b a) g;exact⟨w',a,c,Kp.qT8 d⟩
def Sto.wrote(s:Sto):Sto:={ s with bg:=s.bg+1,wr:=s.bg+1 }
def Sto.read(s:Sto):Sto:={ s with bg:=s.bg+1 }
def Sto.left(s:Sto)(nr:Int):Sto:={ s with wr:=if nr=s.wr then 0 else s.wr }
def Vg(St:Nat)(s)(w)(a:w.heap[St]?=some (η 1 s))(b:s.wr=0)(d:0<=s.bg)(f:s.bg<=100000000):
  Ω 67 #[ϖ St,ϐ true] w λe w'=>e=ϱ (.int .u64 (s.bg+1))/\w'.heap[St]?=some (η 1 s.wrote)/\Kp [St] w w':=by
 have:=U a;have:=ϻ a 8;have c:=ϻ a 9;have:=ρ a;rw[b]at c;go_enter func67,ntmps67;go_wp2;go_ret;exact⟨rfl,ξ (ξ a 8 _) 9 _,(kF.sc _).sc _⟩
def Ve(St:Nat)(s)(w)(a:w.heap[St]?=some (η 1 s))(b:s.wr≠0):
  Ω 67 #[ϖ St,ϐ true] w λe w'=>e=Al (some 4)/\w'=w:=by
 have:=U a;have c:=ϻ a 9;go_enter func67,ntmps67;go_wp2;exact⟨rfl,rfl,rfl,rfl⟩
def Vd(St n:Nat)(s)(D)(w)(a:w.heap[St]?=some (η 1 s))(c:RM w s.V s.M n D)(b:Maps.size D=4):
  Ω 67 #[ϖ St,ϐ false] w λe w'=>e=Al (some 4)/\w'=w:=by
 have:=U a;have:=ϻ a 10;have d:=c.len 3;rw[b]at d;go_enter func67,ntmps67;go_wp2;exact⟨rfl,rfl,rfl,rfl⟩
def Vf(St n:Nat)(s)(D)(w)(d:w.heap[St]?=some (η 1 s))(m:RM w s.V s.M n D)(t:Maps.size D<4)(G:n<=100000000)(E:0<=s.bg)(F:s.bg<=100000000)(q:s.M≠St):
  Ω 67 #[ϖ St,ϐ false] w λe w'=>e=ϱ (.int .u64 (s.bg+1))/\w'.heap[St]?=some (η 1 s.read)/\RM w' s.V s.M (n+1) (D.put (χ (s.bg+1)) (Bq ⟨⟨#[]⟩,s.rb,s.rs,none⟩))/\Kp [St,s.M] w w':=by
 have:=U d;have:=ϻ d 8;have:=ϻ d 10;have:=ρ d 8;have:=m.len 3;have:¬((Maps.size D:Nat):Int)=4:=oM
 clear t;go_enter func67,ntmps67;go_wp2_with fail;obtain⟨b,r,a,k⟩:∃b,b=w.setCell (ϰ St 8) (.int .u64 (s.bg+1))/\Ϙ b St (η 1 s.read)/\Kp [St] w b:=⟨_,rfl,ξ d 8 _,kF.sc _⟩;rw[<-r];clear r;have o:=m.kp k (by simp;exact q);have:=o;refine wp_region_held_drew (S:=λW=>Ϙ W St (η 1 s.read)) kR a (λ_=>?_);apply zP 0 St 0 a;apply zP 1 St 0 a;refine zP 2 St 10 a ?_;apply zV 3 (.map (some s.M)) rfl (λW i=>by have c:=Y i 10;simp[η,Sto.read,zG,zH,zI]at c;go_simp) a;refine zP 4 St 0 a ?_;apply zP 5 St 0 a;refine zP 6 St 8 a ?_;refine zV 7 (.int .u64 (s.bg+1)) rfl (λW i=>by have c:=Y i 8;simp[η,Sto.read,zG,zH,zI]at c;go_simp) a ?_;refine zP 8 St 0 a ?_;refine zq 9 λK hK=>?_;go_simp;refine mR (Gk St 1 s.read b.drew a) ?_;rintro C u;have g:Kp [] b C:=((Kp.refl _ b).drew).tr u;have p:=g.hp a;have v:=o.kp g sM;refine hK.out _ _ p (λ_=>?_)
 try simp[zZ]
 let⟨H,A,y,l⟩:=v.store (x:=s.bg+1) oM oM oM ⟨⟨#[]⟩,s.rb,s.rs,none⟩ rfl;have f:=l.heap p (by simp;exact λh=>q h.symm);refine zq 10 λK hK=>?_;have z:θ s.read.V ⟨⟨#[]⟩,s.read.rb,s.read.rs,none⟩=θ s.V ⟨⟨#[]⟩,s.rb,s.rs,none⟩:=rfl;rw[z];rw[θ]at A |-;go_simp;refine hK.out _ _ f (λ_=>?_);refine zd ?_;have j:=zh (n2 y (((k.mono (S':=[St,s.M]) sC).tr g).trans l sC));have:=U f;have B:=Y f 8;simp[η,Sto.read,zG,zH,zI]at B;go_wp2;go_ret;exact⟨rfl,f,j.1,j.2⟩
def XN(St n:Nat)(s)(a:Int)(D)(w)(b:w.heap[St]?=some (η 1 s))(j:RM w s.V s.M n D)(p:0<=a)(q:a<=1000000000)(g:s.M≠St):
  Ω 111 #[ϖ St,.int .u64 a] w λe w'=>e=ϱ (.tuple #[])/\w'.heap[St]?=some (η 1 (s.left a))/\RM w' s.V s.M n (D.del (χ a))/\Kp [St,s.M] w w':=by
 have:=U b;by_cases i:a=s.wr
 .obtain⟨k,u,o,m⟩:∃k,k=w.setCell (ϰ St 9) (.int .u64 0)/\Ϙ k St (η 1 (s.left a))/\Kp [St] w k:=⟨_,rfl,by rw[Sto.left,if_pos i];exact ξ b 9 _,kF.sc _⟩;have r:=j.kp m (by simp;exact g);let⟨d,t,f,c⟩:=r.drop p q 0;have l:Hid (Ϙ d St (η 1 (s.left a))/\RM d s.V s.M n (D.del (χ a))/\Kp [St,s.M] w d):=⟨c.heap o (by simp;exact λh=>g h.symm),f,(m.mono sC).trans c sC⟩;have v:=ϻ b 9;have:=ϻ b 10;have x:=Y o 10;simp[η,Sto.left,zG,zH,zI]at x;have:=ρ b 9;rw[u]at x t;rw[<-i]at v;clear b j o r f m c g u i;go_enter func111,ntmps111;go_wp2
  go_end0
  exact⟨rfl,l⟩
 .let⟨d,t,f,c⟩:=j.drop p q 0;have l:Hid (Ϙ d St (η 1 (s.left a))/\RM d s.V s.M n (D.del (χ a))/\Kp [St,s.M] w d):=⟨by rw[Sto.left,if_neg i];exact c.heap b (by simp;exact λh=>g h.symm),f,c.mono sC⟩;have v:=ϻ b 9;have:=ϻ b 10;have:(a == s.wr)=false:=by simp[i]
  clear b j f c g;go_enter func111,ntmps111;go_wp2
  go_end0
  exact⟨rfl,l⟩
def RU(X B T f St:Nat)(j:Bool)(s s')(r:Int)(L)(R:ϯ)(w)(Q:w.heap[X]?=some (ϲ #[ϖ f] 28))(D:w.heap[B]?=some (ϲ #[ϐ j] 4))(O:w.heap[T]?=some (ϲ #[ϗ none] 32))
  (E:w.heap[f]?=some (ϲ #[ϖ St] 102)) (M:w.heap[St]?=some (η 1 s))
  (z:X∉St::L/\B∉St::L/\f∉St::L/\T∉St::L) (C:T≠X/\T≠B/\T≠f/\T≠St)
  (hE:∀W:Ϣ,Kp [] w W->Ω 67 #[ϖ St,ϐ j] W λe w'=>e=ϱ (.int .u64 r)/\w'.heap[St]?=some (η 1 s')/\R w'/\Kp (St::L) W w')
  (G:∀a b:Ϣ,R a->Kp [T] a b->R b):
  Ω 65 #[ϖ X,ϖ B,ϖ T] w λe w'=>e=Al none/\(∃x,w.heap.size<=x/\w'.heap[x]?=some (Ac ⟨St,r,j,false,some (ϰ s.V 0),⟨⟨#[]⟩,s.rb,s.rs,none⟩,0⟩)/\w'.heap[T]?=some (ϲ #[ϖ x] 32))/\R w'/\Kp (St::T::L) w w'/\w'.heap[St]?=some (η 1 s'):=by
 have:=U O;go_enter func65,ntmps65;go_wp2_with fail;have g:=n3 Q D E;refine wp_region_held_drew (S:=λW=>Ϙ W X (ϲ #[ϖ f] 28)/\Ϙ W B (ϲ #[.bool j] 4)/\Ϙ W f (ϲ #[ϖ St] 102)) kR g (λ_=>?_);refine zV 0 (ϖ f) rfl (λW d=>by have c:=Y d.1 0;simp at c;clear d;go_simp) g ?_;refine zP 1 f 0 g ?_;refine zP 2 f 0 g ?_;refine zV 3 (ϖ St) rfl (λW d=>by have c:=Y d.2.2 0;simp at c;clear d;go_simp) g ?_;refine zV 4 (.bool j) rfl (λW d=>by have c:=Y d.2.1 0;simp at c;clear d;go_simp) g ?_;refine zV 5 (ϖ f) rfl (λW d=>by have c:=Y d.1 0;simp at c;clear d;go_simp) g ?_;refine zP 6 f 0 g ?_;refine zP 7 f 0 g ?_;refine zV 8 (ϖ St) rfl (λW d=>by have c:=Y d.2.2 0;simp at c;clear d;go_simp) g ?_;refine zV 10 (ϖ f) rfl (λW d=>by have c:=Y d.1 0;simp at c;clear d;go_simp) g ?_;refine zP 11 f 0 g ?_;refine zP 12 f 0 g ?_;refine zV 13 (ϖ St) rfl (λW d=>by have c:=Y d.2.2 0;simp at c;clear d;go_simp) g ?_;refine zV 14 (.bool j) rfl (λW d=>by have c:=Y d.2.1 0;simp at c;clear d;go_simp) g ?_;refine zq 9 λK hK=>?_;go_simp;refine(Gk St 1 s w.drew M).mono ?_;rintro e w1 ⟨rfl,F⟩;have k:Kp [] w w1:=((Kp.refl _ w).drew).tr F;have A:=And.intro (k.hp Q) (And.intro (k.hp D) (k.hp E));have:=k.hp M;have ab:=k.hp O;refine hK.out _ _ A (λ_=>?_);clear hK K F
 try simp only[zZ]
 refine zq 15 λK hK=>?_;go_simp;refine(hE w1 k).mono ?_;rintro e p ⟨rfl,N,H,o⟩;have t:=And.intro (o.heap A.1 z.1) (And.intro (o.heap A.2.1 z.2.1) (o.heap A.2.2 z.2.2.1));have ac:=o.heap ab z.2.2.2;refine hK.out _ _ t (λ_=>?_)
 try simp only[zZ]
 refine zV 16 (.agg #[ϖ St,.int .u64 r,.bool j,.bool false,ϖ s.V,.string ⟨#[]⟩,ϊ s.rb,.int .u64 s.rs,.pointer none,.int .u64 0]) rfl (λW d=>by clear d;rw[θ];go_simp;rfl) t ?_;refine zq 17 λK hK=>?_;go_simp;obtain⟨q,V,aa,m,ad⟩:∃q,q=p.alloc (ϲ #[ϖ St,.int .u64 r,.bool j,.bool false,ϖ s.V,.string ⟨#[]⟩,ϊ s.rb,.int .u64 s.rs,.pointer none,.int .u64 0] 99)/\Ϙ q p.heap.size (Ac ⟨St,r,j,false,some (ϰ s.V 0),⟨⟨#[]⟩,s.rb,s.rs,none⟩,0⟩)/\Kp [] p q/\q.heap.size=p.heap.size+1:=
  ⟨_,rfl,μ _ _,kF.alloc _,sM⟩
 rw[<-V];clear V;have u:=And.intro (m.hp t.1) (And.intro (m.hp t.2.1) (m.hp t.2.2));have v:=m.hp ac;refine hK.out _ _ u (λ_=>?_)
 try simp only[zZ]
 refine zq 18 λK hK=>?_;have t0:=ϻ v 0;have f0:=ρ v 0;have:=U v;go_simp;obtain⟨l,Z,P,n⟩:∃l,l=q.setCell (ϰ T 0) (ϖ p.heap.size)/\Ϙ l T (ϲ #[ϖ p.heap.size] 32)/\Kp [T] q l:=⟨_,rfl,ξ v 0 _,kF.sc _⟩;rw[<-Z];clear Z;have I:=And.intro (n.heap u.1 (by simp;exact λh=>C.1 h.symm)) (And.intro (n.heap u.2.1 (by simp;exact λh=>C.2.1 h.symm)) (n.heap u.2.2 (by simp;exact λh=>C.2.2.1 h.symm)));refine hK.out _ _ I (λ_=>?_);refine zd ?_;have:=o.size;have:=k.size;have HF:Hid ((∃x,w.heap.size<=x/\Ϙ l x (Ac ⟨St,r,j,false,some (ϰ s.V 0),⟨⟨#[]⟩,s.rb,s.rs,none⟩,0⟩)/\Ϙ l T (ϲ #[ϖ x] 32))/\R l/\Kp (St::T::L) w l/\Ϙ l St (η 1 s')):=
  ⟨⟨p.heap.size,oM,n.ho aa,P⟩,G _ _ (G _ _ H (m.mono sM)) n,
   (((k.mono (S':=St::T::L) sM).trans o (by intro i y _;simp at y |-;rcases y with h | h<;>simp[h])).tr m).trans n (by intro i y _;simp at y;simp[y]),
   n.heap (m.hp N) (by simp;exact λh=>C.2.2.2 h.symm)⟩
 clear I u P v aa n m o k H N t0 f0;go_wp2
 go_end0
 exact⟨rfl,HF⟩
def RT(X B T d St:Nat)(g:Bool)(s)(w)(k:w.heap[X]?=some (ϲ #[ϖ d] 28))(h:w.heap[B]?=some (ϲ #[ϐ g] 4))(p:w.heap[T]?=some (ϲ #[ϗ none] 32))
  (i:w.heap[d]?=some (ϲ #[ϖ St] 102)) (j:w.heap[St]?=some (η 1 s))
  (m:∀W:Ϣ,Kp [] w W->Ω 67 #[ϖ St,ϐ g] W λe w'=>e=Al (some 4)/\w'=W):
  Ω 65 #[ϖ X,ϖ B,ϖ T] w λe w'=>e=Al (some 4)/\Kp [] w w':=by
 go_enter func65,ntmps65;go_wp2_with fail;have b:=n3 k h i;refine wp_region_held_drew (S:=λW=>Ϙ W X (ϲ #[ϖ d] 28)/\Ϙ W B (ϲ #[.bool g] 4)/\Ϙ W d (ϲ #[ϖ St] 102)) kR b (λ_=>?_);refine zV 0 (ϖ d) rfl (λW a=>by have c:=Y a.1 0;simp at c;go_simp) b ?_;refine zP 1 d 0 b ?_;refine zP 2 d 0 b ?_;refine zV 3 (ϖ St) rfl (λW a=>by have c:=Y a.2.2 0;simp at c;go_simp) b ?_;refine zV 4 (.bool g) rfl (λW a=>by have c:=Y a.2.1 0;simp at c;go_simp) b ?_;refine zV 5 (ϖ d) rfl (λW a=>by have c:=Y a.1 0;simp at c;go_simp) b ?_;refine zP 6 d 0 b ?_;refine zP 7 d 0 b ?_;refine zV 8 (ϖ St) rfl (λW a=>by have c:=Y a.2.2 0;simp at c;go_simp) b ?_;refine zV 10 (ϖ d) rfl (λW a=>by have c:=Y a.1 0;simp at c;go_simp) b ?_;refine zP 11 d 0 b ?_;refine zP 12 d 0 b ?_;refine zV 13 (ϖ St) rfl (λW a=>by have c:=Y a.2.2 0;simp at c;go_simp) b ?_;refine zV 14 (.bool g) rfl (λW a=>by have c:=Y a.2.1 0;simp at c;go_simp) b ?_;refine zq 9 λK hK=>?_;go_simp;refine(Gk St 1 s w.drew j).mono ?_;rintro e l ⟨rfl,n⟩;have f:Kp [] w l:=((Kp.refl _ w).drew).tr n;have o:=And.intro (f.hp k) (And.intro (f.hp h) (f.hp i));have:=f.hp j;have:=f.hp p;refine hK.out _ _ o (λ_=>?_)
 try simp only[zZ]
 refine zq 15 λK hK=>?_;go_simp;refine(m l f).mono ?_;rintro e q ⟨rfl,rfl⟩;simp only[Al];go_wp2;exact⟨rfl,rfl,f⟩
def MC(args)(W):Sem.run prog (callFunc 65 args) W=.ok (.enter 65 args) W:=by
 simp[go_sem,func65]
def beK(s:Sto):Int:=if s.po=true then 7 else 4
def IY(a St:Nat)(c:Bool)(s)(w)(f:w.heap[a]?=some (ϲ #[ϖ St] 102))(p:w.heap[St]?=some (η 0 s))(t:a≠St)
  (n:s.po=false->∀W:Ϣ,Kp [St] w W->W.heap[St]?=some (η 1 s)->Ω 67 #[ϖ St,ϐ c] W λe w'=>e=Al (some 4)/\w'=W):
  Ω 29 #[ϖ a,ϐ c] w λe w'=>∃v,e=ϱ (.tuple #[ϗ none,v])/\ErrV w' v (some (beK s))/\w'.heap[St]?=some (η 0 s)/\Kp [St] w w':=by
 have y:=zh n;have A:=zh t;clear n t;have:=zM;have:=U f;have:=U p;have D:=Y (ν (ϲ #[.pointer none] 32) (ν (ϲ #[.bool c] 4) (ν (ϲ #[ϖ a] 28) f))) 0;simp only[zG,zH]at D;go_enter func29,ntmps29;go_wp2_with fail;obtain⟨b,r,d,N,M,F,q⟩:∃b,b=((w.alloc (ϲ #[ϖ a] 28)).alloc (ϲ #[.bool c] 4)).alloc (ϲ #[.pointer none] 32)/\Kp [] w b/\b.heap.size=w.heap.size+3/\b.heap[w.heap.size]?=some (ϲ #[ϖ a] 28)/\b.heap[w.heap.size+1]?=some (ϲ #[.bool c] 4)/\b.heap[w.heap.size+2]?=some (ϲ #[.pointer none] 32):=by
  refine⟨_,rfl,(((Kp.refl _ _).alloc _).alloc _).alloc _,sM,ν _ (ν _ (μ _ _)),ν _ ?_,?_⟩
  .have e:=μ (w.alloc (ϲ #[ϖ a] 28)) (ϲ #[.bool c] 4);simpa using e
  .have e:=μ ((w.alloc (ϲ #[ϖ a] 28)).alloc (ϲ #[.bool c] 4)) (ϲ #[.pointer none] 32);simpa using e
 rw[<-r];clear r;have G:=d.hp f;have I:=d.hp p;refine(IV St 65 s #[] _ _ [] (λk x W m=>k=some (beK s)/\x=s/\Kp [] W m) b I (λh W=>⟨by simp[beK,h],rfl,Kp.refl _ _⟩) (MC _) sM ?_).mono ?_
 .intro u W hK i;have L:=hK.ho M;have E:=hK.ho F;have K:=hK.ho q;have H:=hK.heap G (by simp;exact A);have g:=(d.mono (S':=[St]) sM).trans hK (λ_ h _=>h);refine(RT w.heap.size (w.heap.size+1) (w.heap.size+2) a St c s W L E K H i (λC o=>y u C (g.tr o) (o.hp i))).mono ?_;rintro e m ⟨rfl,l⟩;exact⟨some 4,s,dC,rfl,⟨by simp[beK,u],rfl,l⟩,l.mono sM,l.hp i⟩
 rintro e O ⟨_,x,v,rfl,hv,hSt2,hK2,W,m,Bb,⟨rfl,rfl,hQ⟩,g,hB1,hB2,hB3,hKB,_⟩;rw[Sto.qO8 (by rw[beK];split<;>rfl)]at hSt2;have j:=hK2.ho q;have:=U j;have:=ϻ j 0;have B:=hid hv;have z:=zh ((d.mono (S':=[St]) sM).trans hK2 (λ_ h _=>h));clear hv hQ g hB3 hKB hK2 j;go_wp2
 go_ret2
 exact⟨v,rfl,B,hSt2,z⟩
def Mk(d St:Nat)(c:Bool)(s s')(o:Int)(L)(R:ϯ)(w)(q:w.heap[d]?=some (ϲ #[ϖ St] 102))(B:w.heap[St]?=some (η 0 s))(X:s.po=false)(C:d∉St::L)(y:∀i∈L,i<w.heap.size)
  (M:∀W:Ϣ,Kp [St] w W->W.heap[St]?=some (η 1 s)->Ω 67 #[ϖ St,ϐ c] W λe w'=>e=ϱ (.int .u64 o)/\w'.heap[St]?=some (η 1 s')/\R w'/\Kp (St::L) W w')
  (z:∀(a b)(k),(∀i∈k,i=St\/w.heap.size<=i)->R a->Kp k a b->R b):
  Ω 29 #[ϖ d,ϐ c] w λe w'=>∃x,e=ϱ (.tuple #[ϖ x,.nilIface])/\w.heap.size<=x/\w'.heap[x]?=some (Ac ⟨St,o,c,false,some (ϰ s.V 0),⟨⟨#[]⟩,s.rb,s.rs,none⟩,0⟩)/\w'.heap[St]?=some (η 0 s')/\R w'/\Kp (St::L) w w':=by
 have:=zM;have:=U q;have:=U B;have F:=Y (ν (ϲ #[.pointer none] 32) (ν (ϲ #[.bool c] 4) (ν (ϲ #[ϖ d] 28) q))) 0;simp only[zG,zH]at F;go_enter func29,ntmps29;go_wp2_with fail;obtain⟨f,Q,l,ad,T,H,P⟩:∃f,f=((w.alloc (ϲ #[ϖ d] 28)).alloc (ϲ #[.bool c] 4)).alloc (ϲ #[.pointer none] 32)/\Kp [] w f/\f.heap.size=w.heap.size+3/\Ϙ f w.heap.size (ϲ #[ϖ d] 28)/\f.heap[w.heap.size+1]?=some (ϲ #[.bool c] 4)/\f.heap[w.heap.size+2]?=some (ϲ #[.pointer none] 32):=by
  refine⟨_,rfl,((kF.alloc _).alloc _).alloc _,sM,ν _ (ν _ (μ _ _)),ν _ ?_,?_⟩
  .have e:=μ (w.alloc (ϲ #[ϖ d] 28)) (ϲ #[.bool c] 4);simpa using e
  .have e:=μ ((w.alloc (ϲ #[ϖ d] 28)).alloc (ϲ #[.bool c] 4)) (ϲ #[.pointer none] 32);simpa using e
 rw[<-Q];have I:=l.hp q;have N:=l.hp B;have t:∀i,w.heap.size<=i->i∉St::L:=λi g hm=>by
  rcases List.mem_cons.1 hm with h|h
  .omega
  .have:=y _ h;omega
 refine(Rv none dC St 65 s s' #[] _ _ ((w.heap.size+2)::L) (λW j=>R j/\∃x,W.heap.size<=x/\Ϙ j x (Ac ⟨St,o,c,false,some (ϰ s.V 0),⟨⟨#[]⟩,s.rb,s.rs,none⟩,0⟩)/\j.heap[w.heap.size+2]?=some (ϲ #[ϖ x] 32)) f N X (MC _) (by intro i g;rcases List.mem_cons.1 g with h | h;omega;have:=y _ h;omega) ?_).mono ?_
 .intro W hK A;have S:=hK.ho T;have G:=hK.ho H;have O:=hK.ho P;have K:=hK.heap I (by simp;exact λh=>C (by simp[h]));have m:=(l.mono (S':=[St]) sM).trans hK (λ_ h _=>h);refine(RU w.heap.size (w.heap.size+1) (w.heap.size+2) d St c s s' o L R W S G O K A ⟨t _ oM,t _ oM,C,t _ oM⟩ ⟨oM,oM,oM,oM⟩ (λE u=>M E (m.tr u) (u.hp A)) (λa b ha hab=>z a b [w.heap.size+2] sM ha hab)).mono ?_;rintro e j ⟨rfl,hx,n,V,Z⟩;exact⟨rfl,⟨n,hx⟩,V,Z⟩
 rintro e w2 ⟨v,rfl,hv,hSt2,hK2,W,j,Bb,⟨n,x,hx1,hx2,hx3⟩,m,hB1,hB2,hB3,hKB⟩;have aa:v=.nilIface:=hv;subst aa;have r:=hKB.ho hx3;have D:=hKB.ho hx2;have:=U r;have:=ϻ r 0;have p:=zh (n3 D (z _ _ [St,Bb] sO n hKB) ((l.mono (S':=St::L) sM).trans hK2 (by intro i g ac;simp at g |-;rcases g with h | h | h;simp[h];omega;simp[h])));have ab:w.heap.size<=x:=by have:=m.size;omega
 clear hv n hx2 hx3 m hB3 hKB hK2 r D;go_wp2
 go_ret2
 exact⟨x,rfl,ab,p.1,hSt2,p.2.1,p.2.2⟩
def RZ(d St n:Nat)(s)(D)(w)(j:w.heap[d]?=some (ϲ #[ϖ St] 102))(p:w.heap[St]?=some (η 0 s))(m:RM w s.V s.M n D)(u:s.po=false)(l:d≠St)(f:s.M≠St)(y:s.M<w.heap.size)(v:s.wr=0)(g:0<=s.bg)(i:s.bg<=100000000):
  Ω 29 #[ϖ d,ϐ true] w λe w'=>∃x,e=ϱ (.tuple #[ϖ x,.nilIface])/\w.heap.size<=x/\w'.heap[x]?=some (Ac ⟨St,s.bg+1,true,false,some (ϰ s.V 0),⟨⟨#[]⟩,s.rb,s.rs,none⟩,0⟩)/\w'.heap[St]?=some (η 0 s.wrote)/\RM w' s.V s.M n D/\Kp [St] w w':=
 Mk d St true s s.wrote (s.bg+1) [] (λw'=>RM w' s.V s.M n D) w j p u (by simp;exact l) sM
  (λW hK o=>(Vg St s W o v g i).mono λe w' ⟨a,b,c⟩=>⟨a,b,(m.kp hK (by simp;exact f)).kp c (by simp;exact f),c⟩)
  (λa b k t q r=>q.kp r (λhm=>by rcases t _ hm with h | h;exact f h;omega))
def RY(f St n:Nat)(s)(D)(w)(m:w.heap[f]?=some (ϲ #[ϖ St] 102))(u:w.heap[St]?=some (η 0 s))(p:RM w s.V s.M n D)(B:s.po=false)(o:f≠St)(g:s.M≠St)(q:f≠s.M)(r:s.M<w.heap.size)(l:Maps.size D<4)(A:n<=100000000)(i:0<=s.bg)(j:s.bg<=100000000):
  Ω 29 #[ϖ f,ϐ false] w λe w'=>∃x,e=ϱ (.tuple #[ϖ x,.nilIface])/\w.heap.size<=x/\w'.heap[x]?=some (Ac ⟨St,s.bg+1,false,false,some (ϰ s.V 0),⟨⟨#[]⟩,s.rb,s.rs,none⟩,0⟩)/\w'.heap[St]?=some (η 0 s.read)/\RM w' s.V s.M (n+1) (D.put (χ (s.bg+1)) (Bq ⟨⟨#[]⟩,s.rb,s.rs,none⟩))/\Kp [St,s.M] w w':=
 Mk f St false s s.read (s.bg+1) [s.M] (λw'=>RM w' s.V s.M (n+1) (D.put (χ (s.bg+1)) (Bq ⟨⟨#[]⟩,s.rb,s.rs,none⟩))) w m u B (by simp;exact⟨o,q⟩) (by simp;exact r)
  (λW hK t=>(Vf St n s D W t (p.kp hK (by simp;exact g)) l A i j g).mono λe w' ⟨a,b,c,d⟩=>⟨a,b,c,d⟩)
  (λa b k z v y=>v.kp y (λhm=>by rcases z _ hm with h | h;exact g h;omega))
def RW(a St:Nat)(s)(w)(b:w.heap[a]?=some (ϲ #[ϖ St] 102))(d:w.heap[St]?=some (η 0 s))(f:a≠St)(h:s.po=false->s.wr≠0):
  Ω 29 #[ϖ a,ϐ true] w λe w'=>∃v,e=ϱ (.tuple #[ϗ none,v])/\ErrV w' v (some (beK s))/\w'.heap[St]?=some (η 0 s)/\Kp [St] w w':=
 IY a St true s w b d f λg W hK c=>Ve St s W c (h g)
def RV(a St n:Nat)(s)(D)(w)(c:w.heap[a]?=some (ϲ #[ϖ St] 102))(h:w.heap[St]?=some (η 0 s))(d:RM w s.V s.M n D)(i:a≠St)(f:s.M≠St)(b:Maps.size D=4):
  Ω 29 #[ϖ a,ϐ false] w λe w'=>∃v,e=ϱ (.tuple #[ϗ none,v])/\ErrV w' v (some (beK s))/\w'.heap[St]?=some (η 0 s)/\Kp [St] w w':=
 IY a St false s w c h i λ_ W hK g=>Vd St n s D W g (d.kp hK (by simp;exact f)) b
def RX(a St:Nat)(b:Bool)(s)(w)(c:w.heap[a]?=some (ϲ #[ϖ St] 102))(d:w.heap[St]?=some (η 0 s))(g:s.po=true)(f:a≠St):
  Ω 29 #[ϖ a,ϐ b] w λe w'=>∃v,e=ϱ (.tuple #[ϗ none,v])/\ErrV w' v (some (beK s))/\w'.heap[St]?=some (η 0 s)/\Kp [St] w w':=
 IY a St b s w c d f λh=>by rw[g]at h;cases h
def Tx.ended(t:Tx):Tx:={ t with over:=true,on:=none,h:=⟨⟨#[]⟩,0,0,none⟩ }
def ER(x n:Nat)(t)(s)(D)(w)(f:w.heap[x]?=some (Ac t))(y:w.heap[t.St]?=some (η 1 s))(r:RM w s.V s.M n D)(I:0<=t.nr)(L:t.nr<=1000000000)(v:s.M≠t.St)(o:x≠t.St)(m:x≠s.M):
  Ω 69 #[ϖ x] w λe w'=>e=ϱ (.tuple #[])/\w'.heap[x]?=some (Ac t.ended)/\w'.heap[t.St]?=some (η 1 (s.left t.nr))/\RM w' s.V s.M n (D.del (χ t.nr))/\Kp [t.St,x,s.M] w w':=by
 have:=U f;have C:=Y f;simp only[Ac,zG,zH,zI]at C;have H:=ρ f;obtain⟨b,A,B,j⟩:∃b,b=(((((w.setCell (ϰ x 3) (.bool true)).setCell (ϰ x 4) (.pointer none)).setCell (ϰ x 5) (.string ⟨#[]⟩)).setCell (ϰ x 6) (ϊ 0)).setCell (ϰ x 7) (.int .u64 0)).setCell (ϰ x 8) (.pointer none)/\Ϙ b x (Ac t.ended)/\Kp [x] w b:=
  ⟨_,rfl,ξ (ξ (ξ (ξ (ξ (ξ f 3 _) 4 _) 5 _) 6 _) 7 _) 8 _,(((((kF.sc _).sc _).sc _).sc _).sc _).sc _⟩
 have G:=zh (j.heap y (by simp;exact λh=>o h.symm));have F:=zh (r.kp j (by simp;exact λh=>m h.symm));have p:=zh (n3 v o m);clear f y r v o m;go_enter func69,ntmps69;go_wp2_with fail;rw[<-A];clear A C H;have:=U B;have a:=B;refine wp_region_held_drew (S:=λW=>Ϙ W x (Ac t.ended)) kR a (λ_=>?_);refine zP 0 x 0 a ?_;refine zP 1 x 0 a ?_;refine zP 2 x 0 a ?_;refine zV 3 (ϖ t.St) rfl (λW d=>by have c:=Y d 0;simp only[Ac,Tx.ended,zG,zH,zI]at c;clear d;go_simp) a ?_;refine zP 4 x 0 a ?_;refine zP 5 x 0 a ?_;refine zP 6 x 1 a ?_;refine zV 7 (.int .u64 t.nr) rfl (λW d=>by have c:=Y d 1;simp only[Ac,Tx.ended,zG,zH,zI]at c;clear d;go_simp) a ?_;refine zq 8 λK hK=>?_;go_simp;refine(XN t.St n s t.nr D b.drew G (F.kp ((Kp.refl [] b).drew) sM) I L p.1).mono ?_;rintro e g ⟨rfl,z,u,q⟩;have k:=((Kp.refl _ b).drew).trans q (λ_ h _=>h);have l:=k.heap a (by simp;exact p.2);refine hK.out _ _ l (λ_=>?_);clear hK K q;refine zd ?_;have E:Hid (Ϙ g x (Ac t.ended)/\Ϙ g t.St (η 1 (s.left t.nr))/\RM g s.V s.M n (D.del (χ t.nr))/\Kp [t.St,x,s.M] w g):=⟨l,z,u,(j.mono sM).trans k (by intro i M _;simp at M |-;omega)⟩;clear l a z u k;go_wp2
 go_end0
 exact⟨rfl,E⟩
def Ta(args)(W):Sem.run prog (callFunc 69 args) W=.ok (.enter 69 args) W:=by
 simp[go_sem,func69]
def Rj(x n:Nat)(t)(s)(D)(w)(g:w.heap[x]?=some (Ac t))(u:t.over=false)(p:w.heap[t.St]?=some (η 0 s))(y:s.po=false)(m:RM w s.V s.M n D)(k:0<=t.nr)(l:t.nr<=1000000000)(b:s.M≠t.St)(a:x≠t.St)(h:x≠s.M)(A:s.M<w.heap.size):
  Ω 36 #[ϖ x] w λe w'=>e=ϱ .nilIface/\w'.heap[x]?=some (Ac t.ended)/\w'.heap[t.St]?=some (η 0 (s.left t.nr))/\RM w' s.V s.M n (D.del (χ t.nr))/\Kp [t.St,x,s.M] w w':=by
 have:=zM;have:=U g;go_enter func36,ntmps36;go_wp2_with fail;refine(Hh none dC x t.St 69 t s (s.left t.nr) #[ϖ x] #[] _ [x,s.M] (λW f=>Ϙ f x (Ac t.ended)/\RM f s.V s.M n (D.del (χ t.nr))) w g u rfl p y a (Ta _) (by intro i hi;simp at hi;omega) ?_).mono ?_
 .intro W hK o;refine mR (ER x n t s D W (hK.heap g (by simp;exact a)) o (m.kp hK (by simp;exact b)) k l b a h) ?_;rintro f ⟨c,d,q,r⟩;exact⟨rfl,⟨c,q⟩,r,d⟩
 rintro e B ⟨v,rfl,hv,hSt2,hK2,W,f,Bb,⟨c,d⟩,hKW,hB1,hB2,hB3,hKB⟩;have z:v=.nilIface:=hv;subst z;have j:=zh (n4 (hKB.heap c (by simp;exact⟨a,oM⟩)) hSt2 (d.kp hKB (by simp;exact⟨b,oM⟩)) hK2);clear hv c d hSt2 hK2 hKW hKB hB3 b a h;go_wp2;go_ret;exact⟨rfl,j⟩
def Rk(x:Nat)(t)(s)(w)(d:w.heap[x]?=some (Ac t))(i:s.po=true\/t.over=true)(h:w.heap[t.St]?=some (η 0 s))(f:x≠t.St):
  Ω 36 #[ϖ x] w λe w'=>∃v,e=ϱ v/\ErrV w' v (some (goK s))/\w'.heap[t.St]?=some (η 0 s)/\Kp [t.St] w w':=by
 have:=zM;have:=U d;go_enter func36,ntmps36;go_wp2_with fail;refine(Eu x t.St 69 t s #[ϖ x] #[] _ w d i rfl h f).mono ?_;rintro e j ⟨v,rfl,c,b,a⟩;have g:=zh (n3 c b a);clear c b a f;go_wp2;go_ret;exact⟨v,rfl,g⟩
def qD1(s)(w)(D:s.size<=1000000):
  Ω 119 #[ϕ s] w λe w'=>e=ϱ (ϕ s)/\Kp [] w w':=by
 by_cases c:s.size=0
 .have y:s=⟨#[]⟩:=by
   apply ByteArray.ext;exact Array.eq_empty_of_size_eq_zero c
  subst y;go_enter func119,ntmps119;go_wp2;go_ret;exact⟨rfl,Kp.refl _ _⟩
 .let⟨l,g,A,i,B⟩:=info_parts Tryz.qQ2;have u:(prog.info? 5).map (·.size)=some 1:=by rw[g];simp[i]
  have r:prog.cellsOf 5=1:=kR
  let⟨M,a⟩:=eX (madeCells (Value.int .u8 0).cells (((s.size:Nat):Int).toNat*l.size));have:M.size=s.size:=by rw[a,size_madeCells,i];simp
  have:∀W:World,(Instr.makeSlice 118 (ϊ (s.size:Int)) (ϊ (s.size:Int))).run prog W=.ok (ϑ (ϳ W) 0 s.size s.size) (W.alloc (ϲ M 5)):=λW=>by
   have h:=run_make (P:=prog) W 118 5 l (.int .u8 0) underlying118 g A .i64 .i64 (s.size:Int) (s.size:Int) oM oM (by rw[B];omega) oM;rw[<-a]at h;simpa using h
  clear a;have t:=Lib.run_copy_row_string (P:=prog) (w.alloc (ϲ M 5)) 118 9 3 5 (ϳ w) 0 s.size s.size s M 5 underlying118 u (heap_alloc_new w _) lR oM;let⟨Yy,b⟩:=eX ((M.toList.take 0++Lib.byteCells s.data.toList++M.toList.drop (0+s.size)).toArray);rw[<-b]at t;have d:Yy.toList=Lib.byteCells s.data.toList:=by
   rw[b,List.toList_toArray,List.take_zero,nA,dL (by rw[Array.length_toList];omega),aN]
  have:Yy.size=s.size:=by rw[<-Array.length_toList,d,Lib.byteCells_length,<-Lib.size_eq]
  have f:((w.alloc (ϲ M 5)).setRow (ϳ w) Yy).heap[ϳ w]?=some (ϲ Yy 5 (0,0)):=setRow_heap _ _ M _ 5 (0,0) (heap_alloc_new w _);have v:s.data.toList≠[]:=λe=>c (by rw[Lib.size_eq,e];rfl);have n:=Lib.run_unsafeString_row (P:=prog) ((w.alloc (ϲ M 5)).setRow (ϳ w) Yy) 261 3 9 5 underlying261 r (ϳ w) Yy.size (by unfold World.shape?;rw[f]) s.data.toList v (by rw[<-Lib.size_eq];omega) (by rw[<-Lib.size_eq];omega)
   (λj x z=>Lib.cells_of_row f Yy.size j _ (by rw[tL (by rw[Array.length_toList];exact lR),d];simp[Lib.byteCells,z]))
  rw[<-Lib.size_eq]at n;clear b;have o:Below (ϳ w) w (w.alloc (ϲ M 5)):=(Below.refl _ w).alloc lR _;have q:Below (ϳ w) (w.alloc (ϲ M 5)) ((w.alloc (ϲ M 5)).setRow (ϳ w) Yy):=⟨rfl,rfl,rfl,sM,λk C=>setRow_other _ _ _ _ oM⟩;have m:=zh (o.trans q);go_enter func119,ntmps119;go_wp2;go_ret;exact⟨rfl,Kp.qN2 (Lib.below_freeze m (p:=⟨ϳ w,0,none⟩) lR _) lR⟩
def FC(s)(w)(b:s.size<=1000000):
  Ω 75 #[ϕ s] w λe w'=>e=ϱ (ϕ s)/\Kp [] w w':=by
 go_enter func75,ntmps75;go_wp2_with fail;refine mR (qD1 s w b) ?_;rintro c a;go_wp2;go_ret;exact⟨rfl,a⟩
def PQ(v)(ps)(p)(w)(hs:SPR w v ps)(hn:ps.length<=100000):
  Ω 193 #[.agg #[v],ϕ p.k,ϕ p.v] w λe w'=>∃l,e=ϱ (.agg #[l])/\SPR w' l (ins p ps)/\Kp [] w w':=by
 obtain⟨bs,cp,rfl⟩:=hs.form;have HS:=zh hs;have Q:Hid ((if (ps.foldl (AV p) ([],false)).2 then(ps.foldl (AV p) ([],false)).1 else(ps.foldl (AV p) ([],false)).1++[p])=ins p ps):=by
  have:=Qr p ps [];show _=_;simpa using this
 clear hs;go_enter func193,ntmps193;go_wp2_with fail;let⟨w0,al,ad,W,ae⟩:=alH w (ϲ #[.slice bs ps.length cp] 126) (ϲ #[.slice none 0 0] 126)
 rw[<-al];clear al;have an:=zh ad;have ac:=zh W;have O:=zh ae;have a2:=U W;clear ad W ae
 go_loopw [7,8,9] (λo b i wr=>∃(j:Nat)(l:Value),j<=ps.length/\i=.int .i64 j/\b=.bool ((ps.take j).foldl (AV p) ([],false)).2/\l=o/\OPR wr w0.heap.size l ((ps.take j).foldl (AV p) ([],false)).1/\Kp [] w0 wr) (λ_ _ i _=>ps.length-(intOf i).toNat)
 case atStart=>exact⟨0,_,zL _,rfl,rfl,rfl,OPR.nil _ _,Kp.refl _ _⟩
 case round=>
  obtain⟨j,l,hj,rfl,rfl,rfl,u,hK⟩:=hrel;have H:=hK.hp an.out;have au:=U H;have a4:=hK.size;have b0:=ϻ H 0;have F:=Qs p (ps.take j) ([],false);simp only[lK,List.length_nil]at F;by_cases M:j<ps.length
  .have ap:(j:Int)<(ps.length:Int):=oM
   have X:=VT (AV p) ([],false) ps j M;obtain⟨x,B,E⟩:∃x B,(ps.take j).foldl (AV p) ([],false)=(x,B):=⟨_,_,rfl⟩;rw[E]at X F u |-;simp only at F u;have r:=zh X;have f:=zh u;have A:=zh hK;let⟨g,am,cap,cur,fr,hv,ax,N,ag⟩:=(HS.qM4 (O.tr hK)).at oM;let⟨c0,c1⟩:=ag j M;simp only[vJ,true_and]at hv;obtain⟨rfl,rfl⟩:=hv;have a0:=Y N (am+j*2);rw[c0]at a0;have a1:=Y N (am+j*2+1);rw[c1]at a1;have ay:=U N;let⟨q,hq⟩:=eY (ps[j]);rw[hq]at a0 a1;have s:=zh hq;clear X E u hK ag c0 c1 N H hq
   cases B with
   | true=>
    by_cases a:q.k=p.k
    .have L:(q.k.toList == p.k.toList)=true:=by rw[CE];simp[a]
     go_wp2;refine⟨⟨j+1,l,oM,by go_num,?_,rfl,?_,A.alloc _⟩,by simp[intOf];omega⟩
     .rw[r.out,s.out];simp[AV,a]
     .rw[r.out,s.out];simp only[AV,a,Bool.not_true,Bool.false_and,Bool.false_eq_true,if_false,if_true];exact f.alloc _
    .have L:(q.k.toList == p.k.toList)=false:=by rw[CE];simp[a]
     have y:=(f.alloc (ϲ #[.string q.k,.string q.v] 284)).alloc (ϲ #[.string q.k,.string q.v] 284);let⟨n,C,z,m,h⟩:=y.app (wr.heap.size+1) q 124 oM (by
      have e:=μ (wr.alloc (ϲ #[.string q.k,.string q.v] 284)) (ϲ #[.string q.k,.string q.v] 284);simpa using e) sO
     have d:=zh (n2 m (((A.alloc _).alloc _).grown h (λk a=>Or.inr (f.low k a))));clear y m h
     go_wp2_with (at_builtin;((with_reducible refine CC ?_ ?_ z ?_);rfl;rfl))
     refine⟨⟨j+1,n,oM,by go_num,?_,rfl,?_,d.2⟩,by simp[intOf];omega⟩
     .rw[r.out,s.out];simp[AV,a]
     .rw[r.out,s.out];simp only[AV,a,Bool.not_true,Bool.false_and,Bool.false_eq_true,if_false];exact d.1
   | false=>
    cases hl:kl q.k p.k with
    | true=>
     have aq:Op.bytesLess q.k.toList p.k.toList=true:=hl;have a:¬q.k=p.k:=BM hl;have L:(q.k.toList == p.k.toList)=false:=by rw[CE];simp[a]
     have y:=(f.alloc (ϲ #[.string q.k,.string q.v] 284)).alloc (ϲ #[.string q.k,.string q.v] 284);let⟨n,C,z,m,h⟩:=y.app (wr.heap.size+1) q 124 oM (by
      have e:=μ (wr.alloc (ϲ #[.string q.k,.string q.v] 284)) (ϲ #[.string q.k,.string q.v] 284);simpa using e) sO
     have d:=zh (n2 m (((A.alloc _).alloc _).grown h (λk a=>Or.inr (f.low k a))));clear y m h
     go_wp2_with (at_builtin;((with_reducible refine CC ?_ ?_ z ?_);rfl;rfl))
     refine⟨⟨j+1,n,oM,by go_num,?_,rfl,?_,d.2⟩,by simp[intOf];omega⟩
     .rw[r.out,s.out];simp[AV,a,hl]
     .rw[r.out,s.out];simp only[AV,a,hl,Bool.not_true,Bool.not_false,Bool.and_false,Bool.false_eq_true,if_false];exact d.1
    | false=>
     have aq:Op.bytesLess q.k.toList p.k.toList=false:=hl;have y:=(f.alloc (ϲ #[.string q.k,.string q.v] 284)).alloc (ϲ #[.string p.k,.string p.v] 284);let⟨n,C,z,m,h⟩:=y.app (wr.heap.size+1) p 124 oM (by
      have e:=μ (wr.alloc (ϲ #[.string q.k,.string q.v] 284)) (ϲ #[.string p.k,.string p.v] 284);simpa using e) sO
     have d:=zh (n2 m (((A.alloc _).alloc _).grown h (λk a=>Or.inr (f.low k a))));have V:=(h.block wr.heap.size sO (λe=>by
      have h1:=(World.ownsRow.lt f _ e.symm).2;omega)).trans (ν _ (μ _ _))
     have a3:=d.out.2.size;have az:=U V;have q0:=Y V;clear y m h V;by_cases a:q.k=p.k
     .have L:(q.k.toList == p.k.toList)=true:=by rw[CE];simp[a]
      have ao:=zh a;clear a
      go_wp2_with (at_builtin;((with_reducible refine CC ?_ ?_ z ?_);rfl;rfl))
      have a:=ao.out;refine⟨⟨j+1,n,oM,by go_num,?_,rfl,?_,d.2⟩,by simp[intOf];omega⟩
      .rw[r.out,s.out];simp[AV,a,Cx]
      .rw[r.out,s.out];simp only[AV,a,Cx,Bool.not_false,Bool.and_self,if_true];exact d.1
     .have L:(q.k.toList == p.k.toList)=false:=by rw[CE];simp[a]
      let⟨v6,w6,ar,af,ai⟩:=(d.1.alloc (ϲ #[.string q.k,.string q.v] 284)).app C.heap.size q 124 sO (μ _ _) sO;have ab:=zh (n2 af ((d.2.alloc _).grown ai (λk a=>Or.inr (d.1.low k a))));clear af ai
      go_wp2_with (at_builtin;first | ((with_reducible refine CC ?_ ?_ z ?_);rfl;rfl) | ((with_reducible refine CC ?_ ?_ ar ?_);rfl;rfl))
      refine⟨⟨j+1,v6,oM,by go_num,?_,rfl,?_,ab.2⟩,by simp[intOf];omega⟩
      .rw[r.out,s.out];simp[AV,a,hl]
      .rw[r.out,s.out];simp only[AV,a,hl,Bool.not_false,Bool.and_self,if_true,if_false];exact ab.1
  .have ap:¬(j:Int)<(ps.length:Int):=oM
   have aa:ps.take j=ps:=tL oM;rw[aa]at u F |-;obtain⟨x,B,E⟩:∃x B,ps.foldl (AV p) ([],false)=(x,B):=⟨_,_,rfl⟩;have G:=Q.out;rw[E]at F u G |-;simp only at F u G;have f:=zh u;have A:=zh hK;have D:=hK.hp ac.out;have aw:=U D
   cases B with
   | true=>
    have r0:=ϻ D 0;have f0:=ρ D 0;clear aa u hK E H Q;have R:Hid (x=ins p ps):=by show _=_;simpa using G
    clear G;obtain⟨ob,oc,rfl⟩:=f.out.form;let⟨l,aj⟩:=eX (Value.slice ob x.length oc);have P:=zh aj;clear aj;go_wp2;rw[<-P.out]at f |-;have I:Kp [w.heap.size+1] wr (wr.setCell (ϰ (w.heap.size+1) 0) l):=kF.sc _;have S:Apt wr [w.heap.size+1] [284]:=λk a c t fr e hm=>by
     rw[mS a,D]at e;cases e
     revert hm;decide
    refine bodyPost_ret (v:=.agg #[l]) ?_ rfl ⟨l,rfl,?_,?_⟩
    .exact results_cell_row results193 _ _ (w.heap.size+1) 126 #[l] (0,0) _ rfl (ξ D 0 _) underlying126 rfl kR
    .rw[<-R.out];exact(f.sp).qM3 I S
    .exact (O.tr A).trans I (by intro i Z M;simp at Z;omega)
   | false=>
    let⟨n,C,z,m,h⟩:=(f.alloc (ϲ #[.string p.k,.string p.v] 284)).app wr.heap.size p 124 oM (μ _ _) sO;have T:=(A.alloc _).grown h (λk a=>Or.inr (f.low k a));have d:=zh (n2 m T);have K:=T.hp ac.out;have av:=U K;have r0:=ϻ K 0;have f0:=ρ K 0;clear aa u hK E H Q m T h D;have R:Hid (x++[p]=ins p ps):=by show _=_;simpa using G
    clear G;let⟨ob,oc,ah⟩:=d.out.1.form;rw[lA,List.length_singleton]at ah;subst ah;let⟨n,ak⟩:=eX (Value.slice ob (x.length+1) oc);have P:=zh ak;clear ak
    go_wp2_with (at_builtin;((with_reducible refine CC ?_ ?_ z ?_);rfl;rfl))
    rw[<-P.out]at d |-;have I:Kp [w.heap.size+1] C (C.setCell (ϰ (w.heap.size+1) 0) n):=kF.sc _;have S:Apt C [w.heap.size+1] [284]:=λk a c t fr e hm=>by
     rw[mS a,K]at e;cases e
     revert hm;decide
    refine bodyPost_ret (v:=.agg #[n]) ?_ rfl ⟨n,rfl,?_,?_⟩
    .exact results_cell_row results193 _ _ (w.heap.size+1) 126 #[n] (0,0) _ rfl (ξ K 0 _) underlying126 rfl kR
    .rw[<-R.out];exact(d.1.sp).qM3 I S
    .exact (O.tr d.2).trans I (by intro i Z M;simp at Z;omega)
def UN(k:Ϧ)(ps:List KV)(j:Nat)(h:j<ps.length):del k (ps.take (j+1))=if ps[j].k=k then del k (ps.take j) else del k (ps.take j)++[ps[j]]:=by
 rw[tA h,FF];by_cases e:ps[j].k=k<;>simp[del,e]
def UJ(k)(l):(del k l).length<=l.length:=List.length_filter_le _ _
def QL{p:Prop}(_h:p:=by
 let⟨g,off,cap,cur,fr,hv,hcp,hrow,hcur⟩:=(hs.qM4 (hK0.tr hK)).at oM;let⟨c0,c1⟩:=hcur j aa;simp[vJ,true_and]at hv;obtain⟨rfl,rfl⟩:=hv;have a0:=Y hrow (off+j*2);rw[c0]at a0;have a1:=Y hrow (off+j*2+1);rw[c1]at a1;have:=U hrow;let⟨q,hq⟩:=eY (ps[j]);rw[hq]at a0 a1;exact Tz.out):p:=_h
def PR(v)(ps)(k)(w)(hs:SPR w v ps)(hn:ps.length<=100000):
  Ω 194 #[.agg #[v],ϕ k] w λe w'=>∃a,e=ϱ (.agg #[a])/\SPR w' a (del k ps)/\Kp [] w w':=by
 obtain⟨bs,cp,rfl⟩:=hs.form;go_enter func194,ntmps194;go_wp2_with fail;let⟨w0,hw0,ae,af,hK0⟩:=alH w (ϲ #[ϒ bs ps.length cp] 126) (ϲ #[ϒ none 0 0] 126)
 rw[<-hw0];have:=U af
 go_loopw [5,6] (λo i wr=>∃(j:Nat)(a:Value),j<=ps.length/\i=.int .i64 j/\a=o/\OPR wr w0.heap.size a (del k (ps.take j))/\Kp [] w0 wr) (λ_ i _=>ps.length-(intOf i).toNat)
 case atStart=>exact⟨0,_,zL _,rfl,rfl,OPR.nil _ _,Kp.refl _ _⟩
 case round=>
  obtain⟨j,a,D,rfl,rfl,b,hK⟩:=hrel;have g:=hK.hp ae;have:=U g;have:=hK.size;have:=ϻ g 0;have m:=UJ k (ps.take j);simp[lK]at m;by_cases aa:j<ps.length
  .have:(j:Int)<(ps.length:Int):=oM
   have hf:=UN k ps j aa;let⟨C,s⟩:=eY (del k (ps.take j));rw[s]at hf m b;have Tz:Hid (∀{p:Prop},(_h:p:=by
    rw[hq]at hf;by_cases hk:q.k=k
    .have:(q.k.toList == k.toList)=true:=by rw[CE];simp[hk]
     go_wp2;refine⟨⟨j+1,a,oM,by go_num,rfl,?_,hK⟩,iO⟩;rw[hf,if_pos hk];exact b
    .have:(q.k.toList == k.toList)=false:=by rw[CE];simp[hk]
     let⟨B,E,x,r,u⟩:=(b.alloc (ϲ #[ϕ q.k,ϕ q.v] 284)).app wr.heap.size q 124 oM (μ _ _) sO;have f:=zh (n2 r ((hK.alloc _).grown u (λk hk=>Or.inr (b.low k hk))))
     go_wp2_with (at_builtin;((with_reducible refine CC ?_ ?_ x ?_);rfl;rfl))
     refine⟨⟨j+1,B,oM,by go_num,rfl,?_,f.2⟩,iO⟩;rw[hf,if_neg hk];exact f.1)->p):=λh=>h;exact QL
  .have:¬(j:Int)<(ps.length:Int):=oM
   rw[tL oM]at b;have d:=hK.hp af;have:=U d;have:=ϻ d 0;have:=ρ d 0;obtain⟨z,A,rfl⟩:=b.form;let⟨a,y⟩:=eX (Value.slice z (del k ps).length A);go_wp2;rw[<-y]at b |-;have l:Kp [w.heap.size+1] wr (wr.setCell (ϰ (w.heap.size+1) 0) a):=kF.sc _;have n:Apt wr [w.heap.size+1] [284]:=λk hk c t fr e hm=>by
    rw[mS hk,d]at e;cases e
    revert hm;decide
   refine bodyPost_ret (v:=.agg #[a]) ?_ rfl ⟨a,rfl,?_,?_⟩
   .exact results_cell_row results194 _ _ (w.heap.size+1) 126 #[a] (0,0) _ rfl (ξ d 0 _) underlying126 rfl kR
   .exact (b.sp).qM3 l n
   .exact (hK0.tr hK).trans l (by intro i hi aa;simp at hi;omega)
def FK(l:List KV)(k:ByteArray):Value:=.tuple #[.string (((l.find? fun q=>decide (q.k=k)).map KV.v).getD ⟨#[]⟩),.bool (l.find? fun q=>decide (q.k=k)).isSome]
def Vu{α:Type}(f:α->Bool)(l:List α)(j:Nat)(h:j<l.length)(b:(l.take j).find? f=none)(a:f l[j]=true):l.find? f=some l[j]:=by
 have e:l=l.take j++l[j]::l.drop (j+1):=by rw[<-dG h,tD]
 refine(congrArg (List.find? f) e).trans ?_;rw[List.find?_append,b,Option.none_or,List.find?_cons_of_pos a]
def Vv{α:Type}(f:α->Bool)(l:List α)(j:Nat)(h:j<l.length)(b:(l.take j).find? f=none)(a:f l[j]=false):(l.take (j+1)).find? f=none:=by
 rw[tA h,List.find?_append,b];simp[a]
def qA6(v)(ps)(k)(w)(hs:SPR w v ps)(hn:ps.length<=100000):
  Ω 199 #[.agg #[v],ϕ k] w λe w'=>e=ϱ (FK ps k)/\Kp [] w w':=by
 obtain⟨bs,cp,rfl⟩:=hs.form;go_enter func199,ntmps199;go_wp2_with fail;let⟨w0,hw0,ae,hK0⟩:=alA w (ϲ #[ϒ bs ps.length cp] 126)
 rw[<-hw0];clear hw0;have:=U ae;have:=ϻ ae 0
 go_loop [6] (λi=>∃(j:Nat),j<=ps.length/\i=.int .i64 j/\Hid ((ps.take j).find? (λq=>decide (q.k=k))=none)) (λi=>ps.length-(intOf i).toNat)
 case atStart=>exact⟨0,zL _,rfl,rfl⟩
 case round=>
  obtain⟨j,c,rfl,a⟩:=hrel;by_cases aa:j<ps.length
  .have:(j:Int)<(ps.length:Int):=oM
   have hK:=Kp.refl [] w0;have Tz:Hid (∀{p:Prop},(_h:p:=by
    clear hcur c0 c1 hrow;by_cases hk:q.k=k
    .have:(q.k.toList == k.toList)=true:=by rw[CE];simp[hk]
     have HF:Hid (ps.find? (λq=>decide (q.k=k))=some q):=by
      show _=_;rw[<-hq];exact Vu _ ps j aa a.out (by rw[hq];simp[hk])
     clear hk;go_wp2
     go_ret2
     exact⟨by rw[FK,HF.out];rfl,hK0⟩
    .have:(q.k.toList == k.toList)=false:=by rw[CE];simp[hk]
     have HF:=zh (Vv _ ps j aa a.out (by rw[hq];simp[hk]));go_wp2;exact⟨⟨j+1,oM,by go_num,HF⟩,iO⟩)->p):=λh=>h;exact QL
  .have:¬(j:Int)<(ps.length:Int):=oM
   have b:=a.out;rw[tL oM]at b;go_wp2
   go_ret2
   exact⟨by rw[FK,b];rfl,hK0⟩
def PJ(v)(ps)(k)(w)(t:SPR w v ps)(N:ps.length<=100000):
  Ω 203 #[.agg #[v],ϕ k] w λe w'=>e=ϱ (ϊ (Ah ps k:Nat))/\Kp [] w w':=by
 obtain⟨A,B,rfl⟩:=t.form;go_enter func203,ntmps203;go_wp2_with fail;let⟨G,y,m,c⟩:=alA w (ϲ #[ϒ A ps.length B] 126)
 rw[<-y];clear y;have K:=U m;have H:=ϻ m 0;have u:=Gu ps k
 go_loop [5] (λi=>∃(j:Nat),j<=Ah ps k/\i=.int .i64 j) (λi=>ps.length-(intOf i).toNat)
 case atStart=>exact⟨0,zL _,rfl⟩
 case round=>
  obtain⟨j,o,rfl⟩:=hrel;by_cases F:j<ps.length
  .have D:(j:Int)<(ps.length:Int):=oM
   have hK:=Kp.refl [] G;let⟨g,z,cap,cur,I,x,L,a,n⟩:=(t.qM4 (c.tr hK)).at oM;let⟨c0,l⟩:=n j F;simp[vJ,true_and]at x;obtain⟨rfl,rfl⟩:=x;have f:=Y a (z+j*2);rw[c0]at f;have h:=Y a (z+j*2+1);rw[l]at h;have M:=U a;let⟨q,d⟩:=eY (ps[j]);rw[d]at f h;clear n c0 l a;clear hK;by_cases s:j<Ah ps k
   .have E:Op.bytesLess q.k.toList k.toList=true:=by
     have:=List.not_of_lt_findIdx (p:=λq:KV=>!kl q.k k) (xs:=ps) (i:=j) s;rw[d]at this;simpa [kl] using this
    go_wp2;exact⟨⟨j+1,oM,by go_num⟩,iO⟩
   .have r:Ah ps k=j:=oM
    have E:Op.bytesLess q.k.toList k.toList=false:=by
     have:=List.findIdx_getElem (p:=λq:KV=>!kl q.k k) (xs:=ps) (w:=by show Ah ps k<ps.length;omega);have C:ps[List.findIdx (λq:KV=>!kl q.k k) ps]'(by show Ah ps k<ps.length;omega)=q:=by
      rw[<-d]
      congr 1
     rw[C]at this;simpa [kl] using this
    have b:=zh r;clear r s o u;go_wp2;go_ret;exact⟨BV (by rw[b.out]),c⟩
  .have D:¬(j:Int)<(ps.length:Int):=oM
   have b:Hid (Ah ps k=j):=by show _=_;omega
   clear o u;go_wp2;go_ret;exact⟨BV (by rw[b.out]),c⟩
def inR(lo hi:ByteArray)(q:KV):Bool:=!kl q.k lo && kl q.k hi
def Bu(ps:List KV)(lo hi:ByteArray)(qN8:Int):List KV:=(ps.filter (inR lo hi)).take qN8.toNat
def Vr{α:Type}(f:α->Bool)(ps:List α)(j:Nat)(h:j<ps.length):(ps.take (j+1)).filter f=if f ps[j] then(ps.take j).filter f++[ps[j]] else(ps.take j).filter f:=by
 rw[tA h,List.filter_append];by_cases e:f ps[j]=true<;>simp[e]
def Vs{α:Type}(f:α->Bool)(ps:List α)(j:Nat):ps.filter f=(ps.take j).filter f++(ps.drop j).filter f:=by
 rw[<-List.filter_append,tD]
def qB8(v)(ps)(lo hi)(b:Int)(w)(B:SPR w v ps)(hn:ps.length<=100000):
  Ω 200 #[.agg #[v],ϕ lo,ϕ hi,ϊ b] w λe w'=>∃v',e=ϱ v'/\SPR w' v' (Bu ps lo hi b)/\Kp [] w w':=by
 obtain⟨X,Z,rfl⟩:=B.form;have W:=zh B;clear B;go_enter func200,ntmps200;go_wp2_with fail;let⟨S,Q,x,I⟩:=alA w (ϲ #[.slice X ps.length Z] 126)
 rw[<-Q];clear Q;have t:=zh I;have T:=zh x;have ak:=U x;clear I x
 go_loopw [9,10] (λo i wr=>∃(j:Nat)(v':Value)(a:List KV)(h:Option Addr)(l:Nat),j<=ps.length/\i=.int .i64 j/\o=.slice h a.length l/\Hid (a=(ps.take j).filter (inR lo hi))/\a.length<=b.toNat/\OPR wr S.heap.size (.slice h a.length l) a/\Kp [] S wr) (λ_ i _=>ps.length-(intOf i).toNat)
 case atStart=>exact⟨0,.nilIface,[],none,0,zL _,rfl,rfl,rfl,zL _,OPR.nil _ _,Kp.refl _ _⟩
 case round=>
  obtain⟨j,_,a,h,l,hj,rfl,rfl,n,O,m,hK⟩:=hrel;have f:=hK.hp T.out;have ag:=U f;have al:=hK.size;have b0:=ϻ f 0;have aj:a.length<=j:=by rw[n.out];have:=List.length_filter_le (inR lo hi) (ps.take j);simp at this;omega
  have c:=zh m;have d:=zh hK;by_cases N:j<ps.length
  .have ab:(j:Int)<(ps.length:Int):=oM
   have p:=Vr (inR lo hi) ps j N;by_cases hm:(a.length:Int)<b
   .skip
    let⟨g,R,cap,cur,fr,P,ah,r,K⟩:=(W.qM4 (t.tr hK)).at oM;let⟨c0,G⟩:=K j N;simp only[vJ,true_and]at P;obtain⟨rfl,rfl⟩:=P;have E:=Y r (R+j*2);rw[c0]at E;have F:=Y r (R+j*2+1);rw[G]at F;have ai:=U r;let⟨q,A⟩:=eY (ps[j]);rw[A]at E F;have V:=zh A;clear K c0 G r A;rw[V.out,<-n.out]at p;have s:=zh p;clear p m hK f
    cases hin:inR lo hi q with
    | true=>
     have z:Op.bytesLess q.k.toList lo.toList=false:=by simp[inR,kl]at hin;exact hin.1
     have M:Op.bytesLess q.k.toList hi.toList=true:=by simp[inR,kl]at hin;exact hin.2
     let⟨v5,w5,ad,y,L⟩:=(c.alloc (ϲ #[.string q.k,.string q.v] 284)).app wr.heap.size q 124 oM (μ _ _) sO;let⟨ae,af,aa⟩:=y.form;subst aa;have C:=zh (n2 y ((d.alloc _).grown L (λk hk=>Or.inr (c.low k hk))));clear y L hin
     go_wp2_with (at_builtin;((with_reducible refine CC ?_ ?_ ad ?_);rfl;rfl))
     refine⟨⟨j+1,.nilIface,a++[q],ae,af,oM,by go_num,sM,?_,sO,C.1,C.2⟩,by simp[intOf];omega⟩;show _=_;rw[s.out,if_pos];simp[inR,kl,z,M]
    | false=>
     have D:=zh hin
     cases z:Op.bytesLess q.k.toList lo.toList with
     | true=>
      clear hin;go_wp2;refine⟨⟨j+1,.nilIface,a,h,l,oM,by go_num,rfl,?_,O,c,d⟩,by simp[intOf];omega⟩;show _=_;rw[s.out,if_neg (by rw[D.out];simp)]
     | false=>
      have M:Op.bytesLess q.k.toList hi.toList=false:=by
       simp[inR,kl,z]at hin;exact hin
      clear hin;go_wp2;refine⟨⟨j+1,.nilIface,a,h,l,oM,by go_num,rfl,?_,O,c,d⟩,by simp[intOf];omega⟩;show _=_;rw[s.out,if_neg (by rw[D.out];simp)]
   .have u:Hid (a=Bu ps lo hi b):=by
     show _=_;have ac:b.toNat=a.length:=oM
     rw[Bu,Vs _ ps j,ac,<-n.out,List.take_append_of_le_length lR,List.take_length]
    clear p m hK f;go_wp2;go_ret;exact⟨_,rfl,by rw[<-u.out];exact c.sp,t.tr d⟩
  .have ab:¬(j:Int)<(ps.length:Int):=oM
   have u:Hid (a=Bu ps lo hi b):=by
    show _=_;have H:=n.out;rw[tL oM]at H;rw[Bu,<-H,tL oM]
   clear m hK f;go_wp2;go_ret;exact⟨_,rfl,by rw[<-u.out];exact c.sp,t.tr d⟩
def KV.eq_iff(a b:KV):a=b↔a.k=b.k/\a.v=b.v:=by cases a;cases b;simp
def PI(v1 v2)(ps qs)(w)(d:SPR w v1 ps)(k:SPR w v2 qs)(hn:ps.length<=100000)(af:qs.length<=100000):
  Ω 201 #[v1,v2] w λe w'=>e=ϱ (ϐ (decide (ps=qs)))/\Kp [] w w':=by
 obtain⟨P,S,rfl⟩:=d.form;obtain⟨Q,T,rfl⟩:=k.form;have K:=zh d;have L:=zh k;clear d k;by_cases l:ps.length=qs.length
 .have o:(ps.length:Int)=(qs.length:Int):=oM
  have HL:=zh l;clear l;go_enter func201,ntmps201;go_wp2_with fail
  go_loopw [5] (λi wr=>∃(j:Nat),j<=ps.length/\i=.int .i64 j/\Hid (ps.take j=qs.take j)/\Kp [] w wr) (λi _=>ps.length-(intOf i).toNat)
  case atStart=>exact⟨0,zL _,rfl,rfl,Kp.refl _ _⟩
  case round=>
   obtain⟨j,hj,rfl,D,hK⟩:=hrel;by_cases E:j<ps.length
   .have M:(j:Int)<(ps.length:Int):=oM
    have F:j<qs.length:=by have:=HL.out;omega
    have ae:(j:Int)<(qs.length:Int):=oM
    let⟨g,H,cap,cur,W,b,aa,m,B⟩:=(K.qM4 hK).at oM;let⟨Z,I,R,V,X,G,ab,n,C⟩:=(L.qM4 hK).at oM;let⟨c0,v⟩:=B j E;let⟨x,y⟩:=C j F;simp only[vJ,true_and]at b G;obtain⟨rfl,rfl⟩:=b;obtain⟨rfl,rfl⟩:=G;have t:=Y m (H+j*2);rw[c0]at t;have u:=Y m (H+j*2+1);rw[v]at u;have z:=Y n (I+j*2);rw[x]at z;have A:=Y n (I+j*2+1);rw[y]at A;have ac:=U m;have ad:=U n;let⟨p,r⟩:=eY (ps[j]);let⟨q,s⟩:=eY (qs[j]);rw[r]at t u;rw[s]at z A;have h:=zh (n2 r s);have f:=zh hK;clear B C c0 v x y m n r s hK o;by_cases c:p.k=q.k
    .have N:(p.k.toList == q.k.toList)=true:=by rw[CE];simp[c]
     by_cases b:p.v=q.v
     .have O:(p.v.toList == q.v.toList)=true:=by rw[CE];simp[b]
      have a:=zh ((KV.eq_iff p q).2 ⟨c,b⟩);clear c b;go_wp2_with fail
      go_quiet (fail)
      go_wp2;refine⟨⟨j+1,oM,by go_num,?_,f.drewN _⟩,by simp[intOf];omega⟩;show _=_;rw[tA E,tA F,D.out,h.out.1,h.out.2,a.out]
     .have O:(p.v.toList == q.v.toList)=false:=by rw[CE];simp[b]
      have a:Hid (¬ps=qs):=λe=>b (by
       have:=h.out;subst e;rw[<-this.1,<-this.2])
      clear c b;go_wp2_with fail
      go_quiet (fail)
      go_wp2;go_ret;exact⟨by simp[a.out],f.drewN _⟩
    .have N:(p.k.toList == q.k.toList)=false:=by rw[CE];simp[c]
     have a:Hid (¬ps=qs):=λe=>c (by
      have:=h.out;subst e;rw[<-this.1,<-this.2])
     clear c;go_wp2_with fail
     go_quiet (fail)
     go_wp2;go_ret;exact⟨by simp[a.out],f.drewN _⟩
   .have M:¬(j:Int)<(ps.length:Int):=oM
    have a:Hid (ps=qs):=by
     have d:=D.out;have k:=HL.out;rw[tL oM,tL oM]at d;exact d
    have f:=zh hK;clear hK o;go_wp2;go_ret;exact⟨by simp[a.out],f⟩
 .have o:¬(ps.length:Int)=(qs.length:Int):=oM
  have a:Hid (¬ps=qs):=λe=>l (by rw[e]);clear l;go_enter func201,ntmps201;go_wp2;go_ret;exact⟨by simp[a.out],Kp.refl _ _⟩
def Bx(k:ByteArray):Bool:=decide (1≤k.size) && decide (k.size≤8)
def PC(k)(w):
  Ω 198 #[ϕ k] w λe w'=>e=ϱ (ϐ (Bx k))/\w'=w:=by
 by_cases a:1<=k.size
 .have c:(1:Int)<=(k.size:Int):=oM
  go_enter func198,ntmps198;go_wp2;go_ret;refine⟨?_,rfl⟩;by_cases b:k.size<=8
  .have:(k.size:Int)<=8:=oM
   simp[Bx,a,b,this]
  .have:¬(k.size:Int)<=8:=oM
   simp[Bx,a,b,this]
 .have c:¬(1:Int)<=(k.size:Int):=oM
  go_enter func198,ntmps198;go_wp2;go_ret;exact⟨by simp[Bx,a],rfl⟩
def Cn:List TypeId:=[114,263,115,117,382,398]
def OffD(w:Ϣ)(L:Ϥ):Prop:=∀k∈L,∀c t fr,w.heap[k]?=some (ϲ c t fr)->t∉Cn
structure SEnv extends Env where
 qN1:∀w w' L,Dev w->Kp L w w'->OffD w L->Dev w'
 qP6:∀w w' L,qP9 w->Kp L w w'->OffD w L->qP9 w'
 qU9:∀w,Dev w->∀k∈S,∃c t fr,w.heap[k]?=some (ϲ c t fr)/\t∈Cn
def SEnv.nin(E:SEnv){w:Ϣ}(e:E.Dev w){k:Nat}{c:ϧ}{t:Ϯ}{b:Nat×Nat}(h:w.heap[k]?=some (ϲ c t b))(g:t∉Cn):k∉E.S:=λf=>by
 let⟨i,t',j,a,d⟩:=E.qU9 w e k f;rw[h]at a;cases a;exact g d
def SEnv.qZ7(E:SEnv){w:Ϣ}(d:E.Dev w){k:Nat}{b:Array MapEntry}{c:Nat}(h:w.heap[k]?=some (.map b c)):k∉E.S:=λe=>by
 let⟨f,t',g,a,i⟩:=E.qU9 w d k e;rw[h]at a;cases a
def SEnv.stay(E:SEnv){w w':Ϣ}(d:E.Dev w)(b:E.To w w'){k:Nat}{c:ϧ}{t:Ϯ}{a:Nat×Nat}(h:w.heap[k]?=some (ϲ c t a))(e:t∉Cn):w'.heap[k]?=some (ϲ c t a):=
 b.kp.heap h (E.nin d h e)
def OffD.one{w}{k:Nat}{c}{t}{fr}(h:w.heap[k]?=some (ϲ c t fr))(b:t∉Cn):OffD w [k]:=λi a d t' f e=>by
 rw[mS a,h]at e;cases e;exact b
def OffD.cons{w}{k:Nat}{L}(h:OffD w [k])(b:OffD w L):OffD w (k::L):=λi a=>by
 rcases List.mem_cons.1 a with a|a
 .exact h i (by simp[a])
 .exact b i a
def Apt.one{w}{k:Nat}{c}{t}{fr}{a:List Ϯ}(h:w.heap[k]?=some (ϲ c t fr))(d:t∉a):Apt w [k] a:=λi b f t' g e=>by
 rw[mS b,h]at e;cases e;exact d
def Apt.cons{w}{k:Nat}{S}{b:List Ϯ}(h:Apt w [k] b)(c:Apt w S b):Apt w (k::S) b:=λi a=>by
 rcases List.mem_cons.1 a with a|a
 .exact h i (by simp[a])
 .exact c i a
def MI(k)(w)(a:1<=k.size)(b:k.size<=8):
  Ω 101 #[ϕ k] w λe w'=>e=Al none/\w'=w:=by
 have:¬(k.size:Int)<1:=oM
 have:¬(8:Int)<(k.size:Int):=oM
 go_enter func101,ntmps101;go_wp2
 go_end0
 exact⟨rfl,rfl⟩
def MH(k)(w)(h:k.size<1\/8<k.size):
  Ω 101 #[ϕ k] w λe w'=>e=Al (some 1)/\w'=w:=by
 by_cases a:k.size<1
 .have:(k.size:Int)<1:=oM
  clear h;go_enter func101,ntmps101;go_wp2;exact⟨rfl,rfl,rfl,rfl⟩
 .have:¬(k.size:Int)<1:=oM
  have:(8:Int)<(k.size:Int):=oM
  clear h;go_enter func101,ntmps101;go_wp2;exact⟨rfl,rfl,rfl,rfl⟩
def qB0(St A n:Nat)(f:Int)(s)(w)(d:w.heap[St]?=some (η f s))(c:w.heap[s.V]?=some (CR A n))(i:n<=1000000)(g:0<=s.bl)(h:s.bl<=1000000):
  Ω 77 #[ϖ St] w λe w'=>e=ϱ (ϊ ((n:Int)-2-s.bl))/\Kp [] w w':=by
 have:=U d;have:=U c;go_enter func77,ntmps77;go_wp2_with fail;have a:=n2 d c;refine wp_region_held_drew (S:=λW=>Ϙ W St (η f s)/\Ϙ W s.V (CR A n)) kR a (λ_=>?_);refine zP 0 St 0 a ?_;refine zP 1 St 0 a ?_;refine zP 2 St 2 a ?_;refine zV 3 (ϖ s.V) rfl (λW b=>by have:=ϻ b.1 2;go_simp) a ?_;refine zP 6 St 0 a ?_;refine zP 7 St 0 a ?_;refine zP 8 St 6 a ?_;refine zV 9 (ϊ s.bl) rfl (λW b=>by have:=ϻ b.1 6;go_simp) a ?_;refine zq 4 λK hK=>?_;go_simp;refine mR (Ll s.V A n w.drew c) ?_;rintro j rfl;refine zk hK a ?_
 have:IntKind.i64.wrap ((n:Int)-2)=(n:Int)-2:=by rw[wK];omega
 have:IntKind.i64.wrap ((n:Int)-2-s.bl)=(n:Int)-2-s.bl:=by rw[wK];omega
 refine zU 5 (ϊ ((n:Int)-2)) a ?_;refine zU 10 (ϊ ((n:Int)-2-s.bl)) a ?_;refine zU 11 (ϊ ((n:Int)-2-s.bl)) a ?_;refine zd ?_;go_wp2;go_ret;exact⟨rfl,kF.drew⟩
def RGood.zA7{n:Nat}{l}(h:RGood (.at n l))(b:(cont n l.sub).length<=1000000):Fz n l.sub/\Am n l.sub<=1000000:=by
 let⟨_,a,_⟩:=h;have:=Gj n _ _ a;exact⟨Ch n _ _ a,oM⟩
def PE(E)(r)(h)(w)(a:RR E w h r)(g:RGood r)(k:r.cont.length<=1000000):
  Ω 76 #[θ E.V h] w λe w'=>e=ϱ (ϊ (r.news:Nat))/\Kp [] w w':=by
 cases r with
 | none=>
  have i:h=⟨⟨#[]⟩,0,0,none⟩:=a;subst i;have f:∀W:World,Ω 120 #[.agg #[ϕ ⟨#[]⟩,ϊ 0,.int .u64 0,ϗ none]] W λe w'=>e=ϱ (ϊ 0)/\Kp [] W w':=by
   intro W;go_enter func120,ntmps120;go_wp2;go_ret;exact⟨rfl,kF.alloc _⟩
  have j:HL.ptr ⟨⟨#[]⟩,0,0,none⟩=none:=rfl;rw[θ,j];go_enter func76,ntmps76;go_wp2_with fail;refine mR (f _) ?_;rintro m c;have d:Kp [] w m:=(kF.alloc _).tr c;go_wp2;go_ret;exact⟨rfl,d⟩
 | «at» n l=>
  have b:=RGood.zA7 g k;exact qH2 E.O E.V n h l w a b.1 b.2
section
open Go.RowKit Go.Extern.Stop Go.Stop Go.Extern
def RJ(v)(w):(ReflectliteType.typeOf #[.iface 330 v]).run prog w=.ok (.iface 220 (.agg #[ϗ (some (ϰ 5 330))])) w:=kR
def RD(w):(ReflectliteType.relation "AssignableTo" ReflectliteType.assignableTo #[.agg #[ϗ (some (ϰ 5 330))],.iface 220 (.agg #[ϗ (some (ϰ 5 45))])]).run prog w=.ok (ϐ false) w:=kR
def qI8(p)(w):Ω 355 #[ϗ (some p)] w λe w'=>e=ϱ (.iface 45 (ϊ 8))/\w'=w:=by
 go_enter func355,ntmps355;go_wp2;go_ret;exact⟨rfl,rfl⟩
def RB(F E a:Nat)(call)(p)(w)(j:w.heap[F]?=some (ϲ #[ϕ call,.iface 330 (ϗ (some p))] 246))(i:w.heap[E]?=some (ϲ #[ϊ 0] 45))(l:w.heap[a]?=some (ϲ #[ϖ E] 95)):
  Ω 98 #[.iface 243 (ϖ F),.iface 95 (ϖ E),.agg #[ϗ (some (ϰ 5 95)),ϖ a,.int .u64 150],.iface 220 (.agg #[ϗ (some (ϰ 5 45))])] w λe w'=>e=ϱ (ϐ true)/\w'.heap[E]?=some (ϲ #[ϊ 8] 45)/\Kp [E] w w':=by
 have:=@run_callFunc_extern prog 95 _ (λargs=>ReflectliteValue.unpack (args.getD 0 (.tuple #[]))) func95 kR kR kR kR;have:=@run_callFunc_extern prog 151 _ ReflectliteType.typeOf func151 kR kR kR kR;have:=@run_callFunc_extern prog 342 _ (ReflectliteType.relation "AssignableTo" ReflectliteType.assignableTo) func342 kR kR kR kR;have:=@run_callFunc_extern prog 152 _ (ReflectliteValue.method (ReflectliteValue.valueError "reflectlite.Value.Elem" 0) ReflectliteValue.elem) func152 kR kR kR kR;have:=@run_callFunc_extern prog 153 _ ReflectliteValue.set func153 kR kR kR kR;have:=Md;have:=GP;have:=LU;have:=GO;have:=LK;have:=LI;have:=RJ;have:=RD;have:=LZ;have:∀W:World,Sem.run prog (Instr.typeAssert (.iface 330 (ϗ (some p))) 38 225 true) W=.ok (.tuple #[.nilIface,ϐ false]) W:=λW=>run_typeAssert_lacksB underlying225 kR kR _ _ W;have:∀W:World,Sem.run prog (Instr.typeAssert (.iface 330 (ϗ (some p))) 38 228 true) W=.ok (.tuple #[.iface 330 (ϗ (some p)),ϐ true]) W:=λW=>run_typeAssert_hasB underlying228 kR _ _ W;have:=Mg;have:∀W:World,Sem.run prog (Instr.typeAssert (.iface 243 (ϖ F)) 38 225 true) W=.ok (.tuple #[.nilIface,ϐ false]) W:=λW=>run_typeAssert_lacksB underlying225 kR kR _ _ W;have:∀W:World,Sem.run prog (Instr.typeAssert (.iface 243 (ϖ F)) 38 228 true) W=.ok (.tuple #[.iface 243 (ϖ F),ϐ true]) W:=λW=>run_typeAssert_hasB underlying228 kR _ _ W;have:=U i;have:=U j;have:=U l;go_enter func98,ntmps98;go_wp2;refine wp_loop_rounds 4 ?_;rw[rounds_succ];go_wp2_with fail;obtain⟨b,c,k,r⟩:∃b,b=w.alloc (ϲ #[ϗ (some (ϰ 5 95)),ϖ a,.int .u64 150] 143)/\Kp [E] w b/\b.heap.size=w.heap.size+1:=⟨_,rfl,kF.alloc _,sM⟩;have o:Ϙ b F (ϲ #[ϕ call,.iface 330 (ϗ (some p))] 246):=by rw[c];exact ν _ j
 have d:Ϙ b E (ϲ #[ϊ 0] 45):=by rw[c];exact ν _ i
 have q:Ϙ b a (ϲ #[ϖ E] 95):=by rw[c];exact ν _ l
 have g:Ϙ b w.heap.size (ϲ #[ϗ (some (ϰ 5 95)),ϖ a,.int .u64 150] 143):=by rw[c];exact μ _ _
 rw[<-c];clear c;have t:=Y g 0;have u:=Y g 1;have v:=Y g 2;have h:=Y q 0;simp at t u v h;have:=LO (ϰ a 0) (ϰ E 0) b h;have m:=Y (μ b (ϲ #[ϊ 8] 45)) 0;have f:=Y (ν (ϲ #[ϊ 8] 45) d) 0;have n:=ρ (ν (ϲ #[ϊ 8] 45) d) 0;simp at m f;have s:=Mb (ϰ E 0) (ϰ b.heap.size 0) 8 (ϊ 0) (b.alloc (ϲ #[ϊ 8] 45)) sM (sU f) n;rw[r]at s;clear m f n;refine mR (Qo F call _ _ o) ?_;rintro x rfl;go_wp2_with fail;rw[rounds_succ];go_wp2_with fail;refine mR (qI8 p _) ?_;rintro y rfl;go_wp2_with fail;rw[rounds_succ];go_wp2;go_ret;refine⟨rfl,?_,?_⟩
 .first
   | exact ξ (ν _ d) 0 _
   | exact ν _ (ξ d 0 _)
 .first
   | exact(k.alloc _).sc _
   | exact(k.sc _).alloc _
def Rz(F E:Nat)(call)(p)(w)(c:w.cell? (ϰ 0 0)=some Bd)(b:w.heap[F]?=some (ϲ #[ϕ call,.iface 330 (ϗ (some p))] 246))(a:w.heap[E]?=some (ϲ #[ϊ 0] 45)):
  Ω 53 #[.iface 243 (ϖ F),.iface 95 (ϖ E)] w λe w'=>e=ϱ (ϐ true)/\w'.heap[E]?=some (ϲ #[ϊ 8] 45)/\Kp [E] w w':=by
 have:=@run_callFunc_extern prog 95 _ (λargs=>ReflectliteValue.unpack (args.getD 0 (.tuple #[]))) func95 kR kR kR kR;have:=@run_callFunc_extern prog 96 _ (ReflectliteValue.methodAny (ReflectliteValue.valueError "reflectlite.Value.Type" 0) (λt _ _ _=>ReflectliteType.toType t)) func96 kR kR kR kR;have:=@run_callFunc_extern prog 97 _ (ReflectliteValue.method (ReflectliteValue.valueError "reflectlite.Value.IsNil" 0) ReflectliteValue.isNil) func97 kR kR kR kR;have:=@run_callFunc_extern prog 322 _ (ReflectliteType.abiMethod λt=>do pure (.int .u8 (<-Rtype.kind t))) func322 kR kR kR kR;have i:=@run_callFunc_extern prog 344 _ (ReflectliteType.method ReflectliteType.elem) func344 kR kR kR kR;have j:=@run_callFunc_extern prog 345 _ (ReflectliteType.relation "Implements" ReflectliteType.implements_) func345 kR kR kR kR;have n:=Mf;have:=Mc;have l:=LY;have:=LV;have:=LW;have:=LT;have:=LR;have:=LN;have:=LP;have:=U a;have:=U b;have h:0<w.heap.size:=oM
 have m:=LQ (ϰ w.heap.size 0) (ϰ E 0) ((w.alloc (ϲ #[ϖ E] 95)).alloc (ϲ #[ϗ (some (ϰ 5 95)),ϖ w.heap.size,.int .u64 150] 143)) sM;have k:((w.alloc (ϲ #[ϖ E] 95)).alloc (ϲ #[ϗ (some (ϰ 5 95)),ϖ w.heap.size,.int .u64 150] 143)).cell? (ϰ 0 0)=some (.iface 220 (.agg #[ϗ (some (ϰ 5 38))])):=by
  rw[World.cell?_alloc_lt _ _ (ϰ 0 0) sM,World.cell?_alloc_lt _ _ (ϰ 0 0) h];exact c
 clear c;go_enter func53,ntmps53;go_wp2_with fail;refine(RB F E w.heap.size call p _ (ν _ (ν _ b)) (ν _ (ν _ a)) (ν _ (μ _ _))).mono ?_;rintro e o ⟨rfl,d,f⟩;have g:=(((Kp.refl [E] w).alloc _).alloc _).tr f;go_wp2;go_ret;exact⟨rfl,d,g⟩
def qH6(F:Nat)(call)(p)(w)(c:w.cell? (ϰ 0 0)=some Bd)(a:w.heap[F]?=some (ϲ #[ϕ call,.iface 330 (ϗ (some p))] 246)):
  Ω 24 #[.iface 243 (ϖ F)] w λe w'=>e=ϱ (ϊ 8)/\Kp [] w w':=by
 have:=U a;have g:0<w.heap.size:=oM
 go_enter func24,ntmps24;go_wp2_with fail;refine(Rz F w.heap.size call p _ (by rw[World.cell?_alloc_lt _ _ (ϰ 0 0) g];exact c) (ν _ a) (μ _ _)).mono ?_;rintro e k ⟨rfl,d,b⟩;have f:=((Kp.refl [] w).alloc _).trans b (by intro i h j;simp at h;omega);have c0:=Y d 0;simp at c0;clear b c;go_wp2;go_ret;exact⟨rfl,f⟩
end
def CP(s:ByteArray):List Int:=s.data.toList.map (fun b=>(b.toNat:Int))
def Ef(s):(CP s).length=s.size:=by
 unfold CP;rw[List.length_map];exact Array.length_toList
def KP(s):∀x∈CP s,0<=x/\x<256:=by
 intro x a;simp[CP,List.mem_map]at a;obtain⟨b,_,rfl⟩:=a;have:=b.toNat_lt;omega
def KX(s):Lib.strCells s=u8s (CP s):=by
 unfold Lib.strCells u8s CP;rw[List.map_map];rfl
def AP(p:KV):List Int:=[(p.k.size:Int)*16+p.v.size]++CP p.k++CP p.v
def EE(p):(AP p).length=ζ p:=by
 simp only[AP,lA,lC,List.length_nil,Ef,ζ]
def qI4(a b:List Int):u8s (a++b)=u8s a++u8s b:=by simp[u8s]
def Qm(a:List Int):(u8s a).length=a.length:=by simp[u8s]
def DI{w w':Ϣ}{base:Nat}{T:Ϯ}{sz:Nat}{v:Value}{n:Nat}{xs:Ϩ}{k:Nat}{c:ϧ}{t:Ϯ}{d:Nat×Nat}(h:w.ownsRow base T sz v n xs)(f:w.grownBy w' v.ownBlock)(b:w.heap[k]?=some (ϲ c t d))(i:t≠T):w'.heap[k]?=some (ϲ c t d):=by
 refine(f.block k (U b) ?_).trans b;rcases h.2 with⟨rfl,_⟩|⟨g,cap,cur,rfl,_,a,_⟩
 .simp[Value.ownBlock]
 .intro e;simp[Value.ownBlock,Option.some.injEq]at e;subst e;rw[b]at a;simp[Option.some.injEq,Obj.cells.injEq]at a;exact i a.2.1
def St(w w':Ϣ):Prop:=∀(k:Nat)(c:ϧ)(t:Ϯ)(fr:Nat×Nat),w.heap[k]?=some (ϲ c t fr)->t≠5->w'.heap[k]?=some (ϲ c t fr)
def St.refl(w):St w w:=λ_ _ _ _ h _=>h
def St.trans{a b c}(h:St a b)(k:St b c):St a c:=λq x t d e f=>k q x t d (h q x t d e f) f
def St.alloc{a b}(h:St a b)(o):St a (b.alloc o):=λq x t c e d=>ν o (h q x t c e d)
def St.grown{a w w'}{base:Nat}{sz:Nat}{v}{n:Nat}{xs:Ϩ}(s:St a w)(h:w.ownsRow base 5 sz v n xs)(d:w.grownBy w' v.ownBlock):St a w':=λq x t c e b=>DI h d (s q x t c e b) b
def Zk:∀k<9,∀v<13,bits BinOp.or .i64 (((k:Nat):Int)*16) ((v:Nat):Int)=((k:Nat):Int)*16+((v:Nat):Int):=dC
def ZG(p)(v)(base k:Nat)(xs:List Int)(w)(H:k<=1000)(W:AD p)(E:base<=w.heap.size)
  (g:w.ownsRow base 5 1 v k (u8s xs)):
  Ω 338 #[.agg #[ϕ p.k,ϕ p.v],v] w λe w'=>∃v',e=ϱ v'/\w'.ownsRow base 5 1 v' (k+ζ p) (u8s (xs++AP p))/\Below base w w'/\St w w':=by
 let⟨B,q,y,z,A⟩:=info_parts Tryz.qQ2;let⟨X,K,L⟩:=W;have V:=Zk p.k.size oM p.v.size oM;obtain⟨x,t⟩:∃x:Int,x=(p.k.size:Int)*16+p.v.size:=⟨_,rfl⟩;rw[<-t]at V;have:x % 256=x:=oM
 have:wrap64 ((p.k.size:Int)*16)=(p.k.size:Int)*16:=by simp[wrap64];omega
 have R:=zh t;have a:=zh E;have c:=zh (n2 K L);have b:=zh H;clear t X K L E H;go_enter func338,ntmps338
 go_wp2_with (at_builtin;refine wpList_append_own _ rfl _ _ 118 rfl base 5 B (.int .u8 0) 1 1 underlying118 q y z A rfl dC _ _ _ rfl ((g.alloc _).alloc _) (ϰ (w.heap.size+1) 0) 1 1 [.int .u8 x] rfl rfl ?_ (by simp[Value.oneCell']) (by have:=b.out;unfold maxLen;omega) (oW b.out) (by have:=a.out;simp;omega) ?_)
 .intro j u s
  cases j with
  | zero=>
   simp[zH,Option.some.injEq]at s;subst s;have:=Y (μ (w.alloc (ϲ #[ϕ p.k,ϕ p.v] 185)) (ϲ #[.int .u8 x] 5)) 0;simp[Addr.add]
  | succ j=>simp at s
 intro v1 w1 h d _;have T:=ν (ϲ #[.int .u8 x] 5) (μ w (ϲ #[ϕ p.k,ϕ p.v] 185));have F:=DI ((g.alloc _).alloc _) d T dC;have aa:=d.size;have m:=(((Below.refl base w).alloc a _).alloc (by have:=a.out;simp;omega) _).grown d (by have:=a.out;simp;omega) (qN3 g);have Z:=(((St.refl w).alloc _).alloc _).grown ((g.alloc _).alloc _) d;have:=Y F
 go_wp2_with (at_builtin;apply Lib.wpList_append_own_string _ rfl _ _ 118 9 rfl base 5 B underlying118 underlying9 q y z A _ _ _ rfl h p.k rfl (by have:=b.out;have:=c.out;unfold maxLen;omega) (oX b.out c.out) (oX m.size a.out))
 intro v2 w2 I f _;have l:=DI h f F dC;have n:=m.grown f (oX m.size a.out) (qN3 h);have c0:=ϻ l 0;have S:=ϻ l 1;have i:Hid (w2.ownsRow base 5 1 v2 (k+1+p.k.size) (u8s xs++[.int .u8 x]++Lib.strCells p.k)):=by show World.ownsRow _ _ _ _ _ _ _;rw[List.append_assoc];exact I
 have P:=zh (Z.grown h f);clear I f l c0
 go_wp2_with (at_builtin;refine Lib.wpList_append_own_string _ rfl _ _ 118 9 rfl base 5 B underlying118 underlying9 q y z A _ _ _ rfl i p.v rfl (by have:=b.out;have:=c.out;unfold maxLen;omega) (oX b.out c.out) (oX n.size a.out) ?_)
 intro M w3 r o _;have G:=n.grown o (oX n.size a.out) (qN3 i);have C:u8s (xs++AP p)=u8s xs++[.int .u8 x]++Lib.strCells p.k++Lib.strCells p.v:=by
  rw[KX,KX,AP,R.out];simp[u8s]
 have D:k+ζ p=k+1+p.k.size+p.v.size:=by unfold ζ;omega
 have N:Hid (w3.ownsRow base 5 1 M (k+ζ p) (u8s (xs++AP p))):=by show World.ownsRow _ _ _ _ _ _ _;rw[C,D];simp[List.append_assoc,List.singleton_append,List.cons_append,List.nil_append]at r |-;exact r
 have O:=zh G;have Q:=zh (P.grown i o);clear r o G C D S;go_wp2;go_ret;exact⟨M,rfl,N,O,Q⟩
def LH(v)(base k:Nat)(xs:List Int)(n:Int)(m:Nat)(w)(I:k<=1000)(F:m<=100)(r:0<=n)
  (C:base<=w.heap.size) (t:w.ownsRow base 5 1 v k (u8s xs)):
  Ω 250 #[v,.int .u64 n,ϊ m] w λe w'=>∃b,e=ϱ b/\w'.ownsRow base 5 1 b (k+m) (u8s (xs++Ak m n))/\Below base w w'/\St w w':=by
 let⟨A,p,x,y,z⟩:=info_parts Tryz.qQ2;go_enter func250,ntmps250;go_wp2
 go_loopw [0,1,8] (λs q i wr=>∃(j:Nat)(b:Value)(a:Int),j<=m/\i=.int .i64 j/\q=.int .u64 a/\a=n / (256:Int) ^ j/\0<=a/\a<=n/\s=b/\wr.ownsRow base 5 1 b (k+j) (u8s (xs++Ak j n))/\Below base w wr/\Hid (St w wr)) (λ_ _ i _=>m-(intOf i).toNat)
 case atStart=>exact⟨0,v,n,Nat.zero_le _,rfl,rfl,sM,r,Int.le_refl _,rfl,by simpa [Ak] using t,Below.refl _ _,St.refl _⟩
 case round=>
  obtain⟨j,b,a,D,rfl,rfl,l,G,H,rfl,d,c,g⟩:=hrel;have f:=zh l;clear l;by_cases E:j<m
  .go_wp2_with (at_builtin;refine wpList_append_own _ rfl _ _ 118 rfl base 5 A (.int .u8 0) 1 1 underlying118 p x y z rfl dC _ _ _ rfl (d.alloc _) (ϰ wr.heap.size 0) 1 1 [.int .u8 (a % 256)] rfl rfl (cell_one_new _ _ _) (by simp[Value.oneCell']) (by unfold maxLen;omega) oM (by have:=c.size;simp;omega) ?_;intro B K u h _)
   refine⟨⟨j+1,B,a / 256,oM,by go_num,rfl,?_,oM,oM,rfl,?_,?_,(g.alloc _).grown (d.alloc _) h⟩,iO⟩
   .rw[f.out,Int.ediv_ediv_of_nonneg (by exact Int.pow_nonneg dC),Int.pow_succ]
   .have o:u8s (xs++Ak (j+1) n)=u8s (xs++Ak j n)++[.int .u8 (a % 256)]:=by rw[Ka,<-f.out];simp[u8s]
    rw[o];exact u
   .exact (c.alloc (oW c.size) _).grown h (by have:=c.size;simp;omega) (qN3 d)
  .go_wp2;go_ret;have e:j=m:=oM
   subst e;exact⟨_,rfl,d,c,g⟩
def AQ(h:HL):List Int:=Ak 2 h.b++Ak 8 h.s++[(h.key.size:Int)]++CP h.key
def Ey(h):(AQ h).length=11+h.key.size:=by
 simp only[AQ,lA,lC,List.length_nil,Ef,BJ]
def Xv(h)(v)(base k:Nat)(xs:List Int)(w)(F:k<=900)(G:h.key.size<=8)(C:0<=h.b)(ac:h.b<=1000000)(K:0<=h.s)(B:base<=w.heap.size)
  (ae:w.ownsRow base 5 1 v k (u8s xs)):
  Ω 332 #[Aw h,v] w λe w'=>∃v',e=ϱ v'/\w'.ownsRow base 5 1 v' (k+(11+h.key.size)) (u8s (xs++AQ h))/\Below base w w'/\St w w':=by
 let⟨Q,E,N,O,P⟩:=info_parts Tryz.qQ2;obtain⟨x,M⟩:∃x:Int,x=(h.key.size:Int):=⟨_,rfl⟩;have:(h.key.size:Int) % 256=x:=oM
 have:IntKind.u64.wrap h.b=h.b:=by rw[IntKind.wrap_u64];omega
 have HX:=zh M;have a:=zh B;have q:=zh G;have b:=zh F;have s:=zh (n2 C K);clear M G B F C K ac;rw[Aw];go_enter func332,ntmps332;go_wp2_with fail;have ab:=μ w (ϲ (ϡ h) 87);refine(LH v base k xs h.b 2 (w.alloc (ϲ (ϡ h) 87)) (oW b.out) oM s.1 (by have:=a.out;simp;omega) (ae.alloc _)).mono ?_;rintro e w1 ⟨v1,rfl,af,ad,L⟩;have z:=L _ _ _ _ ab dC;have r:=zh (((Below.refl base w).alloc a _).trans ad);have W:=zh (((St.refl w).alloc _).trans L);have S:=zh z;have c2:=ϻ z 2;go_wp2_with fail;refine(LH v1 base (k+2) (xs++Ak 2 h.b) h.s 8 w1 (oW b.out) oM s.2 (oX r.out.size a.out) af).mono ?_;rintro e w2 ⟨v2,rfl,H,D,o⟩;have l:=o _ _ _ _ S dC;have d:=zh H;have c:=zh (r.trans D);have X:=zh (W.trans o);have:=U l;have:=ϻ l 0;clear H D o c2
 go_wp2_with (at_builtin;refine wpList_append_own _ rfl _ _ 118 rfl base 5 Q (.int .u8 0) 1 1 underlying118 E N O P rfl dC _ _ _ rfl (d.alloc _) (ϰ w2.heap.size 0) 1 1 [.int .u8 x] rfl rfl ?_ (by simp[Value.oneCell']) (by have:=b.out;unfold maxLen;omega) (oW b.out) (by have:=c.out.size;have:=a.out;simp;omega) ?_)
 .intro j u p
  cases j with
  | zero=>
   simp[zH,Option.some.injEq]at p;subst p;simp[Addr.add]
  | succ j=>simp at p
 intro v3 w3 I f _;have A:=DI (d.alloc _) f (ν (ϲ #[.int .u8 x] 5) l) dC;have g:=zh ((c.alloc (oX c.out.size a.out) _).grown f (by have:=c.out.size;have:=a.out;simp;omega) (qN3 d));have Z:=zh ((X.alloc _).grown (d.alloc _) f);have i:Hid (w3.ownsRow base 5 1 v3 (k+2+8+1) (u8s (xs++Ak 2 h.b++Ak 8 h.s)++[.int .u8 x])):=by show World.ownsRow _ _ _ _ _ _ _;rw[List.append_assoc xs];exact I
 have c0:=ϻ A 0;clear I f A
 go_wp2_with (at_builtin;refine Lib.wpList_append_own_string _ rfl _ _ 118 9 rfl base 5 Q underlying118 underlying9 E N O P _ _ _ rfl i h.key rfl (by have:=b.out;have:=q.out;unfold maxLen;omega) (oX b.out q.out) (oX g.out.size a.out) ?_)
 intro R w4 n m _;have V:=zh (g.grown m (oX g.out.size a.out) (qN3 i));have aa:=zh (Z.grown i m);have t:u8s (xs++AQ h)=u8s (xs++Ak 2 h.b++Ak 8 h.s)++[.int .u8 x]++Lib.strCells h.key:=by
  rw[KX,AQ,HX.out];simp[u8s]
 have y:k+(11+h.key.size)=k+2+8+1+h.key.size:=oM
 have T:Hid (w4.ownsRow base 5 1 R (k+(11+h.key.size)) (u8s (xs++AQ h))):=by show World.ownsRow _ _ _ _ _ _ _;rw[t,y];simp[List.append_assoc,List.singleton_append,List.cons_append,List.nil_append]at n |-;exact n
 clear n m t y c0;go_wp2;go_ret;exact⟨R,rfl,T,V,aa⟩
def Hid.mk'{p:Prop}(h:p):Hid p:=h
def Nl{α:Type}(f:α->List Int)(l:List α)(j:Nat)(h:j<l.length):(l.take (j+1)).flatMap f=(l.take j).flatMap f++f l[j]:=by
 rw[tA h,fA];simp
def qL3(vb)(base k:Nat)(xs:List Int)(v)(ps)(w)(S:k+qM2 ζ ps<=900)(T:ps.length<=1000000)(M:∀p∈ps,AD p)
  (x:Slc w 185 2 v ps.length (Aa ps)) (u:base<=w.heap.size) (H:w.ownsRow base 5 1 vb k (u8s xs)):
  Ω 289 #[vb,v] w λe w'=>∃a,e=ϱ a/\w'.ownsRow base 5 1 a (k+qM2 ζ ps) (u8s (xs++ps.flatMap AP))/\Below base w w'/\St w w':=by
 obtain⟨r,t,f⟩:∃r t,v=.slice r ps.length t:=by
  rcases x.val with⟨E,b,c,m,_⟩|⟨g,o,cap,cur,D,m,_⟩
  .rw[E];exact⟨b,c,m⟩
  .exact⟨_,cap,m⟩
 subst f;go_enter func289,ntmps289;go_wp2
 go_loopw [0,9] (λs i wr=>∃(j:Nat)(a:Value),j<=ps.length/\i=.int .i64 j/\s=a/\Hid (wr.ownsRow base 5 1 a (k+qM2 ζ (ps.take j)) (u8s (xs++(ps.take j).flatMap AP)))/\Hid (Below base w wr)/\Hid (St w wr)) (λ_ i _=>ps.length-(intOf i).toNat)
 case atStart=>exact⟨0,vb,zL _,rfl,rfl,by show World.ownsRow _ _ _ _ _ _ _;simpa [AJ] using H,Below.refl _ _,St.refl _⟩
 case round=>
  obtain⟨j,a,R,rfl,rfl,q,HL,l⟩:=hrel;by_cases d:j<ps.length
  .let⟨P,o,O,cur,D,f,Q,K,G⟩:=x.pair oM;let⟨c0,C⟩:=G j d;simp[vJ,true_and]at f;obtain⟨rfl,rfl⟩:=f;have n:=l.out _ _ _ _ K dC;have A:=Y n (o+j*2);rw[c0]at A;have B:=Y n (o+j*2+1);rw[C]at B;have:=U n;have:(j:Int)<(ps.length:Int):=oM
   have:=Dc ζ ps j;go_wp2_with fail;refine(ZG ps[j] _ base (k+qM2 ζ (ps.take j)) (xs++(ps.take j).flatMap AP) _ oM (M ps[j] (gM d)) (by have:=u;have:=HL.out.size;simp;omega) (q.alloc _)).mono ?_;rintro e N ⟨y,rfl,I,F,L⟩;have z:Hid (N.ownsRow base 5 1 y (k+qM2 ζ (ps.take (j+1))) (u8s (xs++(ps.take (j+1)).flatMap AP))):=by
    show World.ownsRow _ _ _ _ _ _ _;rw[(zh (CA ζ ps j d)).out,(zh (Nl AP ps j d)).out,<-aA,<-Nat.add_assoc];exact I
   go_wp2;exact⟨⟨j+1,y,oM,by go_num,rfl,z,zh ((HL.alloc (oX u HL.out.size) _).trans F),zh ((l.alloc _).trans L)⟩,iO⟩
  .have:¬(j:Int)<(ps.length:Int):=oM
   have e:ps.take j=ps:=tL oM;have h:=q.out;rw[e]at h;go_wp2;go_ret;exact⟨_,rfl,Hid.mk' h,HL,l⟩
def qL2(vb)(base k:Nat)(xs:List Int)(v)(ps)(w)(Z:k+qM2 ψ ps<=900)(hn:ps.length<=1000000)(R:∀p∈ps,p.key.size<=8/\0<=p.b/\p.b<=1000000/\0<=p.s)
  (y:Slc w 87 4 v ps.length (Ag ps)) (x:base<=w.heap.size) (N:w.ownsRow base 5 1 vb k (u8s xs)):
  Ω 288 #[vb,v] w λe w'=>∃a,e=ϱ a/\w'.ownsRow base 5 1 a (k+qM2 ψ ps) (u8s (xs++ps.flatMap AQ))/\Below base w w'/\St w w':=by
 obtain⟨t,u,m⟩:∃t u,v=.slice t ps.length u:=by
  rcases y.val with⟨K,b,c,q,_⟩|⟨g,f,cap,cur,I,q,_⟩
  .rw[K];exact⟨b,c,q⟩
  .exact⟨_,cap,q⟩
 subst m;go_enter func288,ntmps288;go_wp2
 go_loopw [0,9] (λs i wr=>∃(j:Nat)(a:Value),j<=ps.length/\i=.int .i64 j/\s=a/\Hid (wr.ownsRow base 5 1 a (k+qM2 ψ (ps.take j)) (u8s (xs++(ps.take j).flatMap AQ)))/\Hid (Below base w wr)/\Hid (St w wr)) (λ_ i _=>ps.length-(intOf i).toNat)
 case atStart=>exact⟨0,vb,zL _,rfl,rfl,by show World.ownsRow _ _ _ _ _ _ _;simpa [AJ] using N,Below.refl _ _,St.refl _⟩
 case round=>
  obtain⟨j,a,X,rfl,rfl,r,HL,o⟩:=hrel;by_cases l:j<ps.length
  .let⟨V,f,T,cur,I,m,W,P,M⟩:=y.link oM;let⟨c0,F,G,H⟩:=M j l;simp[vJ,true_and]at m;obtain⟨rfl,rfl⟩:=m;have d:=o.out _ _ _ _ P dC;have B:=Y d (f+j*4);rw[c0]at B;have C:=Y d (f+j*4+1);rw[F]at C;have D:=Y d (f+j*4+2);rw[G]at D;have E:=Y d (f+j*4+3);rw[H]at E;have:=U d;have:(j:Int)<(ps.length:Int):=oM
   have n:=R ps[j] (gM l);have:=Dc ψ ps j;go_wp2_with fail;refine(Xv ps[j] _ base (k+qM2 ψ (ps.take j)) (xs++(ps.take j).flatMap AQ) _ oM n.1 n.2.1 n.2.2.1 n.2.2.2 (by have:=x;have:=HL.out.size;simp;omega) (r.alloc _)).mono ?_;rintro e S ⟨z,rfl,O,L,Q⟩;have A:Hid (S.ownsRow base 5 1 z (k+qM2 ψ (ps.take (j+1))) (u8s (xs++(ps.take (j+1)).flatMap AQ))):=by
    show World.ownsRow _ _ _ _ _ _ _;rw[(zh (CA ψ ps j l)).out,(zh (Nl AQ ps j l)).out,<-aA,<-Nat.add_assoc];exact O
   go_wp2;exact⟨⟨j+1,z,oM,by go_num,rfl,A,zh ((HL.alloc (oX x HL.out.size) _).trans L),zh ((o.alloc _).trans Q)⟩,iO⟩
  .have:¬(j:Int)<(ps.length:Int):=oM
   have e:ps.take j=ps:=tL oM;have h:=r.out;rw[e]at h;go_wp2;go_ret;exact⟨_,rfl,Hid.mk' h,HL,o⟩
def CB(lv:Int)(ps:List KV)(hs:List HL):List Int:=[lv,((ps.length+hs.length:Nat):Int)]++ps.flatMap AP++hs.flatMap AQ
def Ab(lv:Int)(ps:List KV)(hs:List HL):List Int:=CB lv ps hs++List.replicate (128-(2+qM2 ζ ps+qM2 ψ hs)) 0
def Hf{α:Type}(f:α->List Int)(g:α->Nat)(h:∀x,(f x).length=g x)(l:List α):(l.flatMap f).length=qM2 g l:=by
 induction l with
 | nil=>simp[AJ]
 | cons a l ih=>rw[fC,lA,h,ih,Au]
def OZ(a:Int)(ps)(hs):(CB a ps hs).length=2+qM2 ζ ps+qM2 ψ hs:=by
 unfold CB;rw[lA,lA,Hf AP ζ EE,Hf AQ ψ (λh=>Ey h)];simp
def Ea(a:Int)(ps)(hs)(h:2+qM2 ζ ps+qM2 ψ hs<=128):(Ab a ps hs).length=128:=by
 unfold Ab;rw[lA,OZ,List.length_replicate];omega
def Df{w}{T}{sz:Nat}{v}{n:Nat}{cs:Ϩ}(h:Slc w T sz v n cs):∃d e,v=.slice d n e:=by
 rcases h.val with⟨f,b,c,a,_⟩|⟨g,j,cap,cur,i,a,_⟩
 .rw[f];exact⟨b,c,a⟩
 .exact⟨_,cap,a⟩
def Slc.st{w w'}{T}{sz:Nat}{v}{n:Nat}{cs:Ϩ}(h:Slc w T sz v n cs)(i:T≠5)(j:St w w'):Slc w' T sz v n cs:=by
 refine⟨h.len,?_⟩;rcases h.val with a|⟨g,k,cap,cur,b,a,c,d,e,f⟩
 .exact Or.inl a
 .exact Or.inr ⟨g,k,cap,cur,b,a,c,d,j _ _ _ _ e i,f⟩
def qA4(q:Nat)(d:Int)(pb lb)(n m f c:Nat)(w)(a:w.heap[q]?=some (Ai d (.slice pb n f) (.slice lb m c)))(h:n<=100000)(g:m<=100000):
  Ω 161 #[ϖ q] w λe w'=>e=ϱ (ϊ ((n+m:Nat):Int))/\Kp [] w w':=by
 have:=U a;have b:=Y a;simp only[Ai,zG,zH,zI]at b;clear a;go_enter func161,ntmps161;go_wp2_with fail
 go_quiet (fail)
 go_wp2;go_ret;exact⟨BV oM,kF.drewN _⟩
def AZ(w)(o1):∃a,a=w.alloc o1/\a.heap[w.heap.size]?=some o1/\Kp [] w a/\a.heap.size=w.heap.size+1:=⟨_,rfl,μ _ _,kF.alloc _,sM⟩
def qL8:zeroCells288=(List.replicate 128 (.int .u8 0)).toArray:=kR
def Xt(a:Int)(ps)(hs):Bz zeroCells288 0 (u8s (CB a ps hs)).toArray=(u8s (Ab a ps hs)).toArray:=by
 rw[qL8];unfold Bz
 congr 1
 rw[Ab,qI4];simp only[List.take_zero,nA,List.drop_replicate,Nat.zero_add,List.size_toArray,Qm,OZ]
 congr 1
 simp[u8s]
def Jb(q:Nat)(a:Int)(vp vl)(ps)(hs)(w)(R:w.heap[q]?=some (Ai a vp vl))(bc:0<=a)(bd:a<256)
  (ap:Slc w 185 2 vp ps.length (Aa ps)) (ao:Slc w 87 4 vl hs.length (Ag hs)) (C:2+qM2 ζ ps+qM2 ψ hs<=128) (hc:ps.length+hs.length<=255)
  (ay:∀p∈ps,AD p) (ax:∀p∈hs,p.key.size<=8/\0<=p.b/\p.b<=1000000/\0<=p.s):
  Ω 271 #[ϖ q] w λe w'=>e=ϱ (.agg (u8s (Ab a ps hs)).toArray)/\Kp [] w w':=by
 obtain⟨m,o,rfl⟩:=Df ap;obtain⟨k,l,rfl⟩:=Df ao;have:IntKind.u8.wrap a=a:=by rw[IntKind.wrap_u8];omega
 obtain⟨d,aj⟩:∃d:Nat,d=ps.length+hs.length:=⟨_,rfl⟩;have:IntKind.u8.wrap (d:Int)=(d:Int):=by rw[IntKind.wrap_u8];omega
 have V:=zh aj;have s:=zh hc;have a1:=zh ay;have a0:=zh ax;have HQ:=zh R;have:=U R;clear bc bd hc ay ax aj R;go_enter func271,ntmps271;go_wp2_with fail;let⟨D,ar,a6,G,bm⟩:=AZ w (ϲ zeroCells288 288);rw[<-ar];clear ar;have bf:=G.hp HQ.out;have b:Ϙ D.drew q (Ai a (.slice m ps.length o) (.slice k hs.length l)):=bf;refine wp_region_held_drew (S:=λW=>Ϙ W q (Ai a (.slice m ps.length o) (.slice k hs.length l))) kR b (λ_=>?_);refine zP 0 q 0 b ?_;refine zV 1 (ϖ q) rfl (λW c=>by have:=U c;go_simp) b ?_;refine zP 2 q 0 b ?_;refine zV 3 (ϊ a) rfl (λW c=>by have:=ϻ c 0;go_simp) b ?_;refine zU 4 (.int .u8 a) b ?_;refine zP 5 q 0 b ?_;refine zP 9 q 0 b ?_;refine zV 10 (ϖ q) rfl (λW c=>by have:=U c;go_simp) b ?_;refine zP 11 q 1 b ?_;refine zV 12 (.slice m ps.length o) rfl (λW c=>by have:=ϻ c 1;go_simp) b ?_;refine zP 14 q 0 b ?_;refine zV 15 (ϖ q) rfl (λW c=>by have:=U c;go_simp) b ?_;refine zP 16 q 2 b ?_;refine zV 17 (.slice k hs.length l) rfl (λW c=>by have:=ϻ c 2;go_simp) b ?_;refine zq 6 λK hK=>?_;go_simp;refine(qA4 q a m k ps.length hs.length o l D.drew b (oW s.out) (oW s.out)).mono ?_;rintro e f ⟨rfl,Z⟩;have M:=Z.hp b;rw[<-V.out];have y:Kp [] D f:=((Kp.refl _ D).drew).tr Z;refine hK.out _ _ M (λ_=>?_)
 try simp[zZ]
 refine zU 7 (.int .u8 d) M ?_;refine zq 8 λK hK=>?_;go_simp;let⟨w2,au,a3,z,bn⟩:=AZ f (ϲ #[.int .u8 a,.int .u8 d] 5);rw[<-au];clear au;have ag:=z.hp M;have ab:=(G.tr y).tr z;have a7:=(y.tr z).hp a6;have a5:=G.tr y;have a9:=z.below lR sM;have be:w2.ownsRow f.heap.size 5 1 (.slice (some (ϰ f.heap.size 0)) 2 2) 2 (u8s [a,(d:Int)]):=⟨rfl,Or.inr ⟨f.heap.size,2,_,rfl,lR,a3,lR,dC,rfl,rfl⟩⟩;have:=y.size;refine hK.out _ _ ag (λ_=>?_)
 try simp[zZ]
 refine zq 13 λK hK=>?_;go_simp;refine(qL3 (.slice (some (ϰ f.heap.size 0)) 2 2) f.heap.size 2 [a,(d:Int)] (.slice m ps.length o) ps w2 (oW C) (oW s.out) a1 (ap.qM4 ab) oM be).mono ?_;rintro e w3 ⟨v3,rfl,an,ai,T⟩;have O:=T _ _ _ _ ag dC;have ad:=T _ _ _ _ a7 dC;refine hK.out _ _ O (λ_=>?_)
 try simp[zZ]
 refine zq 18 λK hK=>?_;go_simp;refine(qL2 v3 f.heap.size (2+qM2 ζ ps) ([a,(d:Int)]++ps.flatMap AP) (.slice k hs.length l) hs w3 (oW C) (oW s.out) a0 ((ao.qM4 ab).st dC T) (oW ai.size) an).mono ?_;rintro e r ⟨v4,rfl,P,ba,aq⟩;have ah:=aq _ _ _ _ O dC;have ae:=aq _ _ _ _ ad dC;refine hK.out _ _ ah (λ_=>?_);clear hK K O ad an
 try simp[zZ]
 refine zq 19 λK hK=>?_;go_simp;refine zk hK ah ?_
 refine zd ?_;have X:=zh (a5.trans (Kp.qN2 ((a9.trans ai).trans ba) lR) sM);have bk:u8s ([a,(d:Int)]++ps.flatMap AP++hs.flatMap AQ)=u8s (CB a ps hs):=by rw[CB,<-V.out]
 rw[bk]at P;let⟨N,H⟩:=eY (2+qM2 ζ ps+qM2 ψ hs);rw[H]at P;have:=zh H;rcases P.2 with⟨_,h0⟩|⟨g,cap,cur,rfl,hg,bb,bl,_,bg,bh⟩
 .omega
 have az:Hid (cur.toList.take N=u8s (CB a ps hs)):=by show _=_;rw[<-bh,Nat.mul_one]
 have F:Hid (N<=cur.size/\N<=128):=⟨by rw[bg];omega,by rw[<-H];exact C⟩;have HG:=zh bb;go_wp2_with fail;let⟨w5,bi,I,A,bo⟩:=AZ r (ϲ zeroCells288 288);rw[<-bi];have ak:=A.hp HG.out;have af:=A.hp ae;have Q:Ad cur 0 N=(u8s (CB a ps hs)).toArray:=by
  simp[Ad,dZ];rw[az.out]
 have am:∀v∈(Ad cur 0 N).toList,v.oneCell'=true:=by
  rw[Q];intro v j;simp[u8s,List.mem_map]at j;obtain⟨x,_,rfl⟩:=j;rfl
 rw[Fp (n:=N) 3 underlying118 Tryz.qQ7 (by have:=F.out.2;show N=min N 128;omega) I ak (by rw[CS];have:=F.out.2;omega) (oW F.out.1) am,Q];have al:=Xt a ps hs;rw[al];let⟨B,i⟩:=eX ((u8s (Ab a ps hs)).toArray);have u:B.size=128:=by rw[i];simp[List.size_toArray,Qm];exact Ea a ps hs C
 have a2:∀v∈B.toList,v.oneCell'=true:=by
  rw[i];intro v j;simp[u8s,List.mem_map]at j;obtain⟨x,_,rfl⟩:=j;rfl
 rw[<-i];have HB:=zh i;have:=U ae;have bj:w.heap.size≠r.heap.size:=oM
 obtain⟨h,av,ac,L,aa,bp⟩:∃h,h=w5.setRow r.heap.size B/\Ϙ h r.heap.size (ϲ B 288)/\Ϙ h w.heap.size (ϲ zeroCells288 288)/\Kp [] w h/\h.heap.size=w5.heap.size:=
  ⟨_,rfl,setRow_heap _ _ _ _ _ _ I,(setRow_other _ _ _ _ bj).trans af,(X.tr A).setRow (Or.inr (oW X.out.size)) _,sM⟩
 rw[<-av];clear av Q am af I ak A al i;have:Ad B 0 128=B:=by rw[<-u];simp[Ad,tL]
 go_wp2_with (
  with_reducible refine EO (t:=288) ?_ 128 ?_ r.heap.size 0 ?_ B 288 (0,0) ?_ ?_ ?_
  .kernel_rfl
  .kernel_rfl
  .rfl
  .exact ac
  .omega)
 rw[DB L (by simp[CS,u]) a2];rw[show B.toList.toArray=B from by simp,CY (by rw[CS,u])];obtain⟨E,aw,a8,a4⟩:∃E,E=h.setRow w.heap.size B/\Ϙ E w.heap.size (ϲ B 288)/\Kp [] w E:=
  ⟨_,rfl,setRow_heap _ _ _ _ _ _ L,aa.setRow (Or.inr lR) _⟩
 rw[<-aw];clear aw ac L aa;go_wp2_with fail;exact bodyPost_ret (results_cell_row results271 _ _ w.heap.size _ _ _ _ rfl a8 underlying288 rfl (by rw[u];kernel_rfl)) rfl ⟨by rw[HB.out],a4⟩
variable {κ:Nat}
def nx(c:Int):Int:=wrap64 (c+1)
def nk(c:Int):Nat→Int
 | 0=>c
 | k+1=>nx (nk c k)
variable {κ:Nat}
structure Wr(base A:Nat)(w w':Ϣ):Prop where
 os:w'.os=w.os
 tape:w'.tape=w.tape
 output:w'.output=w.output
 size:w.heap.size<=w'.heap.size
 low:∀k,k<base->k≠A->w'.heap[k]?=w.heap[k]?
 oth:∀(k:Nat)(c:ϧ)(t:Ϯ)(fr:Nat×Nat),w.heap[k]?=some (ϲ c t fr)->t≠117->k≠A->w'.heap[k]?=some (ϲ c t fr)
def Wr.trans{base A:Nat}{a b c}(h:Wr base A a b)(k:Wr base A b c):Wr base A a c:=
 ⟨k.os.trans h.os,k.tape.trans h.tape,k.output.trans h.output,lT h.size k.size,λq d f=>(k.low q d f).trans (h.low q d f),λq c t fr e d f=>k.oth q c t fr (h.oth q c t fr e d f) d f⟩
def Wr.qP2{base A:Nat}{a b}(h:Kp [A] a b)(g:base<=a.heap.size):Wr base A a b:=
 ⟨h.os,h.tape,h.output,h.size,λk f d=>h.block k oM (sU d),λk c t fr e f d=>h.heap e (sU d)⟩
def Wr.grown{base A:Nat}{a w w'}{sz:Nat}{v}{n:Nat}{xs:Ϩ}(s:Wr base A a w)(i:base<=a.heap.size)(h:w.ownsRow base 117 sz v n xs)(b:w.grownBy w' v.ownBlock):Wr base A a w':=
 ⟨b.os.trans s.os,b.tape.trans s.tape,b.output.trans s.output,lT s.size b.size,λk d f=>by
  refine(b.block k (oW s.size) ?_).trans (s.low k d f);intro e;have:=qN3 h k e.symm;omega,λk c t g e d f=>DI h b (s.oth k c t g e d f) d⟩
def BT{w w'}{S}{base:Nat}{e}{sz:Nat}{v}{n:Nat}{xs:Ϩ}(h:w.ownsRow base e sz v n xs)(hK:Kp S w w')(f:Apt w S [e]):w'.ownsRow base e sz v n xs:=by
 refine⟨h.1,?_⟩;rcases h.2 with a|⟨g,cap,cur,a,c,b,d⟩
 .exact Or.inl a
 .exact Or.inr ⟨g,cap,cur,a,c,hK.heap b (λi=>f g i _ _ _ b sM),d⟩
variable {κ:Nat}
def wcs(x:Nat×List UInt8):List Value:=.int .i64 (x.1:Int)::Ay x.2
def laidAll(l:List UInt8)(ws:List (Nat×List UInt8)):List UInt8:=ws.foldl (fun l x=>Ap l x.1 x.2) l
def JM(l:ϣ)(ws:ϥ)(j:Nat)(h:j<ws.length):laidAll l (ws.take (j+1))=Ap (laidAll l (ws.take j)) ws[j].1 ws[j].2:=by
 unfold laidAll;rw[tA h,List.foldl_append];rfl
def EK(l b)(i n:Nat)(a:b.length=128)(d:n*128<=l.length)(c:i<n):n*128<=(Ap l i b).length:=by
 unfold Ap;simp[lA,lK,lD];omega
def KM(l b)(i n:Nat)(a:b.length=128)(d:n*128<=l.length)(c:i<n):(Ap l i b).length=l.length:=by
 unfold Ap;simp[lA,lK,lD];omega
def Xr(n:Nat)(ws):∀(l),n*128<=l.length->(∀x∈ws,x.1<n/\x.2.length=128)->(laidAll l ws).length=l.length:=by
 induction ws with
 | nil=>intro l h _;rfl
 | cons a ws ih=>
  intro l h d;have b:=d a sM;have c:=KM l a.2 a.1 n b.2 h b.1;rw[<-c];exact ih _ (by rw[c];exact h) (λx e=>d x (by simp[e]))
def Cy(n:Nat)(ws):∀(l),n*128<=l.length->(∀x∈ws,x.1<n/\x.2.length=128)->n*128<=(laidAll l ws).length:=by
 induction ws with
 | nil=>intro l h _;exact h
 | cons a ws ih=>
  intro l h c;have b:=c a sM;exact ih _ (EK l a.2 a.1 n b.2 h b.1) (λx d=>c x (by simp[d]))
def Jw{α e:Type}(f:α->List e)(m:Nat)(l:List α):(∀x∈l,(f x).length=m)->∀j (h:j<l.length),((l.flatMap f).drop (j*m)).take m=f l[j]:=by
 induction l with
 | nil=>intro _ j h;cases h
 | cons a l ih=>
  intro b j h;have c:=b a sM
  cases j with
  | zero=>
   simp[Nat.zero_mul,dZ,fC,zF];rw[List.take_append_of_le_length oM,tL oM]
  | succ j=>
   simp[fC,zE];rw[show(j+1)*m=(f a).length+j*m from by rw[c,Nat.succ_mul];omega,<-List.drop_drop,List.drop_left];exact ih (λx d=>b x (by simp[d])) j (sU h)
variable {κ:Nat}
def Wr.tail{base A:Nat}{a w w'}{S}(h:Wr base A a w)(hK:Kp S w w')(f:∀k∈S,a.heap.size<=k)(i:base<=a.heap.size):Wr base A a w':=
 ⟨hK.os.trans h.os,hK.tape.trans h.tape,hK.output.trans h.output,lT h.size hK.size,λk b d=>(hK.block k (oW h.size) (λhm=>by have:=f k hm;omega)).trans (h.low k b d),λk c t g e b d=>hK.heap (h.oth k c t g e b d) (λhm=>by have:=f k hm;have:=U e;omega)⟩
def ZD(p)(h:AD p):∀x∈AP p,0<=x/\x<256:=by
 let⟨b,c,d⟩:=h;intro x a;simp only[AP,List.mem_append,List.mem_singleton]at a;rcases a with (rfl|a)|a
 .omega
 .exact KP _ x a
 .exact KP _ x a
def XV(h)(b:h.key.size<=8):∀x∈AQ h,0<=x/\x<256:=by
 intro x a;simp only[AQ,List.mem_append,List.mem_singleton]at a;rcases a with ((a|a)|rfl)|a
 .exact CK _ _ x a
 .exact CK _ _ x a
 .omega
 .exact KP _ x a
def Cd(c:Int)(ps)(hs)(g:0<=c)(h:c<256)(f:ps.length+hs.length<=255)(e:∀p∈ps,AD p)(d:∀p∈hs,p.key.size<=8):∀x∈Ab c ps hs,0<=x/\x<256:=by
 intro x a;simp only[Ab,CB,List.mem_append,mC,lN,or_false,List.mem_flatMap]at a;rcases a with (((rfl|rfl)|⟨p,b,a⟩)|⟨p,b,a⟩)|a
 .omega
 .omega
 .exact ZD p (e p b) x a
 .exact XV p (d p b) x a
 .rw[List.eq_of_mem_replicate a];omega
def MV(xs:List Int)(h:∀x∈xs,0<=x/\x<256):Ay (toB xs)=u8s xs:=by
 unfold Ay toB u8s;rw[List.map_map];refine List.map_congr_left λx a=>?_;have:=h x a;simp only[Function.comp]
 congr 1
 have e:(UInt8.ofNat x.toNat).toNat=x.toNat:=by
  rw[UInt8.toNat_ofNat'];omega
 rw[e];omega
def BG(xs:List Int):(toB xs).length=xs.length:=by simp[toB]
def StT(T:Ϯ)(w w':Ϣ):Prop:=∀(k:Nat)(c:ϧ)(t:Ϯ)(fr:Nat×Nat),w.heap[k]?=some (ϲ c t fr)->t≠T->w'.heap[k]?=some (ϲ c t fr)
def StT.refl(T)(w):StT T w w:=λ_ _ _ _ h _=>h
def StT.kp{T}{a b c}(h:StT T a b)(k:Kp [] b c):StT T a c:=λq x t d e f=>k.heap (h q x t d e f) sM
def StT.grown{T}{a w w'}{base:Nat}{sz:Nat}{v}{n:Nat}{xs:Ϩ}(s:StT T a w)(h:w.ownsRow base T sz v n xs)(d:w.grownBy w' v.ownBlock):StT T a w':=λq x t c e b=>DI h d (s q x t c e b) b
def qC6{w}{g a k cap:Nat}{cur}{t}{fr}{l}(d:w.heap[g]?=some (ϲ cur t fr))(f:a+k<=cur.size)(h:Ad cur a k=(Ay l).toArray):
  Sem.run prog (convert 118 9 (.slice (some (ϰ g a)) k cap)) w=.ok (ϕ ⟨l.toArray⟩) w:=by
 rw[run_convert_bytes_string w _ _ _ _ _ _ underlying118 underlying5 underlying9];have e:(l.map (λb=>(b.toNat:Int))).map (Value.int .u8)=Ay l:=by simp[Ay]
 have c:=Gt (P:=prog) (o:=a) (n:=k) d f;rw[h,<-e]at c;rw[run_bytesToString w _ _ _ _ c,Jz];simp
def KJ{w}{g a k cap:Nat}{cur}{t}{fr}{s}(b:w.heap[g]?=some (ϲ cur t fr))(c:a+k<=cur.size)(d:Ad cur a k=(Ay s.data.toList).toArray):
  Sem.run prog (convert 118 9 (.slice (some (ϰ g a)) k cap)) w=.ok (ϕ s) w:=by
 rw[qC6 b c d,Array.toArray_toList]
def Gx(s):toB (CP s)=s.data.toList:=by
 unfold toB CP;rw[List.map_map];refine Eq.trans (List.map_congr_left (g:=id) λb _=>?_) (List.map_id _);simp only[Function.comp,Int.toNat_natCast,id];exact UInt8.ofNat_toNat
def SA(bl)(a:Nat)(p)(i:AD p)(j:(bl.drop a).take (ζ p)=toB (AP p)):
  (enc bl)[a]?=some (.int .u8 ((p.k.size:Int)*16+p.v.size))/\Ad (enc bl) (a+1) p.k.size=(Ay p.k.data.toList).toArray/\Ad (enc bl) (a+1+p.k.size) p.v.size=(Ay p.v.data.toList).toArray:=by
 let⟨k,m,n⟩:=i;have o:ζ p=1+p.k.size+p.v.size:=rfl;have d:p.k.data.toList.length=p.k.size:=Array.length_toList;have q:p.v.data.toList.length=p.v.size:=Array.length_toList;have e:(bl.drop a).take (ζ p)=[UInt8.ofNat ((p.k.size:Int)*16+p.v.size).toNat]++p.k.data.toList++p.v.data.toList:=by
  rw[j,AP,Dr,Dr,Gx,Gx];rfl
 let⟨l,b⟩:=eX (bl.drop a);rw[<-b]at e;refine⟨?_,?_,?_⟩
 .have c:l[0]?=some (UInt8.ofNat ((p.k.size:Int)*16+p.v.size).toNat):=by
   have:=congrArg (λz=>z[0]?) e;simp only[List.getElem?_take,aA,cA,nA,zH]at this;rw[if_pos oM]at this;exact this
  rw[b,List.getElem?_drop,Nat.add_zero]at c;unfold enc Ay;rw[zG,List.getElem?_map,c];simp only[Option.map_some,Option.some.injEq,Value.int.injEq,true_and];rw[UInt8.toNat_ofNat'];omega
 .rw[Dd];have f:(bl.drop (a+1)).take p.k.size=p.k.data.toList:=by
   rw[<-List.drop_drop,<-b];have h:=congrArg (λz=>(z.drop 1).take p.k.size) e;simp only[List.drop_take,List.take_take,aA,cA,nA,List.drop_succ_cons,dZ]at h;rw[Nat.min_eq_left oM,List.take_left' d]at h;exact h
  rw[f];rfl
 .rw[Dd];have g:(bl.drop (a+1+p.k.size)).take p.v.size=p.v.data.toList:=by
   rw[Nat.add_assoc,<-List.drop_drop,<-b];have h:=congrArg (λz=>(z.drop (1+p.k.size)).take p.v.size) e;simp only[List.drop_take,List.take_take]at h;rw[Nat.min_eq_left oM]at h;rw[h,List.drop_left' (by simp[d];omega),tL oM]
  rw[g];rfl
def ZV(B base c:Nat)(bl)(p)(ps)(v)(w)(u:w.heap[B]?=some (ϲ (enc bl) 288))(Q:bl.length=128)(hp:AD p)(a7:c+ζ p<=128)
  (ac:(bl.drop c).take (ζ p)=toB (AP p)) (hv:w.ownsRow base 185 2 v ps.length (Aa ps)) (hb:base<=w.heap.size) (hl:ps.length<=1000):
  Ω 274 #[v,.slice (some (ϰ B c)) (128-c) (128-c)] w λe w'=>∃v' r,e=ϱ (.tuple #[v',r,ϐ true])/\(c+ζ p<128->r=.slice (some ⟨B,c+ζ p,none⟩) (128-(c+ζ p)) (128-(c+ζ p)))/\(∃o,r=.slice (some (ϰ B o)) (128-(c+ζ p)) (128-(c+ζ p)))/\
   w'.ownsRow base 185 2 v' (ps.length+1) (Aa (ps++[p]))/\Below base w w'/\StT 185 w w':=by
 let⟨Z,aa,ab⟩:=hp;have a8:ζ p=1+p.k.size+p.v.size:=rfl;let⟨m,H⟩:=eX (128-c);obtain⟨x,hx⟩:∃x:Int,x=(p.k.size:Int)*16+p.v.size:=⟨_,rfl⟩;obtain⟨a,R⟩:∃a:Nat,a=p.k.size:=⟨_,rfl⟩;obtain⟨b,ag⟩:∃b:Nat,b=p.v.size:=⟨_,rfl⟩;have a4:x / 16=(a:Int):=oM
 have bc:x % 16=(b:Int):=oM
 have a6:(0:Int)<(m:Int):=oM
 have a5:((m:Int) == 0)=false:=sO
 have ax:¬(a:Int)<1:=oM
 have ay:¬(8:Int)<(a:Int):=oM
 have az:¬(12:Int)<(b:Int):=oM
 have a0:¬(m:Int)<1+(a:Int)+(b:Int):=oM
 have ba:=SA bl c p ⟨Z,aa,ab⟩ ac;let⟨ad,ae,A⟩:=ba;have b0:w.cell? (ϰ B c)=some (.int .u8 x):=by rw[Y u,hx];exact ad
 rw[<-R]at ae A;rw[<-ag]at A;have l:Hid (m=128-c/\c+(1+a+b)<=128):=⟨H,oM⟩;have ap:Hid (ζ p=1+a+b):=by show _=_;omega
 have HB:=zh u;have:=U u;rw[<-H,ap.out];clear ac u hx R ag H ad a8 a7 Z aa ab;go_enter func274,ntmps274;go_wp2_with fail
 go_quiet (fail)
 go_wp2_with fail;obtain⟨k,ah,M,au,af⟩:∃k,k=w.drewN nq/\Ϙ k B (ϲ (enc bl) 288)/\Kp [] w k/\k.heap.size=w.heap.size:=⟨_,rfl,HB,(Kp.refl _ _).drewN _,rfl⟩;rw[<-ah];clear ah b0 a4 bc a6 a5 ax ay az a0;have:a<=m-1:=by have:=l.out;omega
 have:a+b<=m-1:=by have:=l.out;omega
 have:(a:Int)<=((m-1:Nat):Int):=oM
 have:(a:Int)+(b:Int)<=((m-1:Nat):Int):=oM
 have:(a:Int)<=(a:Int)+(b:Int):=oM
 have:IntKind.i64.wrap ((a:Int)+(b:Int))=(a:Int)+(b:Int):=by rw[IntKind.wrap_i64];have:=l.out;omega
 let⟨I,V⟩:=eX (if m-1=a then c+1 else c+1+a)
 have D:=zh V;clear V;have:((a:Int)+(b:Int)).toNat-a=b:=oM
 have a1:c+1+a<=(enc bl).size:=by rw[Bw,Q];have:=l.out;omega
 have a2:c+1+a+b<=(enc bl).size:=by rw[Bw,Q];have:=l.out;omega
 have a3:I+b<=(enc bl).size:=by
  rw[D.out];split
  .omega
  .exact a2
 have aq:Hid (Ad (enc bl) I b=(Ay p.v.data.toList).toArray):=by
  show _=_;rw[D.out];split
  .rename_i he;have bb:b=0:=oM
   have h:=A;rw[bb]at h |-;rw[<-h];simp[Ad]
  .exact A
 have d:Ϙ k.drew B (ϲ (enc bl) 288):=M;refine wp_region_held_drew (S:=λW=>Ϙ W B (ϲ (enc bl) 288)) kR d (λ_=>?_);refine zU 0 (.slice (some (ϰ B (c+1))) (m-1) (m-1)) d ?_;refine zU 1 (ϊ a) d ?_;refine zU 2 (.slice (some (ϰ B (c+1))) a (m-1)) d ?_;refine zV 3 (.string p.k) rfl (λW i=>by have:=KJ (cap:=m-1) i a1 ae;clear i;go_simp) d ?_;refine zU 4 (.slice (some (ϰ B (c+1))) (m-1) (m-1)) d ?_;refine zU 5 (ϊ a) d ?_;refine zU 6 (ϊ a) d ?_;refine zU 7 (ϊ b) d ?_;refine zU 8 (ϊ ((a:Int)+(b:Int))) d ?_;refine zV 9 (.slice (some (ϰ B I)) b (m-1-a)) rfl (λW i=>by clear i;go_simp;rw[D.out];split<;>rfl) d ?_;refine zV 10 (.string p.v) rfl (λW i=>by have:=KJ (cap:=m-1-a) i a3 aq.out;clear i;go_simp) d ?_;refine zU 11 (.agg #[.string p.k,.string p.v]) d ?_;refine zU 12 (.agg #[.string p.k,.string p.v]) d ?_;refine zq 13 λK hK=>?_;go_simp;obtain⟨n,ai,s,N,av,a9⟩:∃n,n=(k.alloc (ϲ ϝ 185)).drew/\Ϙ n w.heap.size (ϲ ϝ 185)/\Ϙ n B (ϲ (enc bl) 288)/\Kp [] w n/\n.heap.size=w.heap.size+1:=
  ⟨_,rfl,by rw[<-af];exact μ k _,ν _ M,(au.alloc _).drew,by simp[af]⟩
 rw[<-ai];clear ai;refine hK.out _ _ N (λ_=>?_)
 try simp[zZ]
 refine zq 14 λK hK=>?_;have z0:=Y s;have f0:=ρ s;have:=U s;have ao:=zh s;clear s;go_simp;obtain⟨f,aj,F,O,aw,be⟩:∃f,f=(n.setCell (ϰ w.heap.size 0) (.string p.k)).setCell (ϰ w.heap.size 1) (.string p.v)/\Ϙ f w.heap.size (ϲ #[.string p.k,.string p.v] 185)/\Ϙ f B (ϲ (enc bl) 288)/\Kp [] w f/\f.heap.size=w.heap.size+1:=
  ⟨_,rfl,ξ (ξ ao 0 _) 1 _,(AM oM _ _).trans ((AM oM _ _).trans N),(av.setCell (Or.inr (Nat.le_refl _)) _).setCell (Or.inr (Nat.le_refl _)) _,by simp[a9]⟩
 rw[<-aj];clear aj z0 f0;refine hK.out _ _ O (λ_=>?_);refine zd ?_
 try simp[zZ]
 go_wp2_with fail;let⟨C,T⟩:=eX (if m-1=a+b then c+1 else c+1+(a+b))
 have L:=zh T;clear T;have:(0:Int)<=(a:Int)+(b:Int):=oM
 have:((a:Int)+(b:Int)).toNat=a+b:=oM
 have j:Ϙ f.drew w.heap.size (ϲ #[.string p.k,.string p.v] 185):=F;refine wp_region_held_drew (S:=λW=>Ϙ W w.heap.size (ϲ #[.string p.k,.string p.v] 185)) kR j (λ_=>?_);refine zU 0 v j ?_;refine zW 1 (.agg #[.string p.k,.string p.v]) j id ?_;refine zU 4 (.slice (some (ϰ B (c+1))) (m-1) (m-1)) j ?_;refine zU 5 (ϊ a) j ?_;refine zU 6 (ϊ b) j ?_;refine zU 7 (ϊ ((a:Int)+(b:Int))) j ?_;refine zV 8 (.slice (some (ϰ B C)) (m-1-(a+b)) (m-1-(a+b))) rfl (λW i=>by clear i;go_simp;rw[L.out];split<;>rfl) j ?_;refine zq 2 λK hK=>?_;go_simp;obtain⟨q,ak,P,G,E,bf⟩:∃q,q=(f.alloc (ϲ #[.string p.k,.string p.v] 185)).drew/\Ϙ q f.heap.size (ϲ #[.string p.k,.string p.v] 185)/\Ϙ q w.heap.size (ϲ #[.string p.k,.string p.v] 185)/\Kp [] w q/\q.heap.size=f.heap.size+1:=
  ⟨_,rfl,μ f _,ν _ F,(aw.alloc _).drew,sM⟩
 rw[<-ak];clear ak;refine hK.out _ _ G (λ_=>?_)
 try simp[zZ]
 have z:=BT hv E (Apt.nil _ _);refine zq 3 λK hK=>?_;refine Ip rfl rfl (.agg #[.string ⟨#[]⟩,.string ⟨#[]⟩]) 2 32 underlying186 JI rfl dC base v ps.length (Aa ps) (by simp[Act.eval]) z f.heap.size 0 1 1 #[.string p.k,.string p.v] 185 (0,0) (by simp[Act.eval]) P sM (by simp[Ad,Value.oneCell']) oM oM oM ?_;intro v4 w4 X y _;have t:Ϙ w4 w.heap.size (ϲ #[.string p.k,.string p.v] 185):=by
  refine(y.block _ oM ?_).trans G;rcases hv.2 with⟨rfl,_⟩|⟨g,cap,cur,rfl,_,hh,_⟩
  .simp[Value.ownBlock]
  .intro e;simp[Value.ownBlock,Option.some.injEq]at e;have:=U hh;omega
 have an:Hid (w4.ownsRow base 185 2 v4 (ps.length+1) (Aa (ps++[p]))):=by
  have e:Aa (ps++[p])=Aa ps++(Ad #[.string p.k,.string p.v] 0 (1*2)).toList:=by simp[Aa,pcs,Ad]
  show World.ownsRow _ _ _ _ _ _ _;rw[e];exact X
 have am:=zh ((E.below hb sM).grown y oM (qN3 z));have ar:=zh (((StT.refl _ w).kp E).grown z y);refine hK.out _ _ t (λ_=>?_);clear hK K X y z
 try simp[zZ]
 refine zq 9 λK hK=>?_;go_simp;refine zk hK t ?_
 refine zq 10 λK hK=>?_;go_simp;refine zk hK t ?_
 refine zq 11 λK hK=>?_;go_simp;refine zk hK t ?_
 refine zd ?_;have al:Hid (c+(1+a+b)<128->(Value.slice (some (ϰ B C)) (m-1-(a+b)) (m-1-(a+b)))=.slice (some ⟨B,c+(1+a+b),none⟩) (128-(c+(1+a+b))) (128-(c+(1+a+b)))):=by
  intro bd;have:=l.out;rw[L.out,if_neg oM,show c+1+(a+b)=c+(1+a+b) from by omega,show m-1-(a+b)=128-(c+(1+a+b)) from by omega]
 clear t P G F O;go_wp2
 go_ret3
 refine⟨v4,_,rfl,al,⟨C,?_⟩,an,am,ar⟩;show Value.slice (some (ϰ B C)) (m-1-(a+b)) (m-1-(a+b))=_;rw[show m-1-(a+b)=128-(c+(1+a+b)) from by have:=l.out;omega]
def Il{α:Type}{R:α->Prop}{G:Prop}(h:∃a,R a/\(R a->G)):G:=h.elim λ_ h=>h.2 h.1
def Fq{α:Type}(l:List α)(b N:Nat)(A B C:List α)(h:(l.drop b).take N=A++B++C):(l.drop (b+A.length)).take B.length=B:=by
 have c:(A++B++C).length<=N:=by rw[<-h];exact List.length_take_le _ _
 simp[lA]at c;have a:=congrArg (λz=>(z.drop A.length).take B.length) h;simp[List.drop_take,List.take_take,List.drop_drop,aA,List.drop_left,List.take_left]at a;rw[Nat.min_eq_left oM]at a;exact a
def Ep(bl)(o k:Nat)(xs:List Int)(c:∀x∈xs,0<=x/\x<256)(d:xs.length=k)(h:(bl.drop o).take k=toB xs):∀j,j<k->(enc bl)[o+j]?=some (.int .u8 (xs.getD j 0)):=by
 intro j b;have a:=congrArg (λz=>(Ay z)[j]?) h;simp only[Ay,List.getElem?_map,List.getElem?_take,if_pos b,List.getElem?_drop]at a;unfold enc Ay;rw[zG,List.getElem?_map,a,<-List.getElem?_map];have e:=MV xs c;unfold Ay at e;rw[e];unfold u8s;rw[List.getElem?_map,gQ oM,List.getD_eq_getElem?_getD,gQ oM];rfl
def SB(bl)(a:Nat)(h)(k:h.key.size<=8)(i:(bl.drop a).take (ψ h)=toB (AQ h)):
  (∀j,j<2->(enc bl)[a+j]?=some (.int .u8 ((Ak 2 h.b).getD j 0)))/\(∀j,j<8->(enc bl)[a+2+j]?=some (.int .u8 ((Ak 8 h.s).getD j 0)))/\
  (enc bl)[a+10]?=some (.int .u8 (h.key.size:Int))/\Ad (enc bl) (a+11) h.key.size=(Ay h.key.data.toList).toArray:=by
 have g:h.key.data.toList.length=h.key.size:=Array.length_toList;have e:(bl.drop a).take (ψ h)=toB (Ak 2 h.b)++toB (Ak 8 h.s)++toB [(h.key.size:Int)]++h.key.data.toList:=by
  rw[i,AQ,Dr,Dr,Dr,Gx]
 have c:(toB (Ak 2 h.b)).length=2:=by rw[BG,BJ]
 have d:(toB (Ak 8 h.s)).length=8:=by rw[BG,BJ]
 have f:(toB [(h.key.size:Int)]).length=1:=by rw[BG];rfl
 refine⟨?_,?_,?_,?_⟩
 .have b:=Fq bl a (ψ h) [] (toB (Ak 2 h.b)) (toB (Ak 8 h.s)++toB [(h.key.size:Int)]++h.key.data.toList) (by rw[e];simp);rw[c]at b;exact Ep bl a 2 _ (CK _ _) (BJ _ _) b
 .have b:=Fq bl a (ψ h) (toB (Ak 2 h.b)) (toB (Ak 8 h.s)) (toB [(h.key.size:Int)]++h.key.data.toList) (by rw[e];simp);rw[c,d]at b;exact Ep bl (a+2) 8 _ (CK _ _) (BJ _ _) b
 .have b:=Fq bl a (ψ h) (toB (Ak 2 h.b)++toB (Ak 8 h.s)) (toB [(h.key.size:Int)]) (h.key.data.toList) (by rw[e]);rw[lA,c,d,f]at b;exact Ep bl (a+10) 1 [(h.key.size:Int)] sO rfl b 0 oM
 .have b:=Fq bl a (ψ h) (toB (Ak 2 h.b)++toB (Ak 8 h.s)++toB [(h.key.size:Int)]) (h.key.data.toList) [] (by rw[e];simp);rw[lA,lA,c,d,f,g]at b;rw[Dd,b];rfl
def ZS(B base b:Nat)(bl)(h)(hs)(v)(w)(M:w.heap[B]?=some (ϲ (enc bl) 288))(az:bl.length=128)(hp:h.p=none)(hk:h.key.size<=8)(ax:0<=h.b)(ay:h.b<65536)(a7:0<=h.s)(x:h.s<18446744073709551616)(bu:b+ψ h<=128)
  (a4:(bl.drop b).take (ψ h)=toB (AQ h)) (hv:w.ownsRow base 87 4 v hs.length (Ag hs)) (hb:base<=w.heap.size) (hl:hs.length<=1000):
  Ω 275 #[v,.slice (some (ϰ B b)) (128-b) (128-b)] w λe w'=>∃v' r,e=ϱ (.tuple #[v',r,ϐ true])/\(b+ψ h<128->r=.slice (some ⟨B,b+ψ h,none⟩) (128-(b+ψ h)) (128-(b+ψ h)))/\(∃o,r=.slice (some (ϰ B o)) (128-(b+ψ h)) (128-(b+ψ h)))/\
   w'.ownsRow base 87 4 v' (hs.length+1) (Ag (hs++[h]))/\Below base w w'/\StT 87 w w':=by
 have Sy:Hid (∀{p:Prop},(_h:p:=by
  refine zq 6 λK hK=>?_;go_simp;refine(Gm B (b+2) 8 (m-2) (Ak 8 h.s) c (BJ _ _) oM (λj u=>(Y f (b+2+j)).trans (aq j u))).mono ?_;rintro e w' ⟨rfl,k⟩;rw[k,am.out];clear k w';refine zk hK f ?_
  refine zU 7 (.agg #[ϊ h.b,.int .u64 h.s]) f ?_;exact Sz.out)->p):=λh=>h
 have Sz:Hid (∀{p:Prop},(_h:p:=by
  refine zq 9 λK hK=>?_;have z0:=Y t;have X:=ρ t;have bn:=U t;have ao:=zh t;have aj:=zh f;clear t f;go_simp;obtain⟨d,a9,D,z,aa,ai⟩:∃d,d=(c.setCell (ϰ w.heap.size 0) (ϊ h.b)).setCell (ϰ w.heap.size 1) (.int .u64 h.s)/\d.heap[w.heap.size]?=some (ϲ #[ϊ h.b,.int .u64 h.s] 84)/\d.heap[B]?=some (ϲ (enc bl) 288)/\Kp [] w d/\d.heap.size=w.heap.size+1:=
   ⟨_,rfl,ξ (ξ ao 0 _) 1 _,(AM oM _ _).trans ((AM oM _ _).trans aj),(N.setCell (Or.inr (Nat.le_refl _)) _).setCell (Or.inr (Nat.le_refl _)) _,by simp[x]⟩
  rw[<-a9];clear a9 z0 X;refine hK.out _ _ z (λ_=>?_);clear hK K N x ao aj bn;refine zd ?_
  try simp only[zZ]
  exact HREST d D z aa ai)->p):=λh=>h
 let⟨m,hm⟩:=eX (128-b);obtain⟨a,af⟩:∃a:Nat,a=h.key.size:=⟨_,rfl⟩;have a8:ψ h=11+a:=by rw[af];rfl
 let⟨a5,a6,ag,ah⟩:=SB bl b h hk a4;rw[<-af]at ag ah;have bv:h.ptr=none:=by simp[HL.ptr,hp]
 have br:¬(m:Int)<11:=oM
 have bs:(10:Int)<(m:Int):=oM
 have:¬(m:Int)<2:=oM
 have b3:¬(m:Int)<10:=oM
 have bo:¬(8:Int)<(a:Int):=oM
 have bp:¬(m:Int)<11+(a:Int):=oM
 have bj:w.cell? (ϰ B (b+10))=some (.int .u8 (a:Int)):=by rw[Y M];exact ag
 have al:=zh (DM 2 h.b oM ax (by simpa using ay));have am:=zh (DM 8 h.s oM a7 (by simpa using x));have bz:IntKind.i64.wrap h.b=h.b:=by rw[IntKind.wrap_i64];omega
 have ap:=zh a5;have aq:=zh a6;have ar:=zh ah;have n:Hid (m=128-b/\b+(11+a)<=128):=⟨hm,oM⟩;have L:=zh M;have HV:=zh hv;have bd:=zh az;have:=U M;rw[<-hm,a8];clear a4 hv M hm a5 a6 ag ah bu az ax ay a7 x hk af hp a8;go_enter func275,ntmps275;go_wp2_with fail;have bt:¬m=2:=oM
 have b1:b+11+a<=(enc bl).size:=by rw[Bw,bd.out];have:=n.out;omega
 rename_i K0 au;have i:w.drew.heap[B]?=some (ϲ (enc bl) 288):=L.out;refine Il (R:=λA=>∀W,W.heap[w.heap.size]?=some (ϲ #[ϊ h.b,.int .u64 h.s] 84)->W.heap[B]?=some (ϲ (enc bl) 288)->Kp [] w W->W.heap.size=w.heap.size+1->K0 A W) ?_;apply Exists.intro;apply And.intro
 rotate_left
 .intro HREST;refine wp_region_held_drew (S:=λW=>W.heap[B]?=some (ϲ (enc bl) 288)) kR i (λ_=>?_);refine zU 0 (.slice (some (ϰ B b)) m m) i ?_;refine zU 1 (.slice (some (ϰ B b)) 2 m) i ?_;refine zU 4 (.slice (some (ϰ B b)) m m) i ?_;refine zU 5 (.slice (some (ϰ B (b+2))) 8 (m-2)) i ?_;refine zr 2 8 (λK hK=>?_) λK hK=>?_
  .skip
   go_simp;refine(Gm B b 2 m (Ak 2 h.b) w.drew (BJ _ _) oM (λj u=>(Y i (b+j)).trans (ap j u))).mono ?_;rintro e w' ⟨rfl,k⟩;rw[k,al.out];clear k w';refine zk hK i ?_
   refine zU 3 (ϊ h.b) i ?_;refine zr 6 8 (λK hK=>?_) λK hK=>?_
   .skip
    go_simp;refine(Gm B (b+2) 8 (m-2) (Ak 8 h.s) w.drew (BJ _ _) oM (λj u=>(Y i (b+2+j)).trans (aq j u))).mono ?_;rintro e w' ⟨rfl,k⟩;rw[k,am.out];clear k w';refine zk hK i ?_
    refine zU 7 (.agg #[ϊ h.b,.int .u64 h.s]) i ?_;refine zq 8 λK hK=>?_;go_simp;obtain⟨c,s,t,f,N,x⟩:∃c,c=(w.alloc (ϲ #[ϊ 0,.int .u64 0] 84)).drew/\c.heap[w.heap.size]?=some (ϲ #[ϊ 0,.int .u64 0] 84)/\c.heap[B]?=some (ϲ (enc bl) 288)/\Kp [] w c/\c.heap.size=w.heap.size+1:=
     ⟨_,rfl,μ w _,ν _ L,((Kp.refl _ _).alloc _).drew,sM⟩
    rw[<-s];clear s;refine zk hK f ?_
    exact Sz.out
   .skip
    go_simp;obtain⟨c,s,t,f,N,x⟩:∃c,c=(w.alloc (ϲ #[ϊ 0,.int .u64 0] 84)).drew/\c.heap[w.heap.size]?=some (ϲ #[ϊ 0,.int .u64 0] 84)/\c.heap[B]?=some (ϲ (enc bl) 288)/\Kp [] w c/\c.heap.size=w.heap.size+1:=
     ⟨_,rfl,μ w _,ν _ L,((Kp.refl _ _).alloc _).drew,sM⟩
    rw[<-s];clear s;refine zk hK f ?_
    exact Sy.out
  .skip
   go_simp;obtain⟨c,s,t,f,N,x⟩:∃c,c=(w.alloc (ϲ #[ϊ 0,.int .u64 0] 84)).drew/\c.heap[w.heap.size]?=some (ϲ #[ϊ 0,.int .u64 0] 84)/\c.heap[B]?=some (ϲ (enc bl) 288)/\Kp [] w c/\c.heap.size=w.heap.size+1:=
    ⟨_,rfl,μ w _,ν _ L,((Kp.refl _ _).alloc _).drew,sM⟩
   rw[<-s];clear s;refine zk hK f ?_
   refine zq 2 λK hK=>?_;go_simp;refine(Gm B b 2 m (Ak 2 h.b) c (BJ _ _) oM (λj u=>(Y f (b+j)).trans (ap j u))).mono ?_;rintro e w' ⟨rfl,k⟩;rw[k,al.out];clear k w';refine zk hK f ?_
   refine zU 3 (ϊ h.b) f ?_;exact Sy.out
 intro d D z aa ai;refine au _ _ ?_;clear au K0 bj br bs bo bp bz bt;go_wp2_with fail;have:=U D;have:(0:Int)<=11+(a:Int):=oM
 have:(11:Int)<=11+(a:Int):=oM
 have:¬(m:Int)<11+(a:Int):=by have:=n.out;omega
 have:(11:Int)+(a:Int)<=(m:Int):=by have:=n.out;omega
 have b0:((11:Int)+(a:Int)).toNat=11+a:=oM
 have b5:IntKind.i64.wrap (11+(a:Int))=11+(a:Int):=by rw[IntKind.wrap_i64];have:=n.out;omega
 have:11+a-11=a:=oM
 let⟨o7,a1⟩:=eX (if m=11 then b else b+11)
 let⟨Q,a2⟩:=eX (if m=11+a then b else b+(11+a))
 have V:=zh a1;have an:=zh a2;clear a1 a2;have bq:o7+a<=(enc bl).size:=by
  rw[V.out];have:=n.out;split<;>omega
 have bh:Hid (Ad (enc bl) o7 a=(Ay h.key.data.toList).toArray):=by
  show _=_;rw[V.out];split
  .rename_i he;have bx:a=0:=by have:=n.out;omega
   have h:=ar.out;rw[bx]at h |-;rw[<-h];simp[Ad]
  .exact ar
 have l:d.drew.heap[w.heap.size]?=some (ϲ #[ϊ h.b,.int .u64 h.s] 84)/\d.drew.heap[B]?=some (ϲ (enc bl) 288):=⟨D,z⟩;refine wp_region_held_drew (S:=λW=>W.heap[w.heap.size]?=some (ϲ #[ϊ h.b,.int .u64 h.s] 84)/\W.heap[B]?=some (ϲ (enc bl) 288)) kR l (λ_=>?_);refine zU 0 (.slice (some (ϰ B b)) m m) l ?_;refine zU 1 (ϊ a) l ?_;refine zU 2 (ϊ (11+(a:Int))) l ?_;refine zV 3 (.slice (some (ϰ B o7)) a (m-11)) rfl (λW E=>by clear E;go_simp;rw[V.out];split<;>rfl) l ?_;refine zV 4 (.string h.key) rfl (λW E=>by have h:=KJ (cap:=m-11) E.2 bq bh.out;clear E;go_simp) l ?_;refine zW 5 (.agg #[ϊ h.b,.int .u64 h.s]) l (·.1) ?_;refine zU 6 (.agg #[.string h.key,ϊ h.b,.int .u64 h.s,.pointer none]) l ?_;refine zq 7 λK hK=>?_;go_simp;obtain⟨y,ba,C,ae,Z,av,bw⟩:∃y,y=(d.alloc (ϲ ϙ 87)).drew/\y.heap[d.heap.size]?=some (ϲ ϙ 87)/\y.heap[w.heap.size]?=some (ϲ #[ϊ h.b,.int .u64 h.s] 84)/\y.heap[B]?=some (ϲ (enc bl) 288)/\Kp [] w y/\y.heap.size=d.heap.size+1:=
  ⟨_,rfl,μ d _,ν _ D,ν _ z,(aa.alloc _).drew,sM⟩
 rw[<-ba];clear ba;rw[ai]at C bw;refine hK.out _ _ ⟨ae,Z⟩ (λ_=>?_);clear hK K l
 try simp only[zZ]
 refine zq 8 λK hK=>?_;have z0:=Y C;have X:=ρ C;have bm:=U C;have ak:=zh C;have T:=zh (n2 ae Z);clear C ae Z;go_simp;have a0:=Ez (.string h.key) (ϊ h.b) (.int .u64 h.s) (.pointer none) ak.out;let⟨F,bb,ac,H⟩:=gE a0;rw[<-bb];clear bb a0 z0 X;have bk:=av.tr H;have:=H.size;refine hK.out _ _ ⟨H.hp T.1,H.ho T.2⟩ (λ_=>?_);refine zd ?_
 try simp only[zZ]
 clear T ak av H bm;go_wp2_with fail;have q:F.drew.heap[w.heap.size+1]?=some (ϲ #[.string h.key,ϊ h.b,.int .u64 h.s,.pointer none] 87):=ac;refine wp_region_held_drew (S:=λW=>W.heap[w.heap.size+1]?=some (ϲ #[.string h.key,ϊ h.b,.int .u64 h.s,.pointer none] 87)) kR q (λ_=>?_);refine zU 0 v q ?_;refine zW 1 (.agg #[.string h.key,ϊ h.b,.int .u64 h.s,.pointer none]) q id ?_;refine zU 4 (.slice (some (ϰ B b)) m m) q ?_;refine zU 5 (ϊ a) q ?_;refine zU 6 (ϊ (11+(a:Int))) q ?_;refine zV 7 (.slice (some (ϰ B Q)) (m-(11+a)) (m-(11+a))) rfl (λW E=>by clear E;go_simp;rw[an.out];split<;>rfl) q ?_;refine zq 2 λK hK=>?_;go_simp;obtain⟨G,bc,aw,ad,ab,b4⟩:∃G,G=(F.alloc (ϲ #[.string h.key,ϊ h.b,.int .u64 h.s,.pointer none] 87)).drew/\G.heap[F.heap.size]?=some (ϲ #[.string h.key,ϊ h.b,.int .u64 h.s,.pointer none] 87)/\G.heap[w.heap.size+1]?=some (ϲ #[.string h.key,ϊ h.b,.int .u64 h.s,.pointer none] 87)/\Kp [] w G/\G.heap.size=F.heap.size+1:=
  ⟨_,rfl,μ F _,ν _ ac,(bk.alloc _).drew,sM⟩
 rw[<-bc];clear bc;refine hK.out _ _ ad (λ_=>?_);clear hK K q
 try simp only[zZ]
 have P:=BT HV ab (Apt.nil _ _);refine zq 3 λK hK=>?_;refine Ip rfl rfl (.agg #[.string ⟨#[]⟩,ϊ 0,.int .u64 0,.pointer none]) 4 40 underlying156 EY rfl dC base v hs.length (Ag hs) (by simp[Act.eval]) P F.heap.size 0 1 1 #[.string h.key,ϊ h.b,.int .u64 h.s,.pointer none] 87 (0,0) (by simp[Act.eval]) aw sM (by simp[Ad,Value.oneCell']) oM oM oM ?_;intro v6 w6 a3 O _;have I:w6.heap[w.heap.size+1]?=some (ϲ #[.string h.key,ϊ h.b,.int .u64 h.s,.pointer none] 87):=by
  refine(O.block _ oM ?_).trans ad;rcases HV.2 with⟨rfl,_⟩|⟨g,cap,cur,rfl,_,hh,_⟩
  .simp[Value.ownBlock]
  .intro e;simp only[Value.ownBlock,Option.some.injEq]at e;have:=U hh;omega
 have bg:Hid (w6.ownsRow base 87 4 v6 (hs.length+1) (Ag (hs++[h]))):=by
  have e:Ag (hs++[h])=Ag hs++(Ad #[.string h.key,ϊ h.b,.int .u64 h.s,.pointer none] 0 (1*4)).toList:=by simp[Ag,lcs,Ad,bv]
  show World.ownsRow _ _ _ _ _ _ _;rw[e];exact a3
 have bf:=zh ((ab.below hb sM).grown O oM (qN3 P));have bi:=zh (((StT.refl _ w).kp ab).grown P O);refine hK.out _ _ I (λ_=>?_);clear hK K a3 O P
 try simp only[zZ]
 refine zq 8 λK hK=>?_;go_simp;refine zk hK I ?_
 refine zq 9 λK hK=>?_;go_simp;refine zk hK I ?_
 refine zq 10 λK hK=>?_;go_simp;refine zk hK I ?_
 refine zd ?_;have be:Hid (b+(11+a)<128->(Value.slice (some (ϰ B Q)) (m-(11+a)) (m-(11+a)))=.slice (some ⟨B,b+(11+a),none⟩) (128-(b+(11+a))) (128-(b+(11+a)))):=by
  intro b2;have h1:=n.out;rw[an.out,if_neg oM,show m-(11+a)=128-(b+(11+a)) from by omega]
 clear I aw ad ac D z;go_wp2
 go_ret3
 refine⟨v6,_,rfl,be,⟨Q,?_⟩,bg,bf,bi⟩;show Value.slice (some (ϰ B Q)) (m-(11+a)) (m-(11+a))=_;rw[show m-(11+a)=128-(b+(11+a)) from by have:=n.out;omega]
def Nk{α:Type}(f:α->List Int)(g:α->Nat)(a:∀x,(f x).length=g x)(l:List α)(j:Nat)(h:j<l.length):l.flatMap f=(l.take j).flatMap f++f l[j]++(l.drop (j+1)).flatMap f:=by
 conv=>lhs;rw[<-tD j l,fA,dG h,fC]
 rw[aA]
def Ge{α:Type}(g:α->Nat)(l:List α)(j:Nat)(h:j<l.length):qM2 g (l.take j)+g l[j]<=qM2 g l:=by
 have:=CA g l j h;have:=Dc g l (j+1);omega
def YR(ps)  (j:Nat) (h:j<ps.length):((toB (Ab 0 ps [])).drop (2+qM2 ζ (ps.take j))).take (ζ ps[j])=toB (AP ps[j]):=by
 have e:toB (Ab 0 ps [])=toB ([(0:Int),((ps.length:Nat):Int)]++(ps.take j).flatMap AP)++toB (AP ps[j])++toB ((ps.drop (j+1)).flatMap AP++List.replicate (128-(2+qM2 ζ ps)) 0):=by
  rw[<-Dr,<-Dr]
  congr 1
  simp[Ab,CB,List.flatMap_nil,aN,List.length_nil,Nat.add_zero,Nat.zero_add,AJ]
  conv=>lhs;rw[Nk AP ζ (λp=>by first | exact EE p | exact Ey p) ps j h]
  simp[aA]
 have b:(toB ([(0:Int),((ps.length:Nat):Int)]++(ps.take j).flatMap AP)).length=2+qM2 ζ (ps.take j):=by
  rw[BG,lA,Hf AP ζ (λp=>by first | exact EE p | exact Ey p)];rfl
 have c:(toB (AP ps[j])).length=ζ ps[j]:=by
  rw[BG]
  first | exact EE _ | exact Ey _
 have a:=Fq (toB (Ab 0 ps [])) 0 (toB (Ab 0 ps [])).length _ _ _ (by rw[dZ,List.take_length];exact e);rw[b,c,Nat.zero_add]at a;exact a
def YQ(ps)(a:Int)(f:0<a)(g:a<256)(j:Nat)(h:j<ps.length):((toB (Ab a [] ps)).drop (2+qM2 ψ (ps.take j))).take (ψ ps[j])=toB (AQ ps[j]):=by
 have e:toB (Ab a [] ps)=toB ([(a:Int),((ps.length:Nat):Int)]++(ps.take j).flatMap AQ)++toB (AQ ps[j])++toB ((ps.drop (j+1)).flatMap AQ++List.replicate (128-(2+qM2 ψ ps)) 0):=by
  rw[<-Dr,<-Dr]
  congr 1
  simp[Ab,CB,List.flatMap_nil,aN,List.length_nil,Nat.add_zero,Nat.zero_add,AJ]
  conv=>lhs;rw[Nk AQ ψ (λp=>by first | exact EE p | exact Ey p) ps j h]
  simp[aA]
 have c:(toB ([(a:Int),((ps.length:Nat):Int)]++(ps.take j).flatMap AQ)).length=2+qM2 ψ (ps.take j):=by
  rw[BG,lA,Hf AQ ψ (λp=>by first | exact EE p | exact Ey p)];rfl
 have d:(toB (AQ ps[j])).length=ψ ps[j]:=by
  rw[BG]
  first | exact EE _ | exact Ey _
 have b:=Fq (toB (Ab a [] ps)) 0 (toB (Ab a [] ps)).length _ _ _ (by rw[dZ,List.take_length];exact e);rw[c,d,Nat.zero_add]at b;exact b
def Sv(d:Nat)(x:Int)(W):(Op.equalIn (d+1) 5 (.int .u8 x) (.int .u8 x)).run prog W=.ok true W:=by
 simp[Op.equalIn,run_underlying underlying5]
def Xb(d:Nat)(E)(b:allBytes E)(W):∀a:Ϥ,(∀i∈a,i<E.size)->(Op.eqItems (d+1) 5 1 E E a).run prog W=.ok true W:=by
 intro a
 induction a with
 | nil=>intro _;rfl
 | cons i a ih=>
  intro h;have f:=h i sM;let⟨x,k⟩:=b E[i] sM;have c:E[i*1]?=some (.int .u8 x):=by rw[Nat.mul_one,Array.getElem?_eq_getElem f,k]
  simp only[Op.eqItems,Sem.run_bind,run_part_plain W (P:=prog) (e:=5) kR c,Result.andThen_ok,Sv,Bool.not_true,Bool.false_eq_true,if_false];exact ih (λj g=>h j (by simp[g]))
def Mq(E)(c:E.size=128)(b:allBytes E)(W):Sem.run prog (Op.equalIn 10000 288 (.agg E) (.agg E)) W=.ok true W:=by
 let⟨d,a,_⟩:=info_parts Tryz.qQ2;refine Eq.trans (run_equalIn_array (P:=prog) W 9999 E E underlying288 a) ?_;rw[show prog.cellsOf 5=1 from by kernel_rfl];exact Xb 9998 E b W _ (λi a=>by rw[c];simpa using a)
def zS8{p:Prop}(_h:p:=by
 have:¬(j:Int)<(cn:Int):=by have:=bc.out;omega
 have hje:ps.take j=ps:=tL oM;have hjl:j=ps.length:=oM;have hOe:=HO.out;rw[hje,hjl]at hOe;have HOE:=zh hOe;go_wp2_with fail;have hSd:Ϙ wr.drew w.heap.size (ϲ E 288):=HB.out;refine wp_region_held_drew (S:=λW=>Ϙ W w.heap.size (ϲ E 288)) kR hSd (λ_=>?_);refine zU 0 (ϖ (w.heap.size+1)) hSd ?_;refine zU 1 (ϖ (w.heap.size+1)) hSd ?_;refine zV 3 (.agg E) rfl (λW hS=>Es (t:=288) rfl kR 128 kR w.heap.size rfl hS HE.out.2) hSd ?_;exact Tz.out):p:=_h
def QN{p:Prop}(_h:p:=by
 rintro e w1 ⟨v1,r1,rfl,hr1,_,hown1,hbl1,hst1⟩;have hjl:(ps.take j).length=j:=by rw[lK,Nat.min_eq_left oM]
 rw[hjl]at hown1;obtain⟨g1,cap1,rfl⟩:=CN hown1;have hsn:=(tA aa).symm;rw[hsn]at hown1;have hN1:=hst1 _ _ _ _ HN.out dC;have hB1:=hst1 _ _ _ _ HB.out dC;have:=U hN1;exact Tz.out):p:=_h
def ZI(ps)  (w) (hz:∀p∈ps,AD p) (hm:2+qM2 ζ ps<=128) (hn:ps.length<=126):
  Ω 257 #[.agg (enc (toB (Ab 0 ps [])))] w λe w'=>∃q v,e=ϱ (.tuple #[ϖ q,ϐ true])/\w'.heap[q]?=some (ϲ #[ϊ 0,v,.slice none 0 0] 213)/\w.heap.size<=q/\
   w'.ownsRow w.heap.size 185 2 v ps.length (Aa ps)/\Kp [] w w':=by
 have bz:=Cd 0 ps [] oM oM sO hz sM;have a:=zh (Ea 0 ps [] (by simpa [AJ] using hm));obtain⟨cn,k⟩:∃cn:Nat,cn=ps.length:=⟨_,rfl⟩;have c5:=Ep (toB (Ab 0 ps [])) 0 128 (Ab 0 ps []) bz a.out (by rw[dZ,tL (by rw[BG];exact Nat.le_of_eq a.out)]);have A:(enc (toB (Ab 0 ps [])))[0]?=some (.int .u8 0):=c5 0 oM;have B:(enc (toB (Ab 0 ps [])))[1]?=some (.int .u8 (cn:Int)):=by
  rw[k];have h:=c5 1 oM;simpa [Ab,CB] using h
 have n:(enc (toB (Ab 0 ps []))).size=128:=by rw[Bw,BG];exact a.out
 obtain⟨E,hE⟩:=eX (enc (toB (Ab 0 ps [])));have HE:Hid (E=enc (toB (Ab 0 ps []))/\E.size=128):=⟨hE,by rw[hE];exact n⟩;rw[<-hE]at A B;rw[<-hE];have bc:=zh k;have f:=zh hz;have HM:=zh hm;clear c5 k bz hz hm n hE;go_enter func257,ntmps257;go_wp2_with fail;have D:=ν (ϲ #[ϊ 0,.slice none 0 0,.slice none 0 0] 213) (μ w (ϲ E 288));have bk:=μ (w.alloc (ϲ E 288)) (ϲ #[ϊ 0,.slice none 0 0,.slice none 0 0] 213);rw[show(w.alloc (ϲ E 288)).heap.size=w.heap.size+1 from by simp]at bk;have hK0:Kp [] w ((w.alloc (ϲ E 288)).alloc (ϲ #[ϊ 0,.slice none 0 0,.slice none 0 0] 213)):=(kF.alloc _).alloc _;have:∀o:Nat,2+qM2 ζ (ps.take 0)=o->o=2:=λo h=>by rw[<-h];simp[AJ]
 go_loopw [5,6,15] (λr o i wr=>∃(j off:Nat)(vj:Value),j<=ps.length/\i=.int .u8 j/\o=.bool true/\Hid (off=2+qM2 ζ (ps.take j))/\Hid (off<128->r=.slice (some (ϰ w.heap.size off)) (128-off) (128-off))/\Hid (Ϙ wr w.heap.size (ϲ E 288))/\Hid (wr.heap[w.heap.size+1]?=some (ϲ #[ϊ 0,vj,.slice none 0 0] 213))/\Hid (wr.ownsRow w.heap.size 185 2 vj j (Aa (ps.take j)))/\Hid (Kp [] w wr)) (λ_ _ i _=>ps.length-(intOf i).toNat)
 case atStart=>exact⟨0,2,.slice none 0 0,zL _,rfl,rfl,by show _=_;simp[AJ],λ_=>rfl,D,bk,by show World.ownsRow _ _ _ _ _ _ _;exact wN _ _ _ _,hK0⟩
 case round=>
  obtain⟨j,off,vj,I,rfl,rfl,d,HR,HB,HN,HO,b⟩:=hrel;by_cases aa:j<ps.length
  .have:(j:Int)<(cn:Int):=by have:=bc.out;omega
   have ch:=f.out ps[j] (gM aa);have:=Ge ζ ps j aa;have:off+ζ ps[j]<=128:=by have:=d.out;have:=HM.out;omega
   have:0<ζ ps[j]:=by unfold ζ;omega
   have hr:=HR.out oM;subst hr;have u:Hid (((toB (Ab 0 ps [])).drop off).take (ζ ps[j])=toB (AP ps[j])):=by show _=_;rw[d.out];exact YR ps  j aa
   have hN:=HN.out;have:=U hN;have H:=Y hN;have C:=ρ hN 1;go_wp2_with fail;have m:Ϙ wr w.heap.size (ϲ (enc (toB (Ab 0 ps []))) 288):=by rw[<-HE.out.1];exact HB.out
   refine(ZV w.heap.size w.heap.size off (toB (Ab 0 ps [])) ps[j] (ps.take j) _ wr m (by rw[BG];exact a.out) ch oM u.out (by rw[lK,Nat.min_eq_left oM];exact HO.out) (by have:=b.out.size;omega) (by rw[lK];omega)).mono ?_;have Tz:Hid (∀{p:Prop},(_h:p:=by
    have:=ϻ hN1 1;have:=ρ hN1 1;have l:=zh hN1;have s:=zh hB1;have y:=zh hown1;have x:=zh (Kp.qN2 ((b.out.below lR sM).trans hbl1) lR);have z:Hid (off+ζ ps[j]=2+qM2 ζ (ps.take (j+1))):=by show _=_;rw[CA ζ ps j aa,d.out];omega
    have:IntKind.u8.wrap ((j:Int)+1)=(j:Int)+1:=by rw[IntKind.wrap_u8];omega
    clear hN1 hB1 hown1 hbl1 hst1 H C hsn hjl m;go_wp2;have g:Kp [w.heap.size+1] w1 (w1.setCell (ϰ (w.heap.size+1) 1) (.slice (some (ϰ g1 0)) (j+1) cap1)):=kF.sc _;exact⟨⟨j+1,off+ζ ps[j],_,oM,by go_num,rfl,z,hr1,g.hp s.out,ξ l.out 1 _,BT y.out g (λq hq c t fr e=>by rw[mS hq,l.out]at e;cases e;decide),x.out.tr g⟩,by simp[intOf];omega⟩)->p):=λh=>h;exact QN
  .have Tz:Hid (∀{p:Prop},(_h:p:=by
    refine zq 2 λK hK=>?_;go_simp;refine(Jb (w.heap.size+1) 0 vj (.slice none 0 0) ps [] wr.drew HN.out oM oM (Cm HOE.out) ⟨rfl,Or.inl ⟨rfl,none,0,rfl,λ_=>rfl⟩⟩ (by simpa [AJ] using HM.out) sO f.out sM).mono ?_;rintro e w1 ⟨rfl,hK1⟩;have hS1:=hK1.hp hSd;refine hK.out _ _ hS1 (λ_=>?_);have G:(u8s (Ab 0 ps [])).toArray=E:=by rw[HE.out.1,enc,<-IA _ (Cd 0 ps [] oM oM sO f.out sM)]
    rw[G]
    try simp only[zZ]
    have F:allBytes E:=by rw[HE.out.1];exact Co _
    refine zV 4 (.bool true) rfl (λW hS=>by have:=Mq E HE.out.2 F W;go_simp) hS1 ?_;refine zq 5 λK hK=>?_;go_simp;refine zk hK hS1 ?_
    refine zq 6 λK hK=>?_;go_simp;refine zk hK hS1 ?_
    refine zd ?_;have bj:Kp [] wr w1:=((Kp.refl _ wr).drew).tr hK1;go_wp2
    go_ret2
    exact⟨w.heap.size+1,vj,rfl,bj.hp HN.out,oM,BT HOE.out bj (Apt.nil _ _),b.out.tr bj⟩)->p):=λh=>h;exact zS8
def ZH(ps)(lv:Int)(hlv0:0<lv)(d:lv<256)(w)(hz:∀p∈ps,p.p=none/\p.key.size<=8/\0<=p.b/\p.b<65536/\0<=p.s/\p.s<18446744073709551616)(hm:2+qM2 ψ ps<=128)(hn:ps.length<=126):
  Ω 257 #[.agg (enc (toB (Ab lv [] ps)))] w λe w'=>∃q v,e=ϱ (.tuple #[ϖ q,ϐ true])/\w'.heap[q]?=some (ϲ #[ϊ lv,.slice none 0 0,v] 213)/\w.heap.size<=q/\
   w'.ownsRow w.heap.size 87 4 v ps.length (Ag ps)/\Kp [] w w':=by
 have bz:=Cd lv [] ps oM d sO sM (λp hp=>(hz p hp).2.1);have b:=zh (Ea lv [] ps (by simpa [AJ] using hm));obtain⟨cn,l⟩:∃cn:Nat,cn=ps.length:=⟨_,rfl⟩;have c5:=Ep (toB (Ab lv [] ps)) 0 128 (Ab lv [] ps) bz b.out (by rw[dZ,tL (by rw[BG];exact Nat.le_of_eq b.out)]);have B:(enc (toB (Ab lv [] ps)))[0]?=some (.int .u8 lv):=c5 0 oM;have C:(enc (toB (Ab lv [] ps)))[1]?=some (.int .u8 (cn:Int)):=by
  rw[l];have h:=c5 1 oM;simpa [Ab,CB] using h
 have s:(enc (toB (Ab lv [] ps))).size=128:=by rw[Bw,BG];exact b.out
 obtain⟨E,hE⟩:=eX (enc (toB (Ab lv [] ps)));have HE:Hid (E=enc (toB (Ab lv [] ps))/\E.size=128):=⟨hE,by rw[hE];exact s⟩;rw[<-hE]at B C;rw[<-hE];have bc:=zh l;have a:=zh hz;have HM:=zh hm;clear c5 l bz hz hm s hE;go_enter func257,ntmps257;go_wp2_with fail;have F:=ν (ϲ #[ϊ lv,.slice none 0 0,.slice none 0 0] 213) (μ w (ϲ E 288));have bk:=μ (w.alloc (ϲ E 288)) (ϲ #[ϊ lv,.slice none 0 0,.slice none 0 0] 213);rw[show(w.alloc (ϲ E 288)).heap.size=w.heap.size+1 from by simp]at bk;have hK0:Kp [] w ((w.alloc (ϲ E 288)).alloc (ϲ #[ϊ lv,.slice none 0 0,.slice none 0 0] 213)):=(kF.alloc _).alloc _;have:∀o:Nat,2+qM2 ψ (ps.take 0)=o->o=2:=λo h=>by rw[<-h];simp[AJ]
 go_loopw [5,6,15] (λr o i wr=>∃(j off:Nat)(vj:Value),j<=ps.length/\i=.int .u8 j/\o=.bool true/\Hid (off=2+qM2 ψ (ps.take j))/\Hid (off<128->r=.slice (some (ϰ w.heap.size off)) (128-off) (128-off))/\Hid (Ϙ wr w.heap.size (ϲ E 288))/\Hid (wr.heap[w.heap.size+1]?=some (ϲ #[ϊ lv,.slice none 0 0,vj] 213))/\Hid (wr.ownsRow w.heap.size 87 4 vj j (Ag (ps.take j)))/\Hid (Kp [] w wr)) (λ_ _ i _=>ps.length-(intOf i).toNat)
 case atStart=>exact⟨0,2,.slice none 0 0,zL _,rfl,rfl,by show _=_;simp[AJ],λ_=>rfl,F,bk,by show World.ownsRow _ _ _ _ _ _ _;exact wN _ _ _ _,hK0⟩
 case round=>
  obtain⟨j,off,vj,L,rfl,rfl,g,HR,HB,HN,HO,f⟩:=hrel;by_cases aa:j<ps.length
  .have:(j:Int)<(cn:Int):=by have:=bc.out;omega
   have ch:=a.out ps[j] (gM aa);have:=Ge ψ ps j aa;have:off+ψ ps[j]<=128:=by have:=g.out;have:=HM.out;omega
   have:0<ψ ps[j]:=by unfold ψ;omega
   have hr:=HR.out oM;subst hr;have x:Hid (((toB (Ab lv [] ps)).drop off).take (ψ ps[j])=toB (AQ ps[j])):=by show _=_;rw[g.out];exact YQ ps lv hlv0 d j aa
   have hN:=HN.out;have:=U hN;have I:=Y hN;have D:=ρ hN 2;go_wp2_with fail;have n:Ϙ wr w.heap.size (ϲ (enc (toB (Ab lv [] ps))) 288):=by rw[<-HE.out.1];exact HB.out
   refine(ZS w.heap.size w.heap.size off (toB (Ab lv [] ps)) ps[j] (ps.take j) _ wr n (by rw[BG];exact b.out) ch.1 ch.2.1 ch.2.2.1 ch.2.2.2.1 ch.2.2.2.2.1 ch.2.2.2.2.2 oM x.out (by rw[lK,Nat.min_eq_left oM];exact HO.out) (by have:=f.out.size;omega) (by rw[lK];omega)).mono ?_;have Tz:Hid (∀{p:Prop},(_h:p:=by
    have:=ϻ hN1 2;have:=ρ hN1 2;have m:=zh hN1;have u:=zh hB1;have z:=zh hown1;have y:=zh (Kp.qN2 ((f.out.below lR sM).trans hbl1) lR);have A:Hid (off+ψ ps[j]=2+qM2 ψ (ps.take (j+1))):=by show _=_;rw[CA ψ ps j aa,g.out];omega
    have:IntKind.u8.wrap ((j:Int)+1)=(j:Int)+1:=by rw[IntKind.wrap_u8];omega
    clear hN1 hB1 hown1 hbl1 hst1 I D hsn hjl n;go_wp2;have k:Kp [w.heap.size+1] w1 (w1.setCell (ϰ (w.heap.size+1) 2) (.slice (some (ϰ g1 0)) (j+1) cap1)):=kF.sc _;exact⟨⟨j+1,off+ψ ps[j],_,oM,by go_num,rfl,A,hr1,k.hp u.out,ξ m.out 2 _,BT z.out k (λq hq c t fr e=>by rw[mS hq,m.out]at e;cases e;decide),y.out.tr k⟩,by simp[intOf];omega⟩)->p):=λh=>h;exact QN
  .have Tz:Hid (∀{p:Prop},(_h:p:=by
    refine zq 2 λK hK=>?_;go_simp;refine(Jb (w.heap.size+1) lv (.slice none 0 0) vj [] ps wr.drew HN.out oM d ⟨rfl,Or.inl ⟨rfl,none,0,rfl,λ_=>rfl⟩⟩ (Cm HOE.out) (by simpa [AJ] using HM.out) sO sM (λp hp=>⟨(a.out p hp).2.1,(a.out p hp).2.2.1,by have:=(a.out p hp).2.2.2.1;omega,(a.out p hp).2.2.2.2.1⟩)).mono ?_;rintro e w1 ⟨rfl,hK1⟩;have hS1:=hK1.hp hSd;refine hK.out _ _ hS1 (λ_=>?_);have H:(u8s (Ab lv [] ps)).toArray=E:=by rw[HE.out.1,enc,<-IA _ (Cd lv [] ps oM d sO sM (λp hp=>(a.out p hp).2.1))]
    rw[H]
    try simp only[zZ]
    have G:allBytes E:=by rw[HE.out.1];exact Co _
    refine zV 4 (.bool true) rfl (λW hS=>by have:=Mq E HE.out.2 G W;go_simp) hS1 ?_;refine zq 5 λK hK=>?_;go_simp;refine zk hK hS1 ?_
    refine zq 6 λK hK=>?_;go_simp;refine zk hK hS1 ?_
    refine zd ?_;have bj:Kp [] wr w1:=((Kp.refl _ wr).drew).tr hK1;go_wp2
    go_ret2
    exact⟨w.heap.size+1,vj,rfl,bj.hp HN.out,oM,BT HOE.out bj (Apt.nil _ _),f.out.tr bj⟩)->p):=λh=>h;exact zS8
def VR(s x:Int):ET s x<18446744073709551616:=by
 unfold ET;rw[IntKind.wrap_u64];omega
def Nn(xs:List Int):fnv xs<18446744073709551616:=by
 unfold fnv;rcases List.eq_nil_or_concat xs with h|⟨l,a,h⟩
 .rw[h];decide
 .rw[h,List.concat_eq_append,List.foldl_append];exact VR _ _
def Laid(N:Nat)(l:List UInt8):(n:Nat)→Nat→Int→Tn n→Prop
 | 0,b,s,t=>2≤b∧b<N∧s=fnv (Ab 0 (prs t) [])∧τ l b=toB (Ab 0 (prs t) [])∧(∀p∈prs t,AD p)∧2+qM2 ζ (prs t)≤128∧(prs t).length≤126
 | n+1,b,s,t=>2≤b∧b<N∧n+1<6∧∃hs:List HL,Both (RLof (fun _ _=>False) (Laid N l n)) hs (J t)∧s=fnv (Ab ((n+1:Nat):Int) [] hs)∧τ l b=toB (Ab ((n+1:Nat):Int) [] hs)∧(∀h∈hs,h.key.size≤8)∧2+qM2 ψ hs≤128∧hs.length≤126
def Laid.at{N:Nat}{l}:∀{n b:Nat} {s:Int} {t},Laid N l n b s t->2<=b/\b<N/\0<=s/\s<18446744073709551616/\n<6
 | 0,_,_,_,h=>⟨h.1,h.2.1,by rw[h.2.2.1];exact FJ _,by rw[h.2.2.1];exact Nn _,oM⟩
 | _+1,_,_,_,h=>by
  let⟨c,d,e,f,_,a,_⟩:=h;exact⟨c,d,by rw[a];exact FJ _,by rw[a];exact Nn _,e⟩
def Laid.links{N:Nat}{l}{n:Nat}{b}{ls}(h:Both (RLof (λ_ _=>False) (Laid N l n)) b ls)(j:∀h∈b,h.key.size<=8)(o:N<=1000):
  ∀p∈b,p.p=none/\p.key.size<=8/\0<=p.b/\p.b<65536/\0<=p.s/\p.s<18446744073709551616:=by
 intro p d;obtain⟨i,c,rfl⟩:=gO d;have a:=(h.2 i c (by rw[<-h.1];exact c)).2;split at a
 .let⟨_,_,q,_,g⟩:=a;exact g.elim
 .let⟨k,m,e,f⟩:=a;have:=f.at;exact⟨e,j _ d,oM,oM,oM,oM⟩
def lhl{X:Type}(l:Lnk X):HL:=⟨l.key,((l.ref.getD (0,0)).1:Int),(l.ref.getD (0,0)).2,none⟩
def Aj{X:Type}(f:Lnk X→List Nat→Lnk X×List (Nat×List UInt8)×List Nat):List (Lnk X)→List Nat→List (Lnk X)×List (Nat×List UInt8)×List Nat
 | [],fr=>([],[],fr)
 | l::ls,fr=>((f l fr).1::(Aj f ls (f l fr).2.2).1,(f l fr).2.1++(Aj f ls (f l fr).2.2).2.1,(Aj f ls (f l fr).2.2).2.2)
def φ:(n:Nat)→Lnk (Tn n)→List Nat→Lnk (Tn n)×List (Nat×List UInt8)×List Nat
 | 0,l,fr=>if l.ref.isSome then(l,[],fr) else(⟨l.key,some (fr.headD 0,fnv (Ab 0 (prs l.sub) [])),l.sub⟩,[(fr.headD 0,toB (Ab 0 (prs l.sub) []))],fr.tail)
 | n+1,l,fr=>if l.ref.isSome then(l,[],fr) else
   let r:=Aj (φ n) (J l.sub) fr
   (⟨l.key,some (r.2.2.headD 0,fnv (Ab ((n+1:Nat):Int) [] (r.1.map lhl))),r.1⟩,r.2.1++[(r.2.2.headD 0,toB (Ab ((n+1:Nat):Int) [] (r.1.map lhl)))],r.2.2.tail)
def Oj{X:Type}(f:Lnk X->Ϥ->Lnk X×ϥ×Ϥ):∀(a:List (Lnk X)) (l:Lnk X) (fr),
  Aj f (a++[l]) fr=((Aj f a fr).1++[(f l (Aj f a fr).2.2).1],(Aj f a fr).2.1++(f l (Aj f a fr).2.2).2.1,(f l (Aj f a fr).2.2).2.2)
 | [],l,fr=>by simp[Aj]
 | x::a,l,fr=>by
  simp[cA,Aj,Oj f a l (f x fr).2.2,aA]
def Du{X:Type}(f:Lnk X->Ϥ->Lnk X×ϥ×Ϥ)(g:Lnk X->Nat):∀(ls:List (Lnk X)) (a:Ϥ),(∀l∈ls,∀a,(f l a).2.2=a.drop (g l))->(Aj f ls a).2.2=a.drop (qM2 g ls)
 | [],a,_=>by simp[Aj,AJ]
 | l::ls,a,h=>by
  simp[Aj];rw[Du f g ls _ (λx b=>h x (by simp[b])),h l sM,List.drop_drop,Au]
def CJ:∀(n:Nat) (l:Lnk (Tn n)) (a:Ϥ),(φ n l a).2.2=a.drop (news n l)
 | 0,l,a=>by
  simp[φ,news];split<;>simp
 | n+1,l,a=>by
  simp[φ,news];split
  .simp
  .simp only;rw[Du (φ n) (news n) _ a (λl _ a=>CJ n l a),<-List.drop_one,List.drop_drop]
   congr 1
   exact Nat.add_comm _ _
structure Wx(base:Nat)(S:Ϥ)(w w':Ϣ):Prop where
 os:w'.os=w.os
 tape:w'.tape=w.tape
 output:w'.output=w.output
 size:w.heap.size<=w'.heap.size
 low:∀k,k<base->k∉S->w'.heap[k]?=w.heap[k]?
 oth:∀(k:Nat)(c:ϧ)(t:Ϯ)(fr:Nat×Nat),w.heap[k]?=some (ϲ c t fr)->t≠117->k∉S->w'.heap[k]?=some (ϲ c t fr)
def Wx.trans{base:Nat}{S}{a b c}(h:Wx base S a b)(k:Wx base S b c):Wx base S a c:=
 ⟨k.os.trans h.os,k.tape.trans h.tape,k.output.trans h.output,lT h.size k.size,λq d f=>(k.low q d f).trans (h.low q d f),λq c t fr e d f=>k.oth q c t fr (h.oth q c t fr e d f) d f⟩
def Wx.qP2{base:Nat}{S}{a b}(h:Kp S a b)(g:base<=a.heap.size):Wx base S a b:=
 ⟨h.os,h.tape,h.output,h.size,λk f d=>h.block k oM d,λk c t fr e f d=>h.heap e d⟩
def Wx.of{base A:Nat}{S}{a b}(h:Wr base A a b)(g:A∈S):Wx base S a b:=
 ⟨h.os,h.tape,h.output,h.size,λk d f=>h.low k d (λe=>f (e ▸ g)),λk c t fr e d f=>h.oth k c t fr e d (λe=>f (e ▸ g))⟩
def Wx.tail{base:Nat}{a w w'}{S T}(h:Wx base S a w)(hK:Kp T w w')(f:∀k∈T,a.heap.size<=k)(i:base<=a.heap.size):Wx base S a w':=
 ⟨hK.os.trans h.os,hK.tape.trans h.tape,hK.output.trans h.output,lT h.size hK.size,λk b d=>(hK.block k (oW h.size) (λhm=>by have:=f k hm;omega)).trans (h.low k b d),λk c t g e b d=>hK.heap (h.oth k c t g e b d) (λhm=>by have:=f k hm;have:=U e;omega)⟩
def ints(fr:List Nat):List Value:=fr.map (fun (b:Nat)=>Value.int .i64 (b:Int))
def YN(F b:Nat)(fr)(v)(w)(c:w.heap[F]?=some (ϲ #[v] 24))(q:Slc w 3 1 v (b::fr).length (ints (b::fr)))(K:fr.length<=100000):
  Ω 175 #[ϖ F] w λe w'=>e=ϱ (ϊ b)/\∃v',w'.heap[F]?=some (ϲ #[v'] 24)/\Slc w' 3 1 v' fr.length (ints fr)/\Kp [F] w w':=by
 rcases q.val with⟨t,_⟩|⟨g,a,cap,cur,s,rfl,H,y,d,k⟩
 .simp at t
 have c0:=ϻ c 0;have G:=ρ c 0;have I:=U c;have E:w.cell? (ϰ g a)=some (ϊ (b:Int)):=by
  rw[Y d];exact k 0 _ (by simp[ints])
 have A:g≠F:=by intro e;subst e;rw[c]at d;simp at d
 obtain⟨m,f⟩:=eX ((b::fr).length);rw[<-f]at y c0;have L:(0:Int)<(m:Int):=oM
 have M:¬(m:Int)<1:=oM
 have N:(1:Int)<=(m:Int):=oM
 have i:Hid (m=fr.length+1):=by show _=_;rw[f];simp
 have l:Hid (Ϙ w F (ϲ #[ϑ g a m cap] 24)):=by rw[f];exact c
 have n:=zh (n2 d k);have B:g∉[F]:=by simpa using A
 have p:Hid (∀o:Nat,(o=a+1\/fr=[])->∀w',Kp [F] w w'->Slc w' 3 1 (ϑ g o (m-1) (cap-1)) fr.length (ints fr)):=by
  intro o C w' hK;have r:m-1=fr.length:=by have:=i.out;omega
  rw[r];refine⟨by simp[ints],?_⟩
  cases fr with
  | nil=>exact Or.inl ⟨rfl,_,_,rfl,sM⟩
  | cons x fr=>
   rcases C with rfl|h
   .refine Or.inr ⟨g,a+1,cap-1,cur,s,rfl,sM,by have:=i.out;simp at this |-;omega,hK.heap n.1 B,λj u D=>?_⟩;have h:=n.out.2 (j+1) u (by simpa [ints] using D);rw[show a+1+j=a+(j+1) from by omega];exact h
   .cases h
 clear c q f d k;go_enter func175,ntmps175;go_wp2
 .go_ret;have hK:Kp [F] w (w.setCell (ϰ F 0) (ϑ g a (m-1) 0)):=kF.sc _;have z:cap=1:=by first | assumption | omega
  have h:=p.out a (Or.inr (List.eq_nil_of_length_eq_zero (oW i.out))) _ hK;rw[z]at h;exact⟨rfl,_,ξ l 0 _,h,hK⟩
 .go_ret;have hK:Kp [F] w (w.setCell (ϰ F 0) (ϑ g (a+1) (m-1) (cap-1))):=kF.sc _;exact⟨rfl,_,ξ l 0 _,p (a+1) (Or.inl rfl) _ hK,hK⟩
variable {κ:Nat}
def FA(w)(a b c):∃d,d=((w.alloc a).alloc b).alloc c/\d.heap[w.heap.size]?=some a/\d.heap[w.heap.size+1]?=some b/\d.heap[w.heap.size+1+1]?=some c/\Kp [] w d/\d.heap.size=w.heap.size+3:=
 ⟨_,rfl,ν _ (ν _ (μ _ _)),ν _ (sU (μ (w.alloc a) b)),sU (μ ((w.alloc a).alloc b) c),((kF.alloc _).alloc _).alloc _,sM⟩
def ME(args)(W):Sem.run prog (callFunc 175 args) W=.ok (.enter 175 args) W:=by
 simp[go_sem,func175]
def Slc.wx{base:Nat}{S}{w w'}{T}{sz:Nat}{v}{n:Nat}{cs:Ϩ}(h:Slc w T sz v n cs)(k:Wx base S w w')(j:T≠117)(i:Apt w S [T]):Slc w' T sz v n cs:=by
 refine⟨h.len,?_⟩;rcases h.val with h|⟨g,m,cap,cur,b,c,d,e,a,f⟩
 .exact .inl h
 .exact .inr ⟨g,m,cap,cur,b,c,d,e,k.oth _ _ _ _ a j (λl=>i g l _ _ _ a sM),f⟩
def RN.wx{O:AS}{base:Nat}{S}{w w'}(c:Wx base S w w')(b:Apt w S Bi):∀(n:Nat)(q:Nat)(t),RN O n w q t->RN O n w' q t
 | 0,q,t,h=>by
  let⟨j,a,d⟩:=h;exact⟨j,c.oth _ _ _ _ a dC (λe=>b q e _ _ _ a dC),d.wx c dC (b.sub dC)⟩
 | n+1,q,t,h=>by
  let⟨i,a,g,d,f⟩:=h;exact⟨i,c.oth _ _ _ _ a dC (λe=>b q e _ _ _ a dC),g,d.wx c dC (b.sub dC),f.mono λx y hr=>hr.mono (λq hq=>RN.wx c b n q _ hq) (λ_ _ h=>h)⟩
variable {κ:Nat}
def JX(V:Nat)(r h)(nf)(w)(c:h.p=none):
  Ω 174 #[θ V r,Aw h,nf] w λe w'=>e=ϱ (Aw h)/\Kp [] w w':=by
 have d:h.ptr=none:=by simp[HL.ptr,c]
 rw[θ,Aw,d];go_enter func174,ntmps174;go_wp2;let⟨g,f,_,_,b,a,_⟩:=FA w (ϲ (ϟ V r) 89) (ϲ #[ϕ h.key,ϊ h.b,.int .u64 h.s,ϗ none] 87) (ϲ #[ϕ h.key,ϊ h.b,.int .u64 h.s,ϗ none] 87);rw[<-f];exact bodyPost_ret (results_cell_row results174 _ _ (w.heap.size+1+1) 87 #[ϕ h.key,ϊ h.b,.int .u64 h.s,ϗ none] (0,0) _ rfl b underlying87 rfl kR) rfl ⟨rfl,a⟩
variable {κ:Nat}
def OkL:(n:Nat)→Lnk (Tn n)→Prop
 | 0,l=>l.key.size≤8∧(l.ref=none→(∀p∈prs l.sub,AD p)∧2+qM2 ζ (prs l.sub)≤128∧(prs l.sub).length≤126)
 | n+1,l=>l.key.size≤8∧(l.ref=none→n+1<256∧(∀m∈J l.sub,OkL n m)∧2+qM2 ι (J l.sub)≤128∧(J l.sub).length≤126)
def DZ(F:Nat):Value:=.func (.func 175) #[] #[.pointer (some ⟨F,0,none⟩)]
def Kt{X:Type}{N:Nat->X->Prop}{O:Nat->Int->X->Prop}{h}{l:Lnk X}(g:RLof N O h l)(f:l.ref.isSome):h.p=none/\h=lhl l:=by
 let⟨d,e⟩:=g
 cases hx:l.ref with
 | none=>rw[hx]at f;cases f
 | some x=>
  rw[hx]at e;let⟨b,c,a,_⟩:=e;refine⟨a,?_⟩;cases h;simp only at d b c a;subst d b c a;simp[lhl,hx]
def Kj{X:Type}{N:Nat->X->Prop}{O:Nat->Int->X->Prop}{h}{l:Lnk X}(f:RLof N O h l)(e:l.ref=none):h.key=l.key/\∃q,h.p=some q/\N q l.sub:=by
 let⟨d,a⟩:=f;rw[e]at a;let⟨_,_,q,b,c⟩:=a;exact⟨d,q,b,c⟩
def Zv{base b:Nat}{S}{w w'}{e}{sz:Nat}{v}{n:Nat}{xs:Ϩ}(h:w.ownsRow b e sz v n xs)(j:Wx base S w w')(k:e≠117)(i:Apt w S [e]):w'.ownsRow b e sz v n xs:=by
 refine⟨h.1,?_⟩;rcases h.2 with a|⟨g,cap,cur,a,d,c,f⟩
 .exact Or.inl a
 .exact Or.inr ⟨g,cap,cur,a,d,j.oth _ _ _ _ c k (λl=>i g l _ _ _ c sM),f⟩
def Zt{w}{base:Nat}{e}{sz:Nat}{v}{n:Nat}{xs:Ϩ}{b:List Ϯ}(h:w.ownsRow base e sz v n xs)(i:e∉b):Apt w v.ownBlock.toList b:=λq a c t j d=>by
 rcases h.2 with⟨rfl,_⟩|⟨g,cap,cur,rfl,_,f,_⟩
 .simp[Value.ownBlock]at a
 .simp[Value.ownBlock,Option.toList_some,List.mem_singleton]at a;rw[a,f]at d;cases d;exact i
def KA{w:Ϣ}{base:Nat}{e:Ϯ}{sz:Nat}{v:Value}{n:Nat}{xs:Ϩ}(h:w.ownsRow base e sz v n xs):∀k,v.ownBlock=some k->base<=k/\k<w.heap.size:=λk hk=>by
 refine⟨qN3 h k hk,?_⟩;rcases h.2 with⟨rfl,_⟩|⟨g,cap,cur,rfl,_,a,_⟩
 .simp[Value.ownBlock]at hk
 .simp[Value.ownBlock,Option.some.injEq]at hk;rw[<-hk];exact U a
def Ho{X:Type}(f:Lnk X->Ϥ->Lnk X×ϥ×Ϥ)(g:Lnk X->Nat):∀(ls:List (Lnk X)) (a:Ϥ),(∀l∈ls,∀a,(f l a).2.1.length=g l)->(Aj f ls a).2.1.length=qM2 g ls
 | [],a,_=>by simp[Aj,AJ]
 | l::ls,a,h=>by
  simp[Aj,lA];rw[Ho f g ls _ (λx b=>h x (by simp[b])),h l sM,Au]
def Fd:∀(n:Nat) (l:Lnk (Tn n)) (a:Ϥ),(φ n l a).2.1.length=news n l
 | 0,l,a=>by
  simp[φ,news];split<;>simp
 | n+1,l,a=>by
  simp[φ,news];split
  .simp
  .simp[lA,lC,List.length_nil];rw[Ho (φ n) (news n) _ a (λl _ a=>Fd n l a)];exact Nat.add_comm _ _
def Ol:∀(n:Nat) (l:Lnk (Tn n)) (a:Ϥ),(φ n l a).1.key=l.key
 | 0,l,a=>by
  simp[φ];split<;>rfl
 | n+1,l,a=>by
  simp[φ];split<;>rfl
def JS{X:Type}(f:Lnk X->Ϥ->Lnk X×ϥ×Ϥ):∀(ls:List (Lnk X)) (a:Ϥ),(Aj f ls a).1.length=ls.length
 | [],a=>rfl
 | l::ls,a=>by simp[Aj,lC,JS f ls]
def Hp(n:Nat):∀(ls:List (Lnk (Tn n))) (a:Ϥ),qM2 ψ ((Aj (φ n) ls a).1.map lhl)=qM2 ι ls
 | [],a=>rfl
 | l::ls,a=>by
  simp[Aj,List.map_cons,Au,Hp n ls];simp[ψ,ι,lhl,Ol]
def XS(N n:Nat)(o:N<=1000)(l)(a)(c:l.key.size<=8)(j:∀x,l.ref=some x->x.1<=1000000/\0<=x.2)(f:∀b∈a,b<N):(lhl (φ n l a).1).key.size<=8/\0<=(lhl (φ n l a).1).b/\(lhl (φ n l a).1).b<=1000000/\0<=(lhl (φ n l a).1).s:=by
 have e:∀g:List Nat,(∀b∈g,b<N)->g.headD 0<=1000000:=λg d=>by
  cases g with
  | nil=>simp
  | cons b g=>have:=d b sM;simp;omega
 have i:∀(m:Lnk (Tn n)),m.key.size<=8->(∀x,m.ref=some x->x.1<=1000000/\0<=x.2)->(lhl m).key.size<=8/\0<=(lhl m).b/\(lhl m).b<=1000000/\0<=(lhl m).s:=λm h1 h2=>by
  refine⟨h1,?_⟩;simp only[lhl]
  cases hm:m.ref with
  | none=>simp
  | some x=>have:=h2 x hm;simp only[Option.getD_some];omega
 have h:∀(k:ByteArray)(t:Tn n)(b:Nat)(s:Int),k.size<=8->b<=1000000->0<=s->(lhl (⟨k,some (b,s),t⟩:Lnk (Tn n))).key.size<=8/\0<=(lhl (⟨k,some (b,s),t⟩:Lnk (Tn n))).b/\(lhl (⟨k,some (b,s),t⟩:Lnk (Tn n))).b<=1000000/\0<=(lhl (⟨k,some (b,s),t⟩:Lnk (Tn n))).s:=λk t b s h1 h2 h3=>⟨h1,by simp only[lhl,Option.getD_some];omega⟩
 cases n with
 | zero=>
  simp only[φ];split
  .exact i l c j
  .exact h _ _ _ _ c (e a f) (FJ _)
 | succ n=>
  simp only[φ];split
  .exact i l c j
  .have d:∀b∈(Aj (φ n) (J l.sub) a).2.2,b<N:=λb hb=>by
    rw[Du (φ n) (news n) _ a (λl _ a=>CJ n l a)]at hb;exact f b (mD hb)
   exact h _ _ _ _ c (e _ d) (FJ _)
def OG(N n:Nat)(d:N<=1000):∀(ls:List (Lnk (Tn n))) (a:Ϥ),(∀l∈ls,l.key.size<=8/\∀x,l.ref=some x->x.1<=1000000/\0<=x.2)->(∀b∈a,b<N)->∀p∈(Aj (φ n) ls a).1.map lhl,p.key.size<=8/\0<=p.b/\p.b<=1000000/\0<=p.s
 | [],a,_,_=>by simp[Aj]
 | l::ls,a,h,hf=>by
  intro p c;simp only[Aj,List.map_cons,mC]at c;rcases c with rfl|c
  .exact XS N n d l a (h l sM).1 (h l sM).2 hf
  .exact OG N n d ls _ (λx e=>h x (by simp[e])) (λb hb=>by rw[CJ]at hb;exact hf b (mD hb)) p c
def Blk:(n:Nat)→Nat→Tn n→List Nat
 | 0,b,_=>[b]
 | n+1,b,t=>b::(J t).flatMap (fun m=>match m.ref with | some x=>Blk n x.1 m.sub | none=>[])
def Laid.move{N:Nat}{l l'}:∀(n b:Nat)(s:Int)(t),Laid N l n b s t->(∀k∈Blk n b t,τ l' k=τ l k)->Laid N l' n b s t
 | 0,b,s,t,h,hk=>by
  let⟨d,e,f,c,g⟩:=h;exact⟨d,e,f,(hk b (by simp[Blk])).trans c,g⟩
 | n+1,b,s,t,h,hk=>by
  let⟨d,e,f,u,c,g,p,q⟩:=h;refine⟨d,e,f,u,⟨c.1,λi o j=>?_⟩,g,(hk b (by simp[Blk])).trans p,q⟩;have m:=c.2 i o j;refine⟨m.1,?_⟩;have a:=m.2
  cases hx:(J t)[i].ref with
  | none=>rw[hx]at a;exact a
  | some x=>
   rw[hx]at a;refine⟨a.1,a.2.1,a.2.2.1,Laid.move n x.1 x.2 _ a.2.2.2 (λk r=>hk k ?_)⟩;simp[Blk,mC,List.mem_flatMap];exact Or.inr ⟨(J t)[i],gM j,by rw[hx];exact r⟩
def Dl(l b)(i k n:Nat)(c:b.length=128)(g:n*128<=l.length)(d:i<n)(f:k≠i):τ (Ap l i b) k=τ l k:=by
 refine List.ext_getElem? λj=>?_;simp only[τ,Ap,List.getElem?_take,List.getElem?_drop];split
 .rename_i e;rw[aA,List.getElem?_append];split
  .rename_i a;rw[List.getElem?_take];simp only[lK]at a;rw[if_pos oM]
  .rename_i a;simp only[lK]at a |-;rw[List.getElem?_append,if_neg oM,List.getElem?_drop]
   congr 1
   omega
 .rfl
def CT(l b)(i n:Nat)(a:b.length=128)(d:n*128<=l.length)(c:i<n):τ (Ap l i b) i=b:=by
 exact Si l i b a oM
def Mo(n k:Nat)(ws):∀(l),n*128<=l.length->(∀x∈ws,x.1<n/\x.2.length=128)->k∉ws.map Prod.fst->τ (laidAll l ws) k=τ l k:=by
 induction ws with
 | nil=>intro l _ _ _;rfl
 | cons a ws ih=>
  intro l d e c;simp only[List.map_cons,mC,not_or]at c;have b:=e a sM;refine(ih (Ap l a.1 a.2) (EK l a.2 a.1 n b.2 d b.1) (λx f=>e x (by simp[f])) c.2).trans ?_;exact Dl l a.2 a.1 k n b.2 d b.1 c.1
def Sf(n:Nat)(ws)(x:Nat×ϣ):∀(l),n*128<=l.length->(∀x∈ws,x.1<n/\x.2.length=128)->(ws.map Prod.fst).Nodup->x∈ws->τ (laidAll l ws) x.1=x.2:=by
 induction ws with
 | nil=>intro l _ _ _ h;cases h
 | cons a ws ih=>
  intro l g d c e;simp only[List.map_cons,List.nodup_cons]at c;have b:=d a sM;have i:=EK l a.2 a.1 n b.2 g b.1;rcases List.mem_cons.1 e with rfl|e
  .exact (Mo n x.1 ws (Ap l x.1 x.2) i (λy f=>d y (by simp[f])) c.1).trans (CT l x.2 x.1 n b.2 g b.1)
  .exact ih (Ap l a.1 a.2) i (λy f=>d y (by simp[f])) c.2 e
def BX(N:Nat)(l:List UInt8):(n:Nat)→Lnk (Tn n)→Prop
 | 0,L=>∀x,L.ref=some x→Laid N l 0 x.1 x.2 L.sub
 | n+1,L=>(∀x,L.ref=some x→Laid N l (n+1) x.1 x.2 L.sub)∧(L.ref=none→∀m∈J L.sub,BX N l n m)
def BB:(n:Nat)→Lnk (Tn n)→List Nat
 | 0,L=>match L.ref with | some x=>Blk 0 x.1 L.sub | none=>[]
 | n+1,L=>match L.ref with | some x=>Blk (n+1) x.1 L.sub | none=>(J L.sub).flatMap (BB n)
def LA(N:Nat)(l l':ϣ)(n:Nat):Prop:=∀(L:Lnk (Tn n)) (fr:Ϥ),BX N l n L->OkL n L->n<6->(∀b∈fr,2<=b/\b<N)->news n L<=fr.length->(∀x∈(φ n L fr).2.1,τ l' x.1=x.2)->(∀k∈BB n L,τ l' k=τ l k)->
 ∃x,(φ n L fr).1.ref=some x/\Laid N l' n x.1 x.2 (φ n L fr).1.sub
def NZ(N:Nat)(l l')(n:Nat)(i:LA N l l' n)(j:n<6):∀(ls)(c),(∀m∈ls,BX N l n m/\OkL n m)->(∀b∈c,2<=b/\b<N)->qM2 (news n) ls<=c.length->(∀x∈(Aj (φ n) ls c).2.1,τ l' x.1=x.2)->(∀k∈ls.flatMap (BB n),τ l' k=τ l k)->
  ∀m∈(Aj (φ n) ls c).1,∃x,m.ref=some x/\Laid N l' n x.1 x.2 m.sub
 | [],_,_,_,_,_,_=>by intro m f;cases f
 | a::ls,c,h,hf,f,hx,hk=>by
  rw[Au]at f;intro m g;simp only[Aj,mC]at g;simp only[Aj,List.mem_append]at hx;rcases g with rfl|g
  .exact i a c (h a sM).1 (h a sM).2 j hf oM (λx d=>hx x (Or.inl d)) (λk d=>hk k (by simp only[fC,List.mem_append];exact Or.inl d))
  .have e:=CJ n a c;exact NZ N l l' n i j ls _ (λm f=>h m (by simp[f])) (λb hb=>by rw[e]at hb;exact hf b (mD hb)) (by rw[e,lD];omega) (λx d=>hx x (Or.inr d)) (λk d=>hk k (by simp only[fC,List.mem_append];exact Or.inr d)) m g
def YX{n:Nat}{m}(h:OkL n m):m.key.size<=8:=by
 cases n with
 | zero=>exact h.1
 | succ n=>exact h.1
def Oi(n:Nat):∀(ls:List (Lnk (Tn n))) (c:Ϥ),(∀m∈ls,m.key.size<=8)->∀m∈(Aj (φ n) ls c).1,m.key.size<=8
 | [],_,_=>by intro m b;cases b
 | a::ls,c,h=>by
  intro m b;simp[Aj,mC]at b;rcases b with rfl|b
  .rw[Ol];exact h a sM
  .exact Oi n ls _ (λm b=>h m (by simp[b])) m b
def Laid.leaf{N b:Nat}{l}{t}(a:2<=b/\b<N)(c:τ l b=toB (Ab 0 (prs t) []))(d:(∀p∈prs t,AD p)/\2+qM2 ζ (prs t)<=128/\(prs t).length<=126):Laid N l 0 b (fnv (Ab 0 (prs t) [])) t:=⟨a.1,a.2,Eq.refl _,c,d⟩
def Laid.branch{N b n:Nat}{l}{t}(hs)(a:2<=b/\b<N)(c:n+1<6)(d:Both (RLof (λ_ _=>False) (Laid N l n)) hs (J t))(e:τ l b=toB (Ab ((n+1:Nat):Int) [] hs))(f:(∀h∈hs,h.key.size<=8)/\2+qM2 ψ hs<=128/\hs.length<=126):Laid N l (n+1) b (fnv (Ab ((n+1:Nat):Int) [] hs)) t:=⟨a.1,a.2,c,hs,d,Eq.refl _,e,f⟩
def XT{X:Type}(m:Lnk X)(x:Nat×Int)(h:m.ref=some x):(lhl m).b=(x.1:Int)/\(lhl m).s=x.2:=by
 simp[lhl,h,Option.getD_some,and_self]
def Oa(N:Nat)(l l'):∀n,LA N l l' n
 | 0=>by
  intro L a q v _ j u d o
  cases hr:L.ref with
  | some x=>
   have w:L.ref.isSome:=by rw[hr];rfl
   have e:φ 0 L a=(L,[],a):=by simp only[φ,if_pos w]
   rw[e];refine⟨x,hr,Laid.move 0 x.1 x.2 L.sub (q x hr) (λk c=>o k ?_)⟩;simp only[BB,hr];exact c
  | none=>
   have h:¬L.ref.isSome=true:=by rw[hr];simp
   have M:news 0 L=1:=by simp only[news,if_neg h]
   cases a with
   | nil=>rw[M]at u;simp at u
   | cons b a=>
    have e:φ 0 L (b::a)=(⟨L.key,some (b,fnv (Ab 0 (prs L.sub) [])),L.sub⟩,[(b,toB (Ab 0 (prs L.sub) []))],a):=by simp only[φ,if_neg h,List.headD_cons,List.tail_cons]
    rw[e]at d |-;let⟨G,r,y⟩:=v.2 hr;have g:=d (b,toB (Ab 0 (prs L.sub) [])) (List.mem_singleton.2 rfl);have f:=Laid.leaf (j b sM) g ⟨G,r,y⟩;generalize fnv (Ab 0 (prs L.sub) [])=s at f |-;exact⟨(b,s),rfl,f⟩
 | n+1=>by
  intro L a q v P j u d o
  cases hr:L.ref with
  | some x=>
   have w:L.ref.isSome:=by rw[hr];rfl
   have e:φ (n+1) L a=(L,[],a):=by simp only[φ,if_pos w]
   rw[e];refine⟨x,hr,Laid.move (n+1) x.1 x.2 L.sub (q.1 x hr) (λk c=>o k ?_)⟩;simp only[BB,hr];exact c
  | none=>
   have h:¬L.ref.isSome=true:=by rw[hr];simp
   have:news (n+1) L=1+qM2 (news n) (J L.sub):=by simp only[news,if_neg h]
   have t:=Du (φ n) (news n) (J L.sub) a (λl _ a=>CJ n l a);let⟨G,r,y,S⟩:=v.2 hr
   cases hfr:(Aj (φ n) (J L.sub) a).2.2 with
   | nil=>
    have B:=congrArg List.length t;rw[hfr,lD]at B;simp at B;omega
   | cons b fr'=>
    have e:φ (n+1) L a=(⟨L.key,some (b,fnv (Ab ((n+1:Nat):Int) [] ((Aj (φ n) (J L.sub) a).1.map lhl))),(Aj (φ n) (J L.sub) a).1⟩,(Aj (φ n) (J L.sub) a).2.1++[(b,toB (Ab ((n+1:Nat):Int) [] ((Aj (φ n) (J L.sub) a).1.map lhl)))],fr'):=by
     simp only[φ,if_neg h,hfr,List.headD_cons,List.tail_cons]
    rw[e]at d |-;have O:b∈a:=by rw[hfr]at t;exact mD (t ▸ List.mem_cons_self)
    have C:=NZ N l l' n (Oa N l l' n) oM (J L.sub) a (λm c=>⟨q.2 hr m c,r m c⟩) j oM (λx hh=>d x (List.mem_append_left _ hh)) (λk hh=>o k (by simp only[BB,hr];exact hh));have D:=Oi n (J L.sub) a (λm c=>YX (r m c));have F:=Hp n (J L.sub) a;have E:=JS (φ n) (J L.sub) a;have g:=d (b,toB (Ab ((n+1:Nat):Int) [] ((Aj (φ n) (J L.sub) a).1.map lhl))) (List.mem_append_right _ (List.mem_singleton.2 rfl));generalize Aj (φ n) (J L.sub) a=R at C D F E g |-;have f:Laid N l' (n+1) b (fnv (Ab ((n+1:Nat):Int) [] (R.1.map lhl))) R.1:=by
     refine Laid.branch (R.1.map lhl) (j b O) P ⟨by rw[List.length_map];rfl,λi T K=>?_⟩ g ⟨?_,by rw[F];exact y,by rw[List.length_map,E];exact S⟩
     .rw[List.getElem_map];let⟨x,z,H⟩:=C _ (gM K);refine⟨rfl,?_⟩;have I:=z;rw[I];have A:=XT _ x z;exact⟨A.1,A.2,rfl,H⟩
     .intro p Q;obtain⟨m,c,rfl⟩:=List.mem_map.1 Q;exact D m c
    clear d g;generalize fnv (Ab ((n+1:Nat):Int) [] (R.1.map lhl))=s at f |-;exact⟨(b,s),rfl,f⟩
end Go.Proofs.YtdohpenfkdckiaaGreatDoor
