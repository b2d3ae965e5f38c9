import Derived.Test.YtdohpenfkdckiaaGreatDoorJ01
import Derived.Defers
import Derived.Recover
import Derived.WalkSmall
import Derived.Carry
import Derived.LaidEql
import Derived.Stop.Asserts
import Derived.RowKitTokens
import Derived.Lib.AppendZerosOnto
import Derived.Lib.SliceRun
import Derived.Laws.AppendOwnNone
import Derived.ArgAppend
import Derived.Laws.OwnMore
set_option linter.all false
set_option maxRecDepth 100000
set_option maxHeartbeats 0
namespace Go.Proofs.YtdohpenfkdckiaaGreatDoor
open Go.Proofs.Tryz Go.RowKit
def Ej:List UInt8:=List.replicate 128 0
def DS(xs:List Int):(toB xs).length=xs.length:=by simp[toB]
def Dr(a b:List Int):toB (a++b)=toB a++toB b:=by simp[toB]
def Jl{α:Type}(a b c:List α)(k n:Nat)(d:a.length=k)(e:b.length=n):((a++(b++c)).drop k).take n=b:=by
 subst d;subst e;simp
variable {κ:Nat}
def qL7:zeroCells288=enc Ej:=by
 have h:zeroCells288.toList=(enc Ej).toList:=kR
 have:=congrArg List.toArray h;simpa using this
def Ap(l:List UInt8)(i:Nat)(b:List UInt8):List UInt8:=l.take (i*128)++b++l.drop (i*128+b.length)
def Nb{P:Program}{a:Act}{w}{o:Oper}{s x:Operand}{t t' e}(q:o.op=.call { callee:=.builtin .copy,args:=#[s,x],argTypes:=#[t,t'] })(u:P.underlying t=some (.slice e))(r:(P.info? e).map (·.size)=some 1)
  (g f dLen dCap b c sLen sCap n:Nat) (j:a.eval s=.slice (some (ϰ g f)) dLen dCap) (y:a.eval x=.slice (some (ϰ b c)) sLen sCap) (p:n=Nat.min sLen dLen)
  {cur d} {tg tb} {fr} (l:w.heap[g]?=some (ϲ cur tg)) (i:w.heap[b]?=some (ϲ d tb fr)) (k:f+n<=cur.size) (m:c+n<=d.size)
  (h:∀v∈(Ad d c n).toList,v.oneCell'=true):
  Sem.run P (execOp a.eval o) w=.ok (.value (ϊ n)) (w.setRow g (Bz cur f (Ad d c n))):=by
 unfold execOp;simp[q,resolve,invoke,builtin,Sem.run_bind,Sem.run_pure,Result.andThen_ok,List.map_toArray,List.map_cons,List.map_nil,j,y,Fp (P:=P) (w:=w) o.type (t:=t) (t':=t') u r (dLen:=dLen) (dCap:=dCap) (sLen:=sLen) (sCap:=sCap) n p l i k m h]
variable {κ:Nat}
def TC(p)(w):
  CallsD prog 246 #[ϗ (some p)] .returning w λe c w'=>e=ϱ (.tuple #[])/\c=.returning/\w'=w:=by
 refine callsD_of_wpS func246 rfl λa cs b=>?_;apply wpS_seq;apply wpS_region;simp[wpOpsS,go_sem,recoverD,b,ntmps246,Exit.thenS];refine wpS_cond (t:=false) (by simp[Act.eval,Array.replicate]) ?_;simp[Bool.false_eq_true,if_false];refine wpS_of_wp (wp_skip ?_);cases a
 simp_all [bodyPostS,results,results246]
def qL6(T)(v)(w):
  Ω 168 #[.iface 182 (.agg #[.iface T v])] w λe w'=>e=ϱ (.iface T v)/\Kp [] w w':=by
 have:∀W:World,Sem.run prog (Instr.typeAssert (.iface 182 (.agg #[.iface T v])) 20 182 true) W=.ok (.tuple #[.agg #[.iface T v],.bool true]) W:=λW=>by kernel_rfl
 go_enter func168,ntmps168;go_wp2;go_ret;exact⟨rfl,(Kp.refl _ _).alloc _⟩
def SE(p q)(w):
  CallsD prog 167 #[ϗ (some p),ϗ (some q)] .returning w λe c w'=>e=ϱ (.tuple #[])/\c=.returning/\w'=w:=by
 refine callsD_of_wpS func167 rfl λa cs b=>?_;apply wpS_seq;apply wpS_region;simp[wpOpsS,go_sem,recoverD,b,ntmps167,Exit.thenS,Array.replicate];refine wpS_of_wp ?_;go_wp2;cases a
 simp_all [bodyPostS,results,results167]
def SF(B E:Nat)(T)(v)(call)(w)(b:w.heap[B]?=some (ϲ #[ϕ call] 9))(o:B≠E)(p:w.heap[E]?=some (ϲ #[.nilIface] 38)):
  CallsD prog 167 #[ϖ B,ϖ E] (.panicking [{ v:=.iface 182 (.agg #[.iface T v]),recovered:=false }]) w λe t w'=>
   e=ϱ (.tuple #[])/\t=.panicking [{ v:=.iface 182 (.agg #[.iface T v]),recovered:=true }]/\∃F,w.heap.size<=F/\w'.heap[F]?=some (ϲ #[ϕ call,.iface T v] 246)/\w'.heap[E]?=some (ϲ #[.iface 243 (ϖ F)] 38)/\Kp [E] w w':=by
 refine callsD_of_wpS func167 rfl λu cs s=>?_;apply wpS_seq;apply wpS_region;simp[wpOpsS,go_sem,recoverD,s,ntmps167,Exit.thenS,Array.replicate];refine wpS_of_wp ?_;go_wp2_with fail;refine wp_region_held_drew (S:=λW=>W.heap[B]?=some (ϲ #[.string call] 9)) kR b (λ_=>?_);refine zV 1 (.iface 182 (.agg #[.iface T v])) rfl (λW h=>rfl) b ?_;refine zV 0 (.string call) rfl (λW h=>by have c:=Y h 0;simp at c;clear h;go_simp) b ?_;refine zq 2 λK hK=>?_;go_simp;refine(qL6 T v _).mono ?_;rintro e f ⟨rfl,a⟩;have d:=a.heap (k:=B) b sM;have i:=a.heap (k:=E) p sM;have l:=((Kp.refl [E] w).drew).tr a;have r:=l.size;clear a;refine zk hK d ?_
 refine zU 3 (.agg #[.string call,.iface T v]) d ?_;refine zq 4 λK hK=>?_;go_simp;refine hK.out _ _ (ν _ d) (λ_=>?_)
 try simp only[zZ]
 have m:=ν (ϲ #[.string call,.iface T v] 246) d;have g:=ν (ϲ #[.string call,.iface T v] 246) i;have j:=μ f (ϲ #[.string call,.iface T v] 246);have q:=l.alloc (ϲ #[.string call,.iface T v] 246);refine zU 5 (.iface 243 (ϖ f.heap.size)) m ?_;generalize f.alloc (ϲ #[.string call,.iface T v] 246)=W3 at *;have:=U j;have:=U i;have n:=Y g 0;simp at n;have:=ρ g 0;refine zq 6 λK hK=>?_;go_simp;refine hK.out _ _ ((AM o _ _).trans m) (λ_=>?_);refine zd ?_;exact⟨rfl,_,rfl,_,results_none results167 _ _ _,rfl,rfl,f.heap.size,r,(AM oM _ _).trans j,ξ g 0 _,q.sc _⟩
def shr{α:Type}{R:α->Prop}{G:Prop}(h:∃a,R a/\(R a->G)):G:=h.elim λ_ h=>h.2 h.1
def hid{p:Prop}(h:p):Hid p:=h
def thT(k:Int):TypeId:=if k<1000 then 45 else 330
def thv(k:Int):Value:=if k<1000 then .int .i64 k else .pointer (some ⟨(k-1000).toNat,0,none⟩)
def KY(k:Int):Value:=.iface 182 (.agg #[.iface (thT k) (thv k)])
def Iw{k:Int}(h:k<1000):thT k=45/\thv k=.int .i64 k:=⟨if_pos h,if_pos h⟩
def Iv(b:Nat):thT (1000+b)=330/\thv (1000+b)=ϖ b:=by
 have h:¬(1000+(b:Int)<1000):=oM
 refine⟨if_neg h,(if_neg h).trans ?_⟩;rw[show(1000+(b:Int)-1000).toNat=b by omega]
def Al:Option Int→Ending
 | none=>.returned (.tuple #[])
 | some k=>.panicked [{ v:=KY k,recovered:=false }]
def ErrV(w:World)(v:Value):Option Int→Prop
 | none=>v=.nilIface
 | some k=>∃F call,v=.iface 243 (.pointer (some ⟨F,0,none⟩))∧w.heap[F]?=some (.cells #[.string call,.iface (thT k) (thv k)] 246)
def MA(w:Ϣ)(a:Ϧ):((w.alloc (ϲ #[ϕ a] 9)).alloc (ϲ #[.nilIface] 38)).heap[w.heap.size+1]?=some (ϲ #[.nilIface] 38)/\((w.alloc (ϲ #[ϕ a] 9)).alloc (ϲ #[.nilIface] 38)).heap[w.heap.size]?=some (ϲ #[ϕ a] 9):=
 ⟨by simpa using μ (w.alloc (ϲ #[.string a] 9)) (ϲ #[.nilIface] 38),ν _ (μ _ _)⟩
def Jh(f:Nat)(cap)(call)(w)(R:ϩ->ϯ)(S)(n:∀i,i∈S->i<w.heap.size)(y:∀W:Ϣ,Sem.run prog (callFunc f cap) W=.ok (.enter f cap) W)
  (o:Calls prog f cap ((w.alloc (ϲ #[ϕ call] 9)).alloc (ϲ #[.nilIface] 38)) λe w'=>∃k,e=Al k/\R k w'/\Kp S ((w.alloc (ϲ #[ϕ call] 9)).alloc (ϲ #[.nilIface] 38)) w'):
  Ω 107 #[ϕ call,.func (.func f) #[] cap] w λe w'=>∃k v a,e=ϱ v/\ErrV w' v k/\(∀F,v=.iface 243 (ϖ F)->w.heap.size<=F)/\R k a/\a.heap[w.heap.size+1]?=some (ϲ #[.nilIface] 38)/\Kp S w a/\Kp [w.heap.size+1] a w':=by
 have:=zM;have l:=zh o;have j:=zh n;clear o n
 go_enter_defers func107,ntmps107
 go_wp2_with fail;refine(show Calls _ _ _ _ _ from l).mono ?_;rintro e a ⟨k,rfl,m,hK⟩;have d:=hK.heap (MA w call).1 (λh=>by have:=j.out _ h;omega);have p:=hK.heap (MA w call).2 (λh=>by have:=j.out _ h;omega);have g:=(((Kp.refl S w).alloc _).alloc _).trans hK (λi h _=>h);have b:=zh (n3 m d g);have:=g.size;clear m hK g l
 cases k with
 | none=>
  simp only[Al];have c:=Y d 0;simp at c;have:=ρ d 0;go_wp2;refine leaves_cons (f:=167) (args:=#[ϖ w.heap.size,ϖ (w.heap.size+1)]) sM (by simp[go_sem]) ?_;refine(SE (ϰ w.heap.size 0) (ϰ (w.heap.size+1) 0) _).mono ?_;rintro e t z ⟨rfl,rfl,rfl⟩;refine⟨.nilIface,by simp[settle,results,results107,go_sem,c],none,.nilIface,a,rfl,rfl,λF h=>(by cases h),b.1,b.2.1,b.2.2,(Kp.refl _ _).sc _⟩
 | some k=>
  simp only[Al,KY];go_wp2;refine leaves_cons (f:=167) (args:=#[ϖ w.heap.size,ϖ (w.heap.size+1)]) sM (by simp[go_sem]) ?_;refine(SF w.heap.size (w.heap.size+1) _ _ call _ p oM d).mono ?_;rintro e t A ⟨rfl,rfl,F,x,r,q,s⟩;have c:=Y q 0;simp at c;refine⟨.iface 243 (ϖ F),by simp[settle,results,results107,go_sem,c],some k,.iface 243 (ϖ F),a,rfl,⟨F,call,rfl,r⟩,λu h=>(by cases h;omega),b.1,b.2.1,b.2.2,s⟩
variable {κ:Nat}
def qD7(l)(i:Nat)(b)(h:i*128+b.length<=l.length):(Ap l i b).length=l.length:=by simp[Ap];omega
def Si(l)(i:Nat)(b)(a:b.length=128)(h:i*128+128<=l.length):τ (Ap l i b) i=b:=by
 unfold τ Ap;rw[aA,List.drop_append_of_le_length sO,dL sO,nA,List.take_append_of_le_length oM,tL oM]
def SN(args)(W):Sem.run prog (callFunc 138 args) W=.ok (.enter 138 args) W:=by
 simp[go_sem,func138]
def Vh(d:Nat)(W):Sem.run prog (Op.equalIn (d+1) 85 (ϗ none) (ϗ none)) W=.ok true W:=by
 simp[Op.equalIn,run_underlying underlying85]
def UU(V:Nat)(w):
  Ω 92 #[.agg #[ϖ V,ϕ ⟨#[]⟩,ϊ 0,.int .u64 0,ϗ none]] w λe w'=>e=ϱ (ϐ true)/\Kp [] w w':=by
 have:∀W:World,Sem.run prog (Op.equalIn 9999 85 (ϗ none) (ϗ none)) W=.ok true W:=λW=>Vh 9998 W;go_enter func92,ntmps92;go_wp2;go_ret;exact⟨rfl,kF.alloc _⟩
def Tj(V:Nat)(w):
  Ω 144 #[.agg #[ϖ V,ϕ ⟨#[]⟩,ϊ 0,.int .u64 0,ϗ none]] w λe w'=>e=ϱ (ϊ 0)/\Kp [] w w':=by
 go_enter func144,ntmps144;go_wp2_with fail;refine mR (UU V _) ?_;rintro f a;have d:f.heap[w.heap.size+1]?=some (ϲ #[ϖ V,ϊ 0,.string { data:=#[] }] 293):=a.heap (by
  simpa using(μ (w.alloc (ϲ #[ϖ V,.string { data:=#[] },ϊ 0,.int .u64 0,ϗ none] 89)) (ϲ #[ϖ V,ϊ 0,.string { data:=#[] }] 293))) sM
 have c:=(((Kp.refl [] w).alloc _).alloc _).tr a;have b:=Y d 1;simp at b;go_wp2;go_ret;exact⟨rfl,c⟩
variable {κ:Nat}
structure Sto where
 V:Nat
 M:Nat
 N:Int
 rb:Int
 rs:Int
 bl:Int
 po:Bool
 bg:Int
 wr:Int
def η(lk:Int)(s:Sto):Obj:=
 .cells #[.int .i32 lk,.int .u32 0,.pointer (some ⟨s.V,0,none⟩),.int .u64 s.N,.int .i64 s.rb,.int .u64 s.rs,.int .i64 s.bl,.bool s.po,.int .u64 s.bg,.int .u64 s.wr,.map (some s.M)] 169
def Ll(V A n:Nat)(w)(b:w.heap[V]?=some (CR A n)):
  Ω 121 #[ϖ V] w λe w'=>e=ϱ (ϊ n)/\w'=w:=by
 have a:=Y b 1;simp at a;go_enter func121,ntmps121;go_wp2;go_ret;exact⟨rfl,rfl⟩
variable {κ:Nat}
def SO(args)(W):Sem.run prog (callFunc 143 args) W=.ok (.enter 143 args) W:=by
 simp[go_sem,func143]
section
open Go.RowKit Go.Extern.Stop Go.Stop Go.Extern
def Bd:Value:=.iface 220 (.agg #[.pointer (some ⟨5,38,none⟩)])
def Mf(t)(w):(ReflectliteValue.unpack (.iface 95 (ϗ (some t)))).run prog w
  = .ok (.agg #[ϗ (some (ϰ 5 95)),ϖ w.heap.size,.int .u64 150]) (w.alloc (ϲ #[ϗ (some t)] 95)):=kR
def Mc(a)(w):(ReflectliteValue.methodAny (ReflectliteValue.valueError "reflectlite.Value.Type" 0) (λt _ _ _=>ReflectliteType.toType t) #[.agg #[ϗ (some (ϰ 5 95)),ϗ (some a),.int .u64 150]]).run prog w
  = .ok (.iface 220 (.agg #[ϗ (some (ϰ 5 95))])) w:=kR
def LY(h)(w):(Go.method 513 220 (.agg #[h]) "Kind").run prog w=.ok (322,h) w:=kR
def LT(w):((ReflectliteType.abiMethod λt=>Functor.map (λa:Nat=>Value.int .u8 (a:Int)) (Rtype.kind t)) #[ϗ (some (ϰ 5 95))]).run prog w=.ok (.int .u8 22) w:=kR
def LR(w):((ReflectliteType.abiMethod λt=>Functor.map (λa:Nat=>Value.int .u8 (a:Int)) (Rtype.kind t)) #[ϗ (some (ϰ 5 45))]).run prog w=.ok (.int .u8 2) w:=kR
def Ma(a)(w):(ReflectliteValue.parts (.agg #[ϗ (some (ϰ 5 95)),ϗ (some a),.int .u64 150])).run prog w=.ok (some (95,a,150)) w:=kR
def LQ(a p)(W)(b:W.cell? a=some (ϗ (some p))):
  (ReflectliteValue.method (ReflectliteValue.valueError "reflectlite.Value.IsNil" 0) ReflectliteValue.isNil #[.agg #[ϗ (some (ϰ 5 95)),ϗ (some a),.int .u64 150]]).run prog W=.ok (ϐ false) W:=by
 show Sem.run prog (Bind.bind (ReflectliteValue.parts (.agg #[ϗ (some (ϰ 5 95)),ϗ (some a),.int .u64 150])) _) W=_;simp only[Sem.run_bind,Ma,Result.andThen];simp[ReflectliteValue.isNil,loadVar,isAgg,underlying,underlying95,b,Result.andThen]
def LV(h)(w):(Go.method 513 220 (.agg #[h]) "Elem").run prog w=.ok (344,.agg #[h]) w:=kR
def LW(h)(w):(Go.method 513 220 (.agg #[h]) "Implements").run prog w=.ok (345,.agg #[h]) w:=kR
def LU(h)(w):(Go.method 513 220 (.agg #[h]) "AssignableTo").run prog w=.ok (342,.agg #[h]) w:=kR
def GO(p)(w):(Go.method 513 243 (ϗ (some p)) "Unwrap").run prog w=.ok (353,ϗ (some p)) w:=kR
def LN(w):(ReflectliteType.method ReflectliteType.elem #[.agg #[ϗ (some (ϰ 5 95))]]).run prog w=.ok (.iface 220 (.agg #[ϗ (some (ϰ 5 45))])) w:=kR
def LP(w):(ReflectliteType.relation "Implements" ReflectliteType.implements_ #[.agg #[ϗ (some (ϰ 5 45))],.iface 220 (.agg #[ϗ (some (ϰ 5 38))])]).run prog w=.ok (ϐ true) w:=kR
def Md(v)(w):(ReflectliteType.typeOf #[.iface 243 v]).run prog w=.ok (.iface 220 (.agg #[ϗ (some (ϰ 5 243))])) w:=kR
def GP(v)(w):(ReflectliteType.typeOf #[.iface 45 v]).run prog w=.ok (.iface 220 (.agg #[ϗ (some (ϰ 5 45))])) w:=kR
def LK(w):(ReflectliteType.relation "AssignableTo" ReflectliteType.assignableTo #[.agg #[ϗ (some (ϰ 5 243))],.iface 220 (.agg #[ϗ (some (ϰ 5 45))])]).run prog w=.ok (ϐ false) w:=kR
def LI(w):(ReflectliteType.relation "AssignableTo" ReflectliteType.assignableTo #[.agg #[ϗ (some (ϰ 5 45))],.iface 220 (.agg #[ϗ (some (ϰ 5 45))])]).run prog w=.ok (ϐ true) w:=kR
def Mg(k:Int)(w):(ReflectliteValue.unpack (.iface 45 (ϊ k))).run prog w
  = .ok (.agg #[ϗ (some (ϰ 5 45)),ϖ w.heap.size,.int .u64 130]) (w.alloc (ϲ #[ϊ k] 45)):=kR
def RF(w):(Rtype.elem? 95).run prog w=.ok (some 45) w:=kR
def RG(p)(w):(ReflectliteValue.mk 45 p ReflectliteValue.flagAddr).run prog w=.ok (.agg #[ϗ (some (ϰ 5 45)),ϗ (some p),.int .u64 386]) w:=kR
def LO(a p)(W)(b:W.cell? a=some (ϗ (some p))):
  (ReflectliteValue.method (ReflectliteValue.valueError "reflectlite.Value.Elem" 0) ReflectliteValue.elem #[.agg #[ϗ (some (ϰ 5 95)),ϗ (some a),.int .u64 150]]).run prog W
   = .ok (.agg #[ϗ (some (ϰ 5 45)),ϗ (some p),.int .u64 386]) W:=by
 show Sem.run prog (Bind.bind (ReflectliteValue.parts (.agg #[ϗ (some (ϰ 5 95)),ϗ (some a),.int .u64 150])) _) W=_;simp only[Sem.run_bind,Ma,Result.andThen];simp[ReflectliteValue.elem,loadVar,isAgg,underlying,underlying95,b,Result.andThen,RF,RG]
def RH(a)(w):(ReflectliteValue.parts (.agg #[ϗ (some (ϰ 5 45)),ϗ (some a),.int .u64 386])).run prog w=.ok (some (45,a,386)) w:=kR
def RI(a)(w):(ReflectliteValue.parts (.agg #[ϗ (some (ϰ 5 45)),ϗ (some a),.int .u64 130])).run prog w=.ok (some (45,a,130)) w:=kR
def RE(w):(Rtype.directlyAssignable 45 45).run prog w=.ok true w:=kR
def Mb(ta b)(k:Int)(old)(W)(a:W.cell? b=some (ϊ k))(d:W.cell? ta=some old)(c:W.frozen? ta=false):
  (ReflectliteValue.set #[.agg #[ϗ (some (ϰ 5 45)),ϗ (some ta),.int .u64 386],.agg #[ϗ (some (ϰ 5 45)),ϗ (some b),.int .u64 130]]).run prog W
   = .ok (.tuple #[]) (W.setCell ta (ϊ k)):=by
 show Sem.run prog (Bind.bind (ReflectliteValue.parts (.agg #[ϗ (some (ϰ 5 45)),ϗ (some ta),.int .u64 386])) λq=>Bind.bind (ReflectliteValue.parts (.agg #[ϗ (some (ϰ 5 45)),ϗ (some b),.int .u64 130])) _) W=_;simp only[Sem.run_bind,RH,RI,Result.andThen];simp[ReflectliteValue.flagAddr,loadVar,isAgg,underlying,underlying45,a,Result.andThen,RE,storeVar,Value.cells,storeCells,Addr.add];rw[run_store prog W ta _ _ (by rfl)];simp[d,c]
end
def ψ(l:HL):Nat:=11+l.key.size
def PY(p)(w)(a:ζ p<=1000):
  Ω 340 #[.agg #[ϕ p.k,ϕ p.v]] w λe w'=>e=ϱ (ϊ (ζ p))/\Kp [] w w':=by
 unfold ζ at a;go_enter func340,ntmps340;go_wp2;go_ret;exact⟨BV (by unfold ζ;omega),kF.alloc _⟩
def PX(p)(w)(a:ψ p<=1000):
  Ω 334 #[.agg #[ϕ p.key,ϊ p.b,.int .u64 p.s,ϗ p.ptr]] w λe w'=>e=ϱ (ϊ (ψ p))/\Kp [] w w':=by
 unfold ψ at a;go_enter func334,ntmps334;go_wp2;go_ret;exact⟨BV (by unfold ψ;omega),kF.alloc _⟩
def Ya(p:KV)(w:Ϣ):
  Ω 339 #[.agg #[ϕ p.k,ϕ p.v]] w λe w'=>e=ϱ (ϕ p.k)/\Kp [] w w':=by
 go_enter func339,ntmps339;go_wp2;go_ret;exact⟨rfl,kF.alloc _⟩
def XZ(p:HL)(w:Ϣ):
  Ω 333 #[.agg #[ϕ p.key,ϊ p.b,.int .u64 p.s,ϗ p.ptr]] w λe w'=>e=ϱ (ϕ p.key)/\Kp [] w w':=by
 go_enter func333,ntmps333;go_wp2;go_ret;exact⟨rfl,kF.alloc _⟩
def CA{α:Type}(f:α->Nat)(l:List α)(j:Nat)(h:j<l.length):qM2 f (l.take (j+1))=qM2 f (l.take j)+f l[j]:=by
 rw[tA h,AL,Au,AJ];omega
def Dc{α:Type}(f:α->Nat)(l:List α)(j:Nat):qM2 f (l.take j)<=qM2 f l:=by
 have:=Da f l j;omega
def Yd(v)(ps)(w)(k:Slc w 185 2 v ps.length (Aa ps))(M:ps.length<=1000000)(q:∀p∈ps,ζ p<=1000)(L:qM2 ζ ps<=1000000):
  Ω 272 #[v] w λe w'=>e=ϱ (ϊ (qM2 ζ ps))/\Kp [] w w':=by
 obtain⟨m,n,a⟩:∃m n,v=.slice m ps.length n:=by
  rcases k.val with⟨B,b,c,d,_⟩|⟨g,l,cap,cur,A,d,_⟩
  .rw[B];exact⟨b,c,d⟩
  .exact⟨_,cap,d⟩
 subst a;have t:=zh k;have u:=zh q;clear k q;go_enter func272,ntmps272;go_wp2
 go_loopw [3,8] (λs i wr=>∃(j:Nat),j<=ps.length/\i=.int .i64 j/\s=.int .i64 (qM2 ζ (ps.take j):Nat)/\Kp [] w wr) (λ_ i _=>ps.length-(intOf i).toNat)
 case atStart=>exact⟨0,zL _,rfl,rfl,Kp.refl _ _⟩
 case round=>
  obtain⟨j,K,rfl,rfl,hK⟩:=hrel;by_cases h:j<ps.length
  .let⟨H,l,G,cur,A,a,I,E,o⟩:=t.out.pair oM;let⟨c0,z⟩:=o j h;simp only[vJ,true_and]at a;obtain⟨rfl,rfl⟩:=a;have f:=hK.hp E;have x:=Y f (l+j*2);rw[c0]at x;have y:=Y f (l+j*2+1);rw[z]at y;have:=U f;have:(j:Int)<(ps.length:Int):=oM
   have F:=u.out ps[j] (gM h);have:=Dc ζ ps j;have r:=zh (CA ζ ps j h);clear o;go_wp2_with fail;refine(PY ps[j] _ F).mono ?_;rintro e N ⟨rfl,C⟩;have D:=((hK.alloc _)).tr C;go_wp2;refine⟨⟨j+1,oM,by go_num,by rw[r.out];go_num,D⟩,by simp[intOf];omega⟩
  .have:¬(j:Int)<(ps.length:Int):=oM
   go_wp2;go_ret;exact⟨BV (by rw[tL oM]),hK⟩
def Yc(v)(ps)(w)(l:Slc w 87 4 v ps.length (Ag ps))(Q:ps.length<=1000000)(q:∀p∈ps,ψ p<=1000)(P:qM2 ψ ps<=1000000):
  Ω 276 #[v] w λe w'=>e=ϱ (ϊ (qM2 ψ ps))/\Kp [] w w':=by
 obtain⟨m,n,f⟩:∃m n,v=.slice m ps.length n:=by
  rcases l.val with⟨F,b,c,h,_⟩|⟨g,d,cap,cur,E,h,_⟩
  .rw[F];exact⟨b,c,h⟩
  .exact⟨_,cap,h⟩
 subst f;have t:=zh l;have u:=zh q;clear l q;go_enter func276,ntmps276;go_wp2
 go_loopw [3,8] (λs i wr=>∃(j:Nat),j<=ps.length/\i=.int .i64 j/\s=.int .i64 (qM2 ψ (ps.take j):Nat)/\Kp [] w wr) (λ_ i _=>ps.length-(intOf i).toNat)
 case atStart=>exact⟨0,zL _,rfl,rfl,Kp.refl _ _⟩
 case round=>
  obtain⟨j,O,rfl,rfl,hK⟩:=hrel;by_cases k:j<ps.length
  .let⟨M,d,L,cur,E,f,N,I,o⟩:=t.out.link oM;let⟨c0,B,C,D⟩:=o j k;simp only[vJ,true_and]at f;obtain⟨rfl,rfl⟩:=f;have a:=hK.hp I;have x:=Y a (d+j*4);rw[c0]at x;have y:=Y a (d+j*4+1);rw[B]at y;have z:=Y a (d+j*4+2);rw[C]at z;have A:=Y a (d+j*4+3);rw[D]at A;have:=U a;have:(j:Int)<(ps.length:Int):=oM
   have K:=u.out ps[j] (gM k);have:=Dc ψ ps j;have r:=zh (CA ψ ps j k);clear o;go_wp2_with fail;refine(PX ps[j] _ K).mono ?_;rintro e R ⟨rfl,G⟩;have H:=((hK.alloc _)).tr G;go_wp2;refine⟨⟨j+1,oM,by go_num,by rw[r.out];go_num,H⟩,by simp[intOf];omega⟩
  .have:¬(j:Int)<(ps.length:Int):=oM
   go_wp2;go_ret;exact⟨BV (by rw[tL oM]),hK⟩
def Jy{α:Type}(f:α->Ϩ)(sz:Nat)(a:∀x,(f x).length=sz):∀(l:List α)(i:Nat),(l.take i).flatMap f=(l.flatMap f).take (i*sz)
 | [],i=>by simp
 | x::l,0=>by simp
 | x::l,i+1=>by
  rw[List.take_succ_cons,fC,fC,Jy f sz a l i,List.take_append];rw[tL (l:=f x) (by rw[a,Nat.succ_mul];omega),a,show(i+1)*sz-sz=i*sz by rw[Nat.succ_mul];omega]
def Jv{α:Type}(f:α->Ϩ)(sz:Nat)(a:∀x,(f x).length=sz):∀(l:List α)(i:Nat),(l.drop i).flatMap f=(l.flatMap f).drop (i*sz)
 | [],i=>by simp
 | x::l,0=>by simp
 | x::l,i+1=>by
  rw[List.drop_succ_cons,fC,Jv f sz a l i,List.drop_append];rw[dL (l:=f x) (by rw[a,Nat.succ_mul];omega),a,show(i+1)*sz-sz=i*sz by rw[Nat.succ_mul];omega];simp
def Pv(ps)(i:Nat):Aa (ps.take i)=(Aa ps).take (i*2):=Jy pcs 2 (λ_=>rfl) ps i
def Ps(ps)(i:Nat):Aa (ps.drop i)=(Aa ps).drop (i*2):=Jv pcs 2 (λ_=>rfl) ps i
def Ou(ps)(i:Nat):Ag (ps.take i)=(Ag ps).take (i*4):=Jy lcs 4 (λ_=>rfl) ps i
def Oq(ps)(i:Nat):Ag (ps.drop i)=(Ag ps).drop (i*4):=Jv lcs 4 (λ_=>rfl) ps i
def Eg{w}{T}{sz g b n:Nat}{cur}{fr}{cs:Ϩ}(k:w.heap[g]?=some (ϲ cur T fr))(f:∀j u,cs[j]?=some u->cur[b+j]?=some u)(h:cs.length=n*sz)(i m c:Nat)(l:i+m<=n)(e:m<=c):
  Slc w T sz (.slice (some (ϰ g (b+i*sz))) m c) m ((cs.drop (i*sz)).take (m*sz)):=by
 refine⟨?_,?_⟩
 .rw[lK,lD,h,<-Nat.mul_sub_right_distrib];have:=Nat.mul_le_mul_right sz (show m<=n-i by omega);omega
 .by_cases d:m=0
  .subst d;exact .inl ⟨rfl,_,_,rfl,sM⟩
  .refine .inr ⟨g,b+i*sz,c,cur,fr,rfl,oM,e,k,λj u a=>?_⟩;rw[List.getElem?_take]at a;split at a
   .rw[List.getElem?_drop]at a;rw[Nat.add_assoc];exact f _ _ a
   .cases a
def MR{α:Type}(f:α->Nat)(a:Nat)(l:List α)(j n:Nat)(h:j<l.length)(b:2*n<a):Bs f a (l.drop j) n=Bs f a (l.drop (j+1)) (n+f l[j])+1:=by
 rw[dG h];simp[Bs,b]
def MP{α:Type}(f:α->Nat)(a:Nat)(l:List α)(n:Nat)(b:¬2*n<a):Bs f a l n=0:=by
 cases l with
 | nil=>rfl
 | cons x l=>simp[Bs,b]
def GH(w:Ϣ)(T:Ϯ)(sz:Nat)(vs:Ϩ)(a:List (Nat×Ϩ)):Prop:=vs.length=a.length/\∀i (h:i<a.length) (h':i<vs.length),Slc w T sz vs[i] a[i].1 a[i].2
def QE{p:Prop}(_h:p:=by
 have hjn:¬cp=j:=oM;have hji:(j:Int)<=(ps.length:Int):=oM;have c8:(j:Int)<=(cp:Int):=oM;have hncp:(ps.length:Int)<=(cp:Int):=oM;refine wp_region_any kR ?_;change wpAny _ _ _ _ _ _ _ (World.drew _);refine zu 0 (.slice (some (ϰ gb off)) ps.length cp) ?_;refine zu 1 (ϊ j) ?_;refine zu 2 (ϊ j) ?_;refine zu 3 (.slice (some (ϰ gb off)) j j) ?_;refine zu 4 (.slice (some (ϰ gb off)) ps.length cp) ?_;refine zu 5 (ϊ j) ?_;exact Tz.out):p:=_h
def Wz(v)(ps)(w)(hs:Slc w 185 2 v ps.length (Aa ps))(hn:ps.length<=1000000)(hz:∀p∈ps,ζ p<=21)(hm:qM2 ζ ps<=1000000):
  Ω 241 #[v] w λe w'=>∃g vs,e=ϱ (.slice (some (ϰ g 0)) (Aq ζ ps).length (Aq ζ ps).length)/\w'.heap[g]?=some (ϲ vs.toArray 186)/\GH w 185 2 vs ((Aq ζ ps).map λl=>(l.length,Aa l))/\Kp [] w w':=by
 obtain⟨bs,cp,hv⟩:∃bs cp,v=.slice bs ps.length cp:=by
  rcases hs.val with⟨h0,b,c,h1,_⟩|⟨g,off,cap,cur,fr,h1,_⟩
  .rw[h0];exact⟨b,c,h1⟩
  .exact⟨_,cap,h1⟩
 subst hv;have a:=zh hs;have d:=zh hz;clear hs hz;go_enter func241,ntmps241;go_wp2_with fail;refine(Yd _ ps w a hn (λp hp=>lT (d p hp) oM) hm).mono ?_;rintro e w1 ⟨rfl,hK1⟩;by_cases hfit:qM2 ζ ps<=126
 .have hb:((qM2 ζ ps:Nat):Int)<=126:=oM
  go_wp2;go_ret;have hK2:Kp [] w (w1.alloc (ϲ #[.slice bs ps.length cp] 186)):=hK1.alloc _;have e:Aq ζ ps=[ps]:=by unfold Aq;rw[if_pos hfit]
  rw[e];refine⟨w1.heap.size,[.slice bs ps.length cp],rfl,μ _ _,⟨rfl,λi h1 h2=>?_⟩,hK2⟩;have:i=0:=by simp at h1;omega
  subst this;exact a
 .have hb:¬((qM2 ζ ps:Nat):Int)<=126:=oM
  have hne:1<=ps.length:=by
   cases ps with
   | nil=>simp[qM2]at hfit
   | cons x l=>simp
  let⟨gb,off,I,cur,fr,hv,hcp,hrow,hcur⟩:=a.out.pair hne;simp only[vJ,true_and]at hv;obtain⟨rfl,rfl⟩:=hv;go_wp2
  go_loopw [4,5] (λs q wr=>∃(j:Nat),j<=ps.length/\s=.int .i64 j/\q=.int .i64 (qM2 ζ (ps.take j):Nat)/\Bs ζ (qM2 ζ ps) ps 0=Bs ζ (qM2 ζ ps) (ps.drop j) (qM2 ζ (ps.take j))+j/\Kp [] w wr) (λs _ _=>ps.length-(intOf s).toNat)
  case atStart=>exact⟨0,zL _,rfl,rfl,by simp[qM2],hK1⟩
  case round=>
   obtain⟨j,F,rfl,rfl,t,hK⟩:=hrel;have m:=zh t;clear t;have N:=Dc ζ ps j;by_cases f:2*qM2 ζ (ps.take j)<qM2 ζ ps
   .have aa:j<ps.length:=by
     by_cases h:j<ps.length
     .exact h
     .rw[tL oM]at f;omega
    let⟨c0,c1⟩:=hcur j aa;have hR:=hK.hp hrow;have a0:=Y hR (off+j*2);rw[c0]at a0;have a1:=Y hR (off+j*2+1);rw[c1]at a1;have ak:=U hR;have am:(j:Int)<(ps.length:Int):=oM
    have E:2*((qM2 ζ (ps.take j):Nat):Int)<((qM2 ζ ps:Nat):Int):=oM
    have ch:=d.out ps[j] (gM aa);have o:=zh (CA ζ ps j aa);have bc:=zh (MR ζ _ ps j _ aa f);clear hcur;go_wp2_with fail;refine(PY ps[j] _ oM).mono ?_;rintro e w2 ⟨rfl,hK2⟩;have D:=hK.tr hK2;go_wp2;refine⟨⟨j+1,oM,by go_num,by rw[o.out];go_num,?_,D⟩,by simp[intOf];omega⟩;rw[m.out,bc.out,o.out];omega
   .have E:¬2*((qM2 ζ (ps.take j):Nat):Int)<((qM2 ζ ps:Nat):Int):=oM
    have c8:Bs ζ (qM2 ζ ps) ps 0=j:=by rw[m.out,MP _ _ _ _ f];omega
    have n:=zh c8;clear c8;go_wp2_with fail;have hjl:j<ps.length:=by
     have z:=GV ζ (qM2 ζ ps) 21 ps 0 d oM oM;rw[n.out]at z;by_cases h:j<ps.length
     .exact h
     .rw[tL oM]at z;omega
    have Tz:Hid (∀{p:Prop},(_h:p:=by
     refine zu 6 (.slice (some (ϰ gb (off+j*2))) (ps.length-j) (cp-j)) ?_;have C:=hK;refine zQ 7 λK hK=>?_;go_simp;obtain⟨w2,hw2,B,hK2⟩:∃w2,w2=(wr.alloc (ϲ #[.slice (some (ϰ gb off)) j j,.slice (some (ϰ gb (off+j*2))) (ps.length-j) (cp-j)] 186)).drew/\Ϙ w2 wr.heap.size (ϲ #[.slice (some (ϰ gb off)) j j,.slice (some (ϰ gb (off+j*2))) (ps.length-j) (cp-j)] 186)/\Kp [] w w2:=⟨_,rfl,μ _ _,(C.alloc _).drew⟩;rw[<-hw2];clear hw2;refine hK _ _ ?_
     try simp only[zZ]
     refine zQ 8 λK hK=>?_;go_simp;refine hK _ _ ?_;refine wpAny_done kR ?_ _;go_wp2;go_ret;have e:Aq ζ ps=[ps.take j,ps.drop j]:=by unfold Aq;rw[if_neg hfit,n.out]
     rw[e];let⟨y,G⟩:=a.out;have c5:∀k u,(Aa ps)[k]?=some u->cur[off+k]?=some u:=by
      rcases G with⟨h0,_⟩|⟨g',O,H,L,M,h1,_,_,r,A⟩
      .omega
      .simp only[vJ,Option.some.injEq,Addr.mk.injEq]at h1;obtain⟨⟨rfl,rfl,_⟩,_,_⟩:=h1;rw[hrow]at r;cases r;exact A
     refine⟨wr.heap.size,[.slice (some (ϰ gb off)) j j,.slice (some (ϰ gb (off+j*2))) (ps.length-j) (cp-j)],rfl,B,⟨rfl,λi h1 h2=>?_⟩,hK2⟩;have hi:i=0\/i=1:=by simp at h1;omega
     rcases hi with rfl|rfl
     .have:=Eg (T:=185) (sz:=2) hrow c5 y 0 j j oM lR;simp only[Nat.zero_mul,Nat.add_zero,dZ]at this;rw[<-Pv]at this;simpa [Nat.min_eq_left F] using this
     .have:=Eg (T:=185) (sz:=2) hrow c5 y j (ps.length-j) (cp-j) oM oM;rw[<-Ps,tL (by rw[DO];simp)]at this;simpa using this)->p):=λh=>h;exact QE
def Wy(v)(ps)(w)(hs:Slc w 87 4 v ps.length (Ag ps))(hn:ps.length<=1000000)(hz:∀p∈ps,ψ p<=21)(hm:qM2 ψ ps<=1000000):
  Ω 258 #[v] w λe w'=>∃g vs,e=ϱ (.slice (some (ϰ g 0)) (Aq ψ ps).length (Aq ψ ps).length)/\w'.heap[g]?=some (ϲ vs.toArray 156)/\GH w 87 4 vs ((Aq ψ ps).map λl=>(l.length,Ag l))/\Kp [] w w':=by
 obtain⟨bs,cp,hv⟩:∃bs cp,v=.slice bs ps.length cp:=by
  rcases hs.val with⟨h0,b,c,h1,_⟩|⟨g,off,cap,cur,fr,h1,_⟩
  .rw[h0];exact⟨b,c,h1⟩
  .exact⟨_,cap,h1⟩
 subst hv;have a:=zh hs;have d:=zh hz;clear hs hz;go_enter func258,ntmps258;go_wp2_with fail;refine(Yc _ ps w a hn (λp hp=>lT (d p hp) oM) hm).mono ?_;rintro e w1 ⟨rfl,hK1⟩;by_cases hfit:qM2 ψ ps<=126
 .have hb:((qM2 ψ ps:Nat):Int)<=126:=oM
  go_wp2;go_ret;have hK2:Kp [] w (w1.alloc (ϲ #[.slice bs ps.length cp] 156)):=hK1.alloc _;have e:Aq ψ ps=[ps]:=by unfold Aq;rw[if_pos hfit]
  rw[e];refine⟨w1.heap.size,[.slice bs ps.length cp],rfl,μ _ _,⟨rfl,λi h1 h2=>?_⟩,hK2⟩;have:i=0:=by simp at h1;omega
  subst this;exact a
 .have hb:¬((qM2 ψ ps:Nat):Int)<=126:=oM
  have hne:1<=ps.length:=by
   cases ps with
   | nil=>simp[qM2]at hfit
   | cons x l=>simp
  let⟨gb,off,I,cur,fr,hv,hcp,hrow,hcur⟩:=a.out.link hne;simp only[vJ,true_and]at hv;obtain⟨rfl,rfl⟩:=hv;go_wp2
  go_loopw [4,5] (λs q wr=>∃(j:Nat),j<=ps.length/\s=.int .i64 j/\q=.int .i64 (qM2 ψ (ps.take j):Nat)/\Bs ψ (qM2 ψ ps) ps 0=Bs ψ (qM2 ψ ps) (ps.drop j) (qM2 ψ (ps.take j))+j/\Kp [] w wr) (λs _ _=>ps.length-(intOf s).toNat)
  case atStart=>exact⟨0,zL _,rfl,rfl,by simp[qM2],hK1⟩
  case round=>
   obtain⟨j,F,rfl,rfl,t,hK⟩:=hrel;have m:=zh t;clear t;have N:=Dc ψ ps j;by_cases f:2*qM2 ψ (ps.take j)<qM2 ψ ps
   .have aa:j<ps.length:=by
     by_cases h:j<ps.length
     .exact h
     .rw[tL oM]at f;omega
    let⟨c0,c1,c2,c3⟩:=hcur j aa;have hR:=hK.hp hrow;have a0:=Y hR (off+j*4);rw[c0]at a0;have a1:=Y hR (off+j*4+1);rw[c1]at a1;have a2:=Y hR (off+j*4+2);rw[c2]at a2;have a3:=Y hR (off+j*4+3);rw[c3]at a3;have ak:=U hR;have am:(j:Int)<(ps.length:Int):=oM
    have E:2*((qM2 ψ (ps.take j):Nat):Int)<((qM2 ψ ps:Nat):Int):=oM
    have ch:=d.out ps[j] (gM aa);have o:=zh (CA ψ ps j aa);have bc:=zh (MR ψ _ ps j _ aa f);clear hcur;go_wp2_with fail;refine(PX ps[j] _ oM).mono ?_;rintro e w2 ⟨rfl,hK2⟩;have D:=hK.tr hK2;go_wp2;refine⟨⟨j+1,oM,by go_num,by rw[o.out];go_num,?_,D⟩,by simp[intOf];omega⟩;rw[m.out,bc.out,o.out];omega
   .have E:¬2*((qM2 ψ (ps.take j):Nat):Int)<((qM2 ψ ps:Nat):Int):=oM
    have c8:Bs ψ (qM2 ψ ps) ps 0=j:=by rw[m.out,MP _ _ _ _ f];omega
    have n:=zh c8;clear c8;go_wp2_with fail;have hjl:j<ps.length:=by
     have z:=GV ψ (qM2 ψ ps) 21 ps 0 d oM oM;rw[n.out]at z;by_cases h:j<ps.length
     .exact h
     .rw[tL oM]at z;omega
    have Tz:Hid (∀{p:Prop},(_h:p:=by
     refine zu 6 (.slice (some (ϰ gb (off+j*4))) (ps.length-j) (cp-j)) ?_;have C:=hK;refine zQ 7 λK hK=>?_;go_simp;obtain⟨w2,hw2,B,hK2⟩:∃w2,w2=(wr.alloc (ϲ #[.slice (some (ϰ gb off)) j j,.slice (some (ϰ gb (off+j*4))) (ps.length-j) (cp-j)] 156)).drew/\Ϙ w2 wr.heap.size (ϲ #[.slice (some (ϰ gb off)) j j,.slice (some (ϰ gb (off+j*4))) (ps.length-j) (cp-j)] 156)/\Kp [] w w2:=⟨_,rfl,μ _ _,(C.alloc _).drew⟩;rw[<-hw2];clear hw2;refine hK _ _ ?_
     try simp only[zZ]
     refine zQ 8 λK hK=>?_;go_simp;refine hK _ _ ?_;refine wpAny_done kR ?_ _;go_wp2;go_ret;have e:Aq ψ ps=[ps.take j,ps.drop j]:=by unfold Aq;rw[if_neg hfit,n.out]
     rw[e];let⟨y,G⟩:=a.out;have c5:∀k u,(Ag ps)[k]?=some u->cur[off+k]?=some u:=by
      rcases G with⟨h0,_⟩|⟨g',O,H,L,M,h1,_,_,r,A⟩
      .omega
      .simp only[vJ,Option.some.injEq,Addr.mk.injEq]at h1;obtain⟨⟨rfl,rfl,_⟩,_,_⟩:=h1;rw[hrow]at r;cases r;exact A
     refine⟨wr.heap.size,[.slice (some (ϰ gb off)) j j,.slice (some (ϰ gb (off+j*4))) (ps.length-j) (cp-j)],rfl,B,⟨rfl,λi h1 h2=>?_⟩,hK2⟩;have hi:i=0\/i=1:=by simp at h1;omega
     rcases hi with rfl|rfl
     .have:=Eg (T:=87) (sz:=4) hrow c5 y 0 j j oM lR;simp only[Nat.zero_mul,Nat.add_zero,dZ]at this;rw[<-Ou]at this;simpa [Nat.min_eq_left F] using this
     .have:=Eg (T:=87) (sz:=4) hrow c5 y j (ps.length-j) (cp-j) oM oM;rw[<-Oq,tL (by rw[JY];simp)]at this;simpa using this)->p):=λh=>h;exact QE
def Cm{w}{base:Nat}{T}{sz:Nat}{v}{n:Nat}{xs:Ϩ}(h:w.ownsRow base T sz v n xs):Slc w T sz v n xs:=by
 refine⟨h.1,?_⟩;rcases h.2 with⟨a,c⟩|⟨g,cap,cur,a,c,e,f,k,l,i⟩
 .exact .inl ⟨c,_,_,a,λ_=>rfl⟩
 .by_cases d:n=0
  .subst d;exact .inl ⟨rfl,_,_,a,sM⟩
  .refine .inr ⟨g,0,cap,cur,(0,0),a,oM,f,e,λj u b=>?_⟩;rw[<-i,List.getElem?_take]at b;split at b
   .simpa using b
   .cases b
def Slc.form{w}{T}{sz:Nat}{v}{n:Nat}{cs:Ϩ}(h:Slc w T sz v n cs):∃b m c,v=.slice b m c:=by
 rcases h.val with⟨_,b,c,a,_⟩|⟨g,e,cap,cur,d,a,_⟩
 .exact⟨b,0,c,a⟩
 .exact⟨_,_,cap,a⟩
def AG{α:Type}(low:α→ByteArray)(key:ByteArray):List (List α)→List (ByteArray×List α)
 | []=>[]
 | a::rest=>(key,a)::rest.map fun b=>((b.head?.map low).getD ⟨#[]⟩,b)
def DK{α:Type}(low:α->Ϧ)(key)(l:List (List α)):(AG low key l).length=l.length:=by
 cases l<;>simp[AG]
def Hm{α:Type}{low:α->Ϧ}{key}{l:List (List α)}{i:Nat}(h:i<l.length):(AG low key l)[i]?=some (if i=0 then key else(l[i].head?.map low).getD ⟨#[]⟩,l[i]):=by
 cases l with
 | nil=>simp at h
 | cons a r=>
  cases i with
  | zero=>simp[AG]
  | succ i=>
   have b:i<r.length:=by simpa using h
   simp[AG,gQ b]
def MkL{α:Type}(T:Ϯ)(sz:Nat)(C:List α->Ϩ)(a:Value->Obj)(b w:Ϣ)(h:HL)(x:Ϧ×List α):Prop:=
 h.key=x.1/\h.b=0/\h.s=0/\∃q v,h.p=some q/\w.heap[q]?=some (a v)/\Slc b T sz v x.2.length (C x.2)
def Ds{w w':Ϣ}{base:Nat}{T:Ϯ}{sz:Nat}{v:Value}{n:Nat}{xs:Ϩ}{o:Obj}{k:Nat}{c:ϧ}{t:Ϯ}{d:Nat×Nat}(h:w.ownsRow base T sz v n xs)(j:(w.alloc o).grownBy w' v.ownBlock)(b:w.heap[k]?=some (ϲ c t d))(l:t≠T):w'.heap[k]?=some (ϲ c t d):=by
 have f:=ν o b;refine(j.block k (U f) ?_).trans f;intro e;rcases h.2 with⟨a,_⟩|⟨g,cap,cur,a,m,i,_⟩
 .rw[a]at e;cases e
 .rw[a]at e;have e:k=g:=by simpa [Value.ownBlock] using e
  rw[e,i]at b;cases b;exact l rfl
def MkL.grown{α:Type}{T}{sz:Nat}{C:List α->Ϩ}{a:Value->Obj}{w0 w w'}{h}{x:Ϧ×List α}(m:MkL T sz C a w0 w h x)(n:∀v,∃c,a v=ϲ c 213)(l:∀(k:Nat)(c),w.heap[k]?=some (ϲ c 213)->w'.heap[k]?=some (ϲ c 213)):MkL T sz C a w0 w' h x:=by
 let⟨e,f,g,q,v,i,b,j⟩:=m;let⟨c,d⟩:=n v;rw[d]at b;exact⟨e,f,g,q,v,i,by rw[d];exact l q c b,j⟩
def Ky{w w'}{base:Nat}{T}{sz:Nat}{v}{n:Nat}{xs:Ϩ}(h:w.ownsRow base T sz v n xs)(hK:Kp [] w w'):w'.ownsRow base T sz v n xs:=by
 refine⟨h.1,?_⟩;rcases h.2 with a|⟨g,cap,cur,b,c,d,e⟩
 .exact .inl a
 .exact .inr ⟨g,cap,cur,b,c,hK.hp d,e⟩
def EY:(prog.info? 87).map (λi=>(i.zero,i.size,i.bytes))=some (some (.agg #[ϕ ⟨#[]⟩,ϊ 0,.int .u64 0,ϗ none]),4,40):=kR
def JI:(prog.info? 185).map (λi=>(i.zero,i.size,i.bytes))=some (some (.agg #[ϕ ⟨#[]⟩,ϕ ⟨#[]⟩]),2,32):=kR
def Ot(hs)(h):Ag (hs++[h])=Ag hs++lcs h:=by simp[Ag]
def Ji{w:Ϣ}{cs:Ϩ}{T:Ϯ}:∀j u,cs[j]?=some u->(w.alloc (ϲ cs.toArray T)).cell? (((ϰ w.heap.size 0):Addr).add j)=some u:=by
 intro j u a;rw[Br,Nat.zero_add,Y (μ _ _)];simpa using a
def zS3{p:Prop}(_h:p:=by
 have hk1:k'=kj:=by rw[ce,if_pos al];exact c9 al
 subst hk1;clear ce c9 b9 hne;subst al;go_wp2_with fail;refine(HM wr vj bj.out hvj.form).mono ?_;rintro e W1 ⟨q,rfl,hq1,au⟩;have ap:=Ky ax au;have hsz:=Nat.le_trans bj.out.size au.size;have HQ:=zh hq1;clear hq1;go_wp2_with (at_builtin;refine wpList_append_own _ rfl _ _ 156 rfl w.heap.size 87 i0 _ 4 40 underlying156 hi ch ci cj rfl dC _ _ _ rfl (ap.alloc _) (ϰ W1.heap.size 0) 1 1 [.string k',ϊ 0,.int .u64 0,ϖ q] rfl rfl Ji (by simp[Value.oneCell']) (by unfold maxLen;omega) oM sO ?_;intro v1 w2 ao aj _);exact⟨aq W1 w2 q _ v1 _ 1 oM HQ au ap ao aj,by simp[intOf];omega⟩):p:=_h
def QQ{p:Prop}(_h:p:=by
 have am:(j:Int)<(hv.length:Int):=oM;have hvj:=ac.out j aa oM;have h0:=Y bi j;rw[zG,List.getElem?_eq_getElem (show j<vs.length by omega)]at h0;have hghs:=U bi;have hne:0<j->1<=hv[j].length:=λh=>by
  rcases be hv[j] (List.getElem_mem aa) with h1|h1<;>omega
 exact Tz.out):p:=_h
def UF(g:Nat)(cap)(f:Value->Obj)(key)(v)(ps)(w)(hs:Slc w 185 2 v ps.length (Aa ps))(hn:ps.length<=1000000)(hz:∀p∈ps,ζ p<=21)(hm:qM2 ζ ps<=210)
  (ad:ϴ g) (L:∀v,∃c,f v=ϲ c 213)
  (K:∀W x,Kp [] w W->(∃b n c,x=.slice b n c)->Calls prog g (#[x]++cap) W λe W'=>∃q,e=ϱ (ϖ q)/\W'.heap[q]?=some (f x)/\Kp [] W W'):
  Ω 181 #[ϕ key,v,.func (.func g) #[] cap] w λe w'=>∃v',e=ϱ v'/\∃hs,w'.ownsRow w.heap.size 87 4 v' (Aq ζ ps).length (Ag hs)/\hs.length=(Aq ζ ps).length/\(∀i (h:i<hs.length) (d:i<(AG KV.k key (Aq ζ ps)).length),MkL 185 2 Aa f w w' hs[i] (AG KV.k key (Aq ζ ps))[i])/\Kp [] w w':=by
 let⟨i0,hi,ch,ci,cj⟩:=info_parts EY;have HM:=zh K;have be:Hid (∀l∈Aq ζ ps,(Aq ζ ps).length=1\/3<=l.length):=by
  rcases Hi ζ ps hz hm with⟨e,_⟩|⟨a,b,e,_,_,_,h1,h2⟩
  .show ∀l∈Aq ζ ps,_;rw[e];intro l _;exact .inl rfl
  .show ∀l∈Aq ζ ps,_;rw[e];intro l I;simp only[List.mem_cons,List.not_mem_nil,or_false]at I;rcases I with rfl|rfl
   .exact .inr h1
   .exact .inr h2
 have V:(Aq ζ ps).length<=2:=by unfold Aq;split<;>simp
 clear K;go_enter func181,ntmps181;go_wp2_with fail;refine(Wz v ps w hs hn hz oM).mono ?_;rintro e w1 ⟨C,vs,rfl,D,hS1,hK1⟩;let⟨M,B⟩:=hS1;let⟨hv,A⟩:=eY (Aq ζ ps);have r:=zh A;rw[A]at M B V be |-;clear A;rw[List.length_map]at M;have ac:Hid (∀i (h:i<hv.length) (d:i<vs.length),Slc w 185 2 vs[i] hv[i].length (Aa hv[i])):=λi h d=>by
  have:=B i (by simpa using h) d;simpa using this
 clear B;have P:=zh hK1;have HB:=zh hK1.size;have O:=zh D;clear hK1 hs D;go_wp2
 go_loopw [0,7,13] (λk s i wr=>∃(j:Nat)(hs:List HL)(k':ByteArray),j<=hv.length/\i=.int .i64 j/\k=.string k'/\(j=0->k'=key)/\hs.length=j/\wr.ownsRow w.heap.size 87 4 s j (Ag hs)/\Hid (∀i (h:i<hs.length) (d:i<(AG KV.k key hv).length),MkL 185 2 Aa f w wr hs[i] (AG KV.k key hv)[i])/\Hid (Kp [] w wr)/\Ϙ wr C (ϲ vs.toArray 186)) (λ_ _ i _=>hv.length-(intOf i).toNat)
 case atStart=>exact⟨0,[],key,Nat.zero_le _,rfl,rfl,λ_=>rfl,rfl,World.ownsRow_nil _ _ _ _,(λi h=>by simp at h:∀i (h:i<[].length) (d:i<(AG KV.k key hv).length),_),P,O⟩
 case round=>
  obtain⟨j,hs,k',hj,rfl,rfl,c9,hsl,ax,z,bj,bi⟩:=hrel;by_cases aa:j<hv.length
  .have Tz:Hid (∀{p:Prop},(_h:p:=by
    let⟨kj,ce⟩:=eX (if j=0 then key else(hv[j].head?.map KV.k).getD ⟨#[]⟩)
    have t:(AG KV.k key hv)[j]?=some (kj,hv[j]):=by rw[Hm aa,ce]
    let⟨vj,b9⟩:=eY (vs[j]);rw[b9]at hvj h0;have aq:Hid (∀(W1 w2:World)(q:Nat)(s v1:Value)(o:Obj)(x:Int),x=(j:Int)+1->Ϙ W1 q (f vj)->Kp [] wr W1->W1.ownsRow w.heap.size 87 4 s j (Ag hs)->w2.ownsRow w.heap.size 87 4 v1 (j+1) (Ag hs++[.string kj,ϊ 0,.int .u64 0,ϖ q])->(W1.alloc o).grownBy w2 s.ownBlock->
      ∃(m:Nat)(hs':List HL)(k'':ByteArray),m<=hv.length/\Value.int .i64 x=.int .i64 m/\Value.string kj=.string k''/\(m=0->k''=key)/\hs'.length=m/\w2.ownsRow w.heap.size 87 4 v1 m (Ag hs')/\Hid (∀i (h:i<hs'.length) (d:i<(AG KV.k key hv).length),MkL 185 2 Aa f w w2 hs'[i] (AG KV.k key hv)[i])/\Hid (Kp [] w w2)/\Ϙ w2 C (ϲ vs.toArray 186)):=by
     show ∀(W1 w2:World)(q:Nat)(s v1:Value)(o:Obj)(x:Int),_;intro W1 w2 q s v1 o x X hq u hown1 hrow hg;have G:∀(k:Nat)(c:Array Value),Ϙ W1 k (ϲ c 213)->Ϙ w2 k (ϲ c 213):=λk c hk=>Ds hown1 hg hk dC;let⟨cn,F⟩:=L vj;have hq2:Ϙ w2 q (f vj):=by rw[F];rw[F]at hq;exact G q cn hq
     have S:=λi h d=>
      (z.out i h d).grown L λk c hk=>G k c (u.hp hk)
     refine⟨j+1,hs++[⟨kj,0,0,some q⟩],kj,oM,by rw[X];go_num,rfl,oM,by simp[hsl],by rw[Ot];exact hrow,?_,((bj.out.tr u).alloc o).grown hg (λk hk=>Or.inr (qN3 hown1 k hk)),Ds hown1 hg (u.hp bi) dC⟩;show ∀i (h:i<(hs++[(⟨kj,0,0,some q⟩:HL)]).length) (d:i<(AG KV.k key hv).length),_;intro i h1 d;by_cases hi:i<hs.length
     .rw[List.getElem_append_left hi];exact S i hi d
     .have T:i=j:=by simp at h1;omega
      subst T;have e:(AG KV.k key hv)[i]=(kj,hv[i]):=by
       rw[List.getElem?_eq_getElem d]at t;exact Option.some.inj t
      rw[e,List.getElem_append_right oM];simp only[hsl,Nat.sub_self,List.getElem_singleton];exact⟨rfl,rfl,rfl,q,vj,rfl,hq2,hvj⟩
    clear t z;by_cases al:j=0
    .exact zS3
    .have a2:(0:Int)<(j:Int):=oM
     obtain⟨gb,N,Z,cur,fr,rfl,hcp,hrow,hcur⟩:=hvj.pair (hne oM);let⟨c0,c1⟩:=hcur 0 (hne oM);have hR:=bj.out.hp hrow;have a0:wr.cell? (ϰ gb N)=some _:=(Y hR _).trans (by simpa using c0);have a1:wr.cell? (ϰ gb (N+1))=some _:=(Y hR _).trans (by simpa using c1);have H:kj=KV.k (hv[j][0]'(hne oM)):=by
      rw[ce,if_neg al];rw[List.head?_eq_getElem?,List.getElem?_eq_getElem (hne oM)];rfl
     have ak:=U hR;have a3:(0:Int)<(hv[j].length:Int):=by have:=hne oM;omega
     have Q:=zh H;clear ce c9 b9 hcur H;go_wp2_with fail;refine(Ya (hv[j][0]'(hne oM)) _).mono ?_;rintro e R ⟨rfl,E⟩;rw[show(hv[j][0]'(hne oM)).k=kj from Q.out.symm];go_wp2_with fail;refine(HM R _ (bj.out.tr E) ⟨_,_,_,rfl⟩).mono ?_;rintro e W1 ⟨q,rfl,hq1,au⟩;have y:=E.tr au;have ap:=Ky ax y;have hsz:=Nat.le_trans bj.out.size y.size;have HQ:=zh hq1;clear hq1
     go_wp2_with (at_builtin;refine wpList_append_own _ rfl _ _ 156 rfl w.heap.size 87 i0 _ 4 40 underlying156 hi ch ci cj rfl dC _ _ _ rfl (ap.alloc _) (ϰ W1.heap.size 0) 1 1 [.string kj,ϊ 0,.int .u64 0,ϖ q] rfl rfl Ji (by simp[Value.oneCell']) (by unfold maxLen;omega) oM sO ?_;intro v1 w2 ao aj _)
     exact⟨aq W1 w2 q _ v1 _ _ rfl HQ y ap ao aj,by simp[intOf];omega⟩)->p):=λh=>h;exact QQ
  .have am:¬(j:Int)<(hv.length:Int):=oM
   go_wp2;go_ret;have e:j=hv.length:=oM
   subst e;exact⟨_,rfl,hs,by rw[r.out];exact ax,by rw[r.out];exact hsl,by rw[r.out];exact z.out,bj.out⟩
def UE(g:Nat)(cap)(f:Value->Obj)(key)(v)(ps)(w)(hs:Slc w 87 4 v ps.length (Ag ps))(hn:ps.length<=1000000)(hz:∀p∈ps,ψ p<=21)(hm:qM2 ψ ps<=210)
  (ad:ϴ g) (M:∀v,∃c,f v=ϲ c 213)
  (L:∀W x,Kp [] w W->(∃b n c,x=.slice b n c)->Calls prog g (#[x]++cap) W λe W'=>∃q,e=ϱ (ϖ q)/\W'.heap[q]?=some (f x)/\Kp [] W W'):
  Ω 223 #[ϕ key,v,.func (.func g) #[] cap] w λe w'=>∃v',e=ϱ v'/\∃hs,w'.ownsRow w.heap.size 87 4 v' (Aq ψ ps).length (Ag hs)/\hs.length=(Aq ψ ps).length/\(∀i (h:i<hs.length) (d:i<(AG HL.key key (Aq ψ ps)).length),MkL 87 4 Ag f w w' hs[i] (AG HL.key key (Aq ψ ps))[i])/\Kp [] w w':=by
 let⟨i0,hi,ch,ci,cj⟩:=info_parts EY;have HM:=zh L;have be:Hid (∀l∈Aq ψ ps,(Aq ψ ps).length=1\/3<=l.length):=by
  rcases Hi ψ ps hz hm with⟨e,_⟩|⟨a,b,e,_,_,_,h1,h2⟩
  .show ∀l∈Aq ψ ps,_;rw[e];intro l _;exact .inl rfl
  .show ∀l∈Aq ψ ps,_;rw[e];intro l K;simp only[List.mem_cons,List.not_mem_nil,or_false]at K;rcases K with rfl|rfl
   .exact .inr h1
   .exact .inr h2
 have V:(Aq ψ ps).length<=2:=by unfold Aq;split<;>simp
 clear L;go_enter func223,ntmps223;go_wp2_with fail;refine(Wy v ps w hs hn hz oM).mono ?_;rintro e w1 ⟨D,vs,rfl,E,hS1,hK1⟩;let⟨N,C⟩:=hS1;let⟨hv,B⟩:=eY (Aq ψ ps);have t:=zh B;rw[B]at N C V be |-;clear B;rw[List.length_map]at N;have ac:Hid (∀i (h:i<hv.length) (d:i<vs.length),Slc w 87 4 vs[i] hv[i].length (Ag hv[i])):=λi h d=>by
  have:=C i (by simpa using h) d;simpa using this
 clear C;have P:=zh hK1;have HB:=zh hK1.size;have O:=zh E;clear hK1 hs E;go_wp2
 go_loopw [0,7,13] (λk s i wr=>∃(j:Nat)(hs:List HL)(k':ByteArray),j<=hv.length/\i=.int .i64 j/\k=.string k'/\(j=0->k'=key)/\hs.length=j/\wr.ownsRow w.heap.size 87 4 s j (Ag hs)/\Hid (∀i (h:i<hs.length) (d:i<(AG HL.key key hv).length),MkL 87 4 Ag f w wr hs[i] (AG HL.key key hv)[i])/\Hid (Kp [] w wr)/\Ϙ wr D (ϲ vs.toArray 156)) (λ_ _ i _=>hv.length-(intOf i).toNat)
 case atStart=>exact⟨0,[],key,Nat.zero_le _,rfl,rfl,λ_=>rfl,rfl,World.ownsRow_nil _ _ _ _,(λi h=>by simp at h:∀i (h:i<[].length) (d:i<(AG HL.key key hv).length),_),P,O⟩
 case round=>
  obtain⟨j,hs,k',hj,rfl,rfl,c9,hsl,ax,A,bj,bi⟩:=hrel;by_cases aa:j<hv.length
  .have Tz:Hid (∀{p:Prop},(_h:p:=by
    let⟨kj,ce⟩:=eX (if j=0 then key else(hv[j].head?.map HL.key).getD ⟨#[]⟩)
    have u:(AG HL.key key hv)[j]?=some (kj,hv[j]):=by rw[Hm aa,ce]
    let⟨vj,b9⟩:=eY (vs[j]);rw[b9]at hvj h0;have aq:Hid (∀(W1 w2:World)(q:Nat)(s v1:Value)(o:Obj)(x:Int),x=(j:Int)+1->Ϙ W1 q (f vj)->Kp [] wr W1->W1.ownsRow w.heap.size 87 4 s j (Ag hs)->w2.ownsRow w.heap.size 87 4 v1 (j+1) (Ag hs++[.string kj,ϊ 0,.int .u64 0,ϖ q])->(W1.alloc o).grownBy w2 s.ownBlock->
      ∃(m:Nat)(hs':List HL)(k'':ByteArray),m<=hv.length/\Value.int .i64 x=.int .i64 m/\Value.string kj=.string k''/\(m=0->k''=key)/\hs'.length=m/\w2.ownsRow w.heap.size 87 4 v1 m (Ag hs')/\Hid (∀i (h:i<hs'.length) (d:i<(AG HL.key key hv).length),MkL 87 4 Ag f w w2 hs'[i] (AG HL.key key hv)[i])/\Hid (Kp [] w w2)/\Ϙ w2 D (ϲ vs.toArray 156)):=by
     show ∀(W1 w2:World)(q:Nat)(s v1:Value)(o:Obj)(x:Int),_;intro W1 w2 q s v1 o x X hq y hown1 hrow hg;have H:∀(k:Nat)(c:Array Value),Ϙ W1 k (ϲ c 213)->Ϙ w2 k (ϲ c 213):=λk c hk=>Ds hown1 hg hk dC;let⟨cn,G⟩:=M vj;have hq2:Ϙ w2 q (f vj):=by rw[G];rw[G]at hq;exact H q cn hq
     have S:=λi h d=>
      (A.out i h d).grown M λk c hk=>H k c (y.hp hk)
     refine⟨j+1,hs++[⟨kj,0,0,some q⟩],kj,oM,by rw[X];go_num,rfl,oM,by simp[hsl],by rw[Ot];exact hrow,?_,((bj.out.tr y).alloc o).grown hg (λk hk=>Or.inr (qN3 hown1 k hk)),Ds hown1 hg (y.hp bi) dC⟩;show ∀i (h:i<(hs++[(⟨kj,0,0,some q⟩:HL)]).length) (d:i<(AG HL.key key hv).length),_;intro i h1 d;by_cases hi:i<hs.length
     .rw[List.getElem_append_left hi];exact S i hi d
     .have T:i=j:=by simp at h1;omega
      subst T;have e:(AG HL.key key hv)[i]=(kj,hv[i]):=by
       rw[List.getElem?_eq_getElem d]at u;exact Option.some.inj u
      rw[e,List.getElem_append_right oM];simp only[hsl,Nat.sub_self,List.getElem_singleton];exact⟨rfl,rfl,rfl,q,vj,rfl,hq2,hvj⟩
    clear u A;by_cases al:j=0
    .exact zS3
    .have a4:(0:Int)<(j:Int):=oM
     obtain⟨gb,r,Z,cur,fr,rfl,hcp,hrow,hcur⟩:=hvj.link (hne oM);let⟨c0,c1,c2,c3⟩:=hcur 0 (hne oM);have hR:=bj.out.hp hrow;have a0:wr.cell? (ϰ gb r)=some _:=(Y hR _).trans (by simpa using c0);have a1:wr.cell? (ϰ gb (r+1))=some _:=(Y hR _).trans (by simpa using c1);have a2:wr.cell? (ϰ gb (r+2))=some _:=(Y hR _).trans (by simpa using c2);have a3:wr.cell? (ϰ gb (r+3))=some _:=(Y hR _).trans (by simpa using c3);have I:kj=HL.key (hv[j][0]'(hne oM)):=by
      rw[ce,if_neg al];rw[List.head?_eq_getElem?,List.getElem?_eq_getElem (hne oM)];rfl
     have ak:=U hR;have a5:(0:Int)<(hv[j].length:Int):=by have:=hne oM;omega
     have Q:=zh I;clear ce c9 b9 hcur I;go_wp2_with fail;refine(XZ (hv[j][0]'(hne oM)) _).mono ?_;rintro e R ⟨rfl,F⟩;rw[show(hv[j][0]'(hne oM)).key=kj from Q.out.symm];go_wp2_with fail;refine(HM R _ (bj.out.tr F) ⟨_,_,_,rfl⟩).mono ?_;rintro e W1 ⟨q,rfl,hq1,au⟩;have z:=F.tr au;have ap:=Ky ax z;have hsz:=Nat.le_trans bj.out.size z.size;have HQ:=zh hq1;clear hq1
     go_wp2_with (at_builtin;refine wpList_append_own _ rfl _ _ 156 rfl w.heap.size 87 i0 _ 4 40 underlying156 hi ch ci cj rfl dC _ _ _ rfl (ap.alloc _) (ϰ W1.heap.size 0) 1 1 [.string kj,ϊ 0,.int .u64 0,ϖ q] rfl rfl Ji (by simp[Value.oneCell']) (by unfold maxLen;omega) oM sO ?_;intro v1 w2 ao aj _)
     exact⟨aq W1 w2 q _ v1 _ _ rfl HQ z ap ao aj,by simp[intOf];omega⟩)->p):=λh=>h;exact QQ
  .have am:¬(j:Int)<(hv.length:Int):=oM
   go_wp2;go_ret;have e:j=hv.length:=oM
   subst e;exact⟨_,rfl,hs,by rw[t.out];exact ax,by rw[t.out];exact hsl,by rw[t.out];exact A.out,bj.out⟩
def Both{α c:Type}(R:α->c->Prop)(a:List α)(b:List c):Prop:=a.length=b.length/\∀i (h:i<a.length) (h':i<b.length),R a[i] b[i]
def Both.mono{α d:Type}{R c:α->d->Prop}{a:List α}{b:List d}(h:Both R a b)(e:∀x y,R x y->c x y):Both c a b:=⟨h.1,λi h1 h2=>e _ _ (h.2 i h1 h2)⟩
def Both.take{α c:Type}{R:α->c->Prop}{a:List α}{b:List c}(h:Both R a b)(k:Nat):Both R (a.take k) (b.take k):=
 ⟨by simp[h.1],λi d e=>by simp[List.getElem_take];exact h.2 i (by simp at d;omega) (by simp at e;omega)⟩
def Both.drop{α c:Type}{R:α->c->Prop}{a:List α}{b:List c}(h:Both R a b)(k:Nat):Both R (a.drop k) (b.drop k):=
 ⟨by simp[h.1],λi d e=>by simp[List.getElem_drop];exact h.2 _ (by simp at d;omega) (by simp at e;omega)⟩
def Both.append{α g:Type}{R:α->g->Prop}{a c:List α}{b d:List g}(h:Both R a b)(e:Both R c d):Both R (a++c) (b++d):=
 ⟨by simp[h.1,e.1],λi j k=>by
  have l:=h.1;by_cases f:i<a.length
  .rw[gL f,gL oM];exact h.2 i f oM
  .rw[gR oM,gR oM];simp[l];exact e.2 _ (by simp at j;omega) (by simp at k;omega)⟩
def Both.map_eq{α c d:Type}{R:α->c->Prop}{a:List α}{b:List c}{f:α->d}{g:c->d}(h:Both R a b)(k:∀x y,R x y->f x=g y):a.map f=b.map g:=by
 refine List.ext_getElem (by simp[h.1]) λi e j=>?_;simp[List.getElem_map];exact k _ _ (h.2 i (sU e) (sU j))
def RLof{X:Type}(N:Nat->X->Prop)(O:Nat->Int->X->Prop)(h:HL)(l:Lnk X):Prop:=
 h.key=l.key/\match l.ref with
  | none=>h.b=0/\h.s=0/\∃q,h.p=some q/\N q l.sub
  | some (b,s)=>h.b=b/\h.s=s/\h.p=none/\O b s l.sub
def LF{X:Type}(N:Nat->X->Prop)(O:Nat->Int->X->Prop)(w:Ϣ)(v:Value)(ls:List (Lnk X)):Prop:=
 ∃a:List HL,Slc w 87 4 v a.length (Ag a)/\Both (RLof N O) a ls
abbrev AS:Type:=(n:Nat)→Nat→Int→Tn n→Prop
def RN(O:AS):(n:Nat)→World→Nat→Tn n→Prop
 | 0,w,q,t=>∃vp,w.heap[q]?=some (Ai 0 vp (.slice none 0 0))∧Slc w 185 2 vp (prs t).length (Aa (prs t))
 | n+1,w,q,t=>∃vl,w.heap[q]?=some (Ai ((n+1:Nat):Int) (.slice none 0 0) vl)∧LF (RN O n w) (O n) w vl (J t)
abbrev RL(O:AS)(n:Nat)(w:World)(h:HL)(l:Lnk (Tn n)):Prop:=RLof (RN O n w) (O n) h l
abbrev RLs(O:AS)(n:Nat)(w:World)(v:Value)(ls:List (Lnk (Tn n))):Prop:=LF (RN O n w) (O n) w v ls
def RLof.mono{X:Type}{N f:Nat->X->Prop}{O g:Nat->Int->X->Prop}{h}{l:Lnk X}(i:RLof N O h l)(j:∀q,N q l.sub->f q l.sub)(k:∀b s,O b s l.sub->g b s l.sub):RLof f g h l:=by
 refine⟨i.1,?_⟩;have:=i.2
 cases hl:l.ref with
 | none=>
  rw[hl]at this;let⟨a,c,q,d,e⟩:=this;exact⟨a,c,q,d,j q e⟩
 | some x=>
  rw[hl]at this;let⟨a,c,d,e⟩:=this;exact⟨a,c,d,k _ _ e⟩
def Bi:List TypeId:=[213,185,87]
def Apt.sub{w}{S}{a b:List Ϯ}(h:Apt w S a)(d:∀t∈b,t∈a):Apt w S b:=λk hk c t fr e hm=>h k hk c t fr e (d t hm)
def RN.qM3{O:AS}{S}{w w'}(hK:Kp S w w')(b:Apt w S Bi):∀(n:Nat)(q:Nat)(t),RN O n w q t->RN O n w' q t
 | 0,q,t,h=>by
  let⟨i,a,c⟩:=h;exact⟨i,hK.heap a (λd=>b q d _ _ _ a dC),c.qM3 hK (b.sub dC)⟩
 | n+1,q,t,h=>by
  let⟨g,a,f,c,e⟩:=h;exact⟨g,hK.heap a (λd=>b q d _ _ _ a dC),f,c.qM3 hK (b.sub dC),e.mono λx y hr=>hr.mono (λq hq=>RN.qM3 hK b n q _ hq) (λ_ _ h=>h)⟩
def RLs.qM3{O:AS}{S}{w w'}{n:Nat}{v}{ls}(h:RLs O n w v ls)(hK:Kp S w w')(a:Apt w S Bi):RLs O n w' v ls:=by
 let⟨e,b,c⟩:=h;exact⟨e,b.qM3 hK (a.sub dC),c.mono λx y d=>d.mono (λq hq=>RN.qM3 hK a n q _ hq) (λ_ _ h=>h)⟩
def RL.qM3{O:AS}{S}{w w'}{n:Nat}{h}{l}(c:RL O n w h l)(hK:Kp S w w')(a:Apt w S Bi):RL O n w' h l:=c.mono (λq b=>RN.qM3 hK a n q _ b) (λ_ _ h=>h)
def Cf:Array Value:=#[.string ⟨#[]⟩,.int .i64 0,.int .u64 0,.pointer none]
def IG(w:Ϣ)(S:Ϥ):Prop:=∀k∈S,∀c t fr,w.heap[k]?=some (ϲ c t fr)->t∉Bi\/(t=87/\c=Cf)
def Sn{α d:Type}{R:α->d->Prop}{a:List α}{b:List d}(h:Both R a b)(c:1<=a.length):R (a[0]'c) (b[0]'(by rw[<-h.1];exact c)):=h.2 0 _ _
def qB4{X:Type}{N:Nat->X->Prop}{O:Nat->Int->X->Prop}(F:∀(b:Nat)(s:Int)(t:X),O b s t->1<=b){S}{w w'}(hK:Kp S w w')(B:IG w S){v}{hs}{ls:List (Lnk X)}(h:Slc w 87 4 v hs.length (Ag hs))(o:Both (RLof N O) hs ls):Slc w' 87 4 v hs.length (Ag hs):=by
 refine⟨h.len,?_⟩;rcases h.val with h|⟨g,m,cap,cur,y,z,d,A,n,e⟩
 .exact .inl h
 .refine .inr ⟨g,m,cap,cur,y,z,d,A,hK.heap n (λC=>?_),e⟩;rcases B g C _ _ _ n with l|⟨_,l⟩
  .exact l dC
  .let⟨p,r,_,u⟩:=Fe (ls:=hs) (i:=0) d;have a:=e _ _ p;have f:=e _ _ r;have j:=e _ _ u;rw[l]at a f j;have D:m=0:=by
    match m,a with
    | 0,_=>rfl
    | 1,a=>simp[Cf]at a
    | 2,a=>simp[Cf]at a
    | 3,a=>simp[Cf]at a
    | k+4,a=>simp[Cf]at a
   subst D;simp[Cf]at f j;let⟨_,c⟩:=Sn o d
   cases hl:(ls[0]'(by rw[<-o.1];exact d)).ref with
   | none=>
    rw[hl]at c;let⟨_,_,q,E,_⟩:=c;simp[HL.ptr,E]at j
   | some x=>
    rw[hl]at c;have:=F _ _ _ c.2.2.2;rw[c.1]at f;omega
def RN.qS5{O:AS}(r:∀(n b:Nat)(s:Int)(t),O n b s t->1<=b){S}{w w'}(hK:Kp S w w')(j:IG w S):∀(n:Nat)(q:Nat)(t),RN O n w q t->RN O n w' q t
 | 0,q,t,h=>by
  let⟨E,f,i⟩:=h;have o:∀(k:Nat)(c:Array Value)(t:TypeId)(d:Nat×Nat),Ϙ w k (ϲ c t d)->t∈Bi->t≠87->k∉S:=λk c t d e ht hne l=>by
   rcases j k l c t d e with a|⟨a,_⟩
   .exact a ht
   .exact hne a
  refine⟨E,hK.heap f (o q _ _ _ f dC dC),i.len,?_⟩;rcases i.val with h|⟨g,C,cap,cur,d,v,z,A,p,B⟩
  .exact .inl h
  .exact .inr ⟨g,C,cap,cur,d,v,z,A,hK.heap p (o g _ _ _ p dC dC),B⟩
 | n+1,q,t,h=>by
  let⟨D,f,u,i,m⟩:=h;refine⟨D,hK.heap f (λl=>?_),u,qB4 (r n) hK j i m,m.mono λx y hr=>hr.mono (λq hq=>RN.qS5 r hK j n q _ hq) (λ_ _ h=>h)⟩;rcases j q l _ _ _ f with a|⟨a,_⟩
  .exact a dC
  .cases a
def OK{α:Type}(low:α->Ϧ)(key)(l:List (List α)):(links low key l).length=l.length:=by
 cases l<;>simp[links]
def OJ{α:Type}(low:α->Ϧ)(key)(l:List (List α)):links low key l=(AG low key l).map λx=>⟨x.1,none,x.2⟩:=by
 cases l<;>simp[links,AG]
def XO(x)(w)(a:∃b n c,x=.slice b n c):
  Ω 182 #[x] w λe w'=>∃q,e=ϱ (ϖ q)/\w'.heap[q]?=some (Ai 0 x (.slice none 0 0))/\Kp [] w w':=by
 obtain⟨b,n,c,rfl⟩:=a;go_enter func182,ntmps182;go_wp2;go_ret;exact⟨w.heap.size,rfl,μ _ _,kF.alloc _⟩
def Sr(x)(L:Nat)(d:Int)(w)(f:∃b n c,x=.slice b n c)(a:w.heap[L]?=some (ϲ #[ϊ d] 3)):
  Ω 224 #[x,ϖ L] w λe w'=>∃q,e=ϱ (ϖ q)/\w'.heap[q]?=some (Ai d (.slice none 0 0) x)/\Kp [] w w':=by
 obtain⟨b,n,c,rfl⟩:=f;have:=U a;have:=ϻ a 0;go_enter func224,ntmps224;go_wp2;go_ret;exact⟨w.heap.size,rfl,μ _ _,kF.alloc _⟩
def FX(O:AS)(key)(v)(ps)(w)(n:Slc w 185 2 v ps.length (Aa ps))(l:ps.length<=1000000)(r:∀p∈ps,ζ p<=21)(k:qM2 ζ ps<=210):
  Ω 117 #[ϕ key,v] w λe w'=>∃a,e=ϱ a/\RLs O 0 w' a (AI key ps)/\Kp [] w w':=by
 have d:Hid (∀(args:Array Value)(W:World),Sem.run prog (callFunc 182 args) W=.ok (.enter 182 args) W):=λargs W=>by simp[go_sem,func182]
 go_enter func117,ntmps117;go_wp2_with fail;refine(UF 182 #[] (λx=>Ai 0 x (.slice none 0 0)) key v ps w n l r k d (λv=>⟨_,rfl⟩) (λW x _ hx=>XO x W hx)).mono ?_;rintro e C ⟨a,rfl,o,m,c,j,b⟩;go_wp2;go_ret;refine⟨a,rfl,⟨o,by rw[c];exact Cm m,?_⟩,b⟩;have e:AI key ps=(AG KV.k key (Aq ζ ps)).map λx=>(⟨x.1,none,x.2⟩:Lnk (Tn 0)):=OJ _ _ _;refine⟨by rw[c,e,List.length_map,DK],λi g B=>?_⟩;have h:i<(AG KV.k key (Aq ζ ps)).length:=by rw[DK];omega
 let⟨s,t,u,q,x,y,z,A⟩:=j i g h;have f:(AI key ps)[i]=(⟨(AG KV.k key (Aq ζ ps))[i].1,none,(AG KV.k key (Aq ζ ps))[i].2⟩:Lnk (Tn 0)):=by
  simp only[e];exact List.getElem_map _
 rw[f];exact⟨s,t,u,q,y,x,z,A.qM4 b⟩
def MQ{α d:Type}{f:α->Nat}{g:d->Nat}(c:Nat):∀(a:List α)(b:List d)(n:Nat),a.map f=b.map g->Bs f c a n=Bs g c b n
 | [],[],_,_=>rfl
 | [],_::_,_,h=>by simp at h
 | _::_,[],_,h=>by simp at h
 | x::a,y::b,n,h=>by
  simp[List.map_cons,List.cons.injEq]at h;unfold Bs;rw[h.1,MQ c a b _ h.2]
def OQ{α c:Type}{f:α->Nat}{g:c->Nat}{a:List α}{b:List c}(h:a.map f=b.map g):qM2 f a=qM2 g b:=by unfold qM2;rw[h]
def Sp{O:AS}{n:Nat}{w}{hs}{ls}(h:Both (RL O n w) hs ls):Both (Both (RL O n w)) (Aq ψ hs) (Aq ι ls):=by
 have e:hs.map ψ=ls.map ι:=h.map_eq λx y f=>by unfold ψ ι;rw[f.1]
 have b:=OQ e;have c:Bs ψ (qM2 ψ hs) hs 0=Bs ι (qM2 ι ls) ls 0:=by rw[b];exact MQ _ _ _ _ e
 unfold Aq;rw[c,b];split
 .exact⟨rfl,λi a d=>by
   have:i=0:=by simp at a;omega
   subst this;exact h⟩
 .refine⟨rfl,λi a d=>?_⟩;have:i=0\/i=1:=by simp at a;omega
  rcases this with rfl|rfl
  .exact h.take _
  .exact h.drop _
def Sq{O:AS}{n:Nat}{w}{c:List (List HL)}{d:List (List (Lnk (Tn n)))}(h:Both (Both (RL O n w)) c d)(key):Both (λx y=>x.1=y.1/\Both (RL O n w) x.2 y.2) (AG HL.key key c) (AG Lnk.key key d):=by
 refine⟨by rw[DK,DK,h.1],λi a b=>?_⟩;rw[DK]at a b;have e:=Hm (low:=HL.key) (key:=key) a;have j:=Hm (low:=Lnk.key) (key:=key) b;rw[gQ (by rw[DK];exact a)]at e;rw[gQ (by rw[DK];exact b)]at j;rw[Option.some.inj e,Option.some.inj j];have k:=h.2 i a b;refine⟨?_,k⟩;have l:(c[i].head?.map HL.key)=(d[i].head?.map Lnk.key):=by rw[<-List.head?_map,<-List.head?_map,k.map_eq (f:=HL.key) (g:=Lnk.key) λx y m=>m.1]
 simp[l]
def GR(O:AS)(n:Nat)(d:Int)(z:d=((n+1:Nat):Int))(key)(v)(ls)(w)(f:RLs O n w v ls)(S:ls.length<=1000000)(hz:∀l∈ls,ι l<=21)(Q:qM2 ι ls<=210):
  Ω 160 #[ϕ key,ϊ d,v] w λe w'=>∃g,e=ϱ g/\RLs O (n+1) w' g (AA n key ls)/\Kp [] w w':=by
 have ab:=zM;have C:Hid (∀(args:Array Value)(W:World),Sem.run prog (callFunc 224 args) W=.ok (.enter 224 args) W):=λargs W=>by simp[go_sem,func224]
 let⟨c,X,k⟩:=f;have m:c.map ψ=ls.map ι:=k.map_eq λx y f=>by unfold ψ ι;rw[f.1]
 have aa:∀h∈c,ψ h<=21:=λh hh=>by
  have:ψ h∈c.map ψ:=List.mem_map_of_mem hh;rw[m]at this;let⟨l,P,e⟩:=List.mem_map.1 this;rw[<-e];exact hz l P
 have R:qM2 ψ c<=210:=by rw[OQ m];exact Q
 have T:c.length<=1000000:=by rw[k.1];exact S
 clear m;have D:=zh z;clear z;go_enter func160,ntmps160;go_wp2_with fail;have I:=μ w (ϲ #[ϊ d] 3);have o:Kp [] w (w.alloc (ϲ #[ϊ d] 3)):=kF.alloc _;refine(UE 224 _ (λx=>Ai d (.slice none 0 0) x) key v c _ (X.qM4 o) T aa R C (λv=>⟨_,rfl⟩) ?_).mono ?_
 .intro W x H Z;exact Sr x w.heap.size d W Z (H.hp I)
 rintro e B ⟨g,rfl,A,V,u,K,p⟩;have r:=o.tr p;go_wp2;go_ret;refine⟨g,rfl,⟨A,by rw[u];exact Cm V,?_⟩,r⟩;have e:AA n key ls=(AG Lnk.key key (Aq ι ls)).map λx=>(⟨x.1,none,x.2⟩:Lnk (Tn (n+1))):=OJ _ _ _;have s:=Sq (Sp k) key;have t:=s.1;refine⟨by rw[u,e,List.length_map,<-t,DK],λi F h2=>?_⟩;have j:i<(AG HL.key key (Aq ψ c)).length:=by rw[DK];omega
 have G:i<(AG Lnk.key key (Aq ι ls)).length:=by rw[<-t];exact j
 let⟨k1,k2,k3,q,x,k4,k5,k6⟩:=K i F j;let⟨m1,m2⟩:=s.2 i j G;have E:(AA n key ls)[i]=(⟨(AG Lnk.key key (Aq ι ls))[i].1,none,(AG Lnk.key key (Aq ι ls))[i].2⟩:Lnk (Tn (n+1))):=by
  simp only[e];exact List.getElem_map _
 rw[E];have L:RLs O n B x ((AG Lnk.key key (Aq ι ls))[i].2):=⟨_,k6.qM4 p,m2.mono λa b f=>RL.qM3 f r (Apt.nil _ _)⟩;have M:RN O (n+1) B q ((AG Lnk.key key (Aq ι ls))[i].2):=⟨x,by rw[<-D.out];exact k5,L⟩;have N:A[i].key=(AG Lnk.key key (Aq ι ls))[i].1:=by rw[k1,m1]
 exact⟨N,k2,k3,q,k4,M⟩
def Pt(ps):∀u∈Aa ps,u.oneCell'=true:=by
 intro u a;simp[Aa,pcs,List.mem_flatMap,mC,lN,or_false]at a;obtain⟨p,_,rfl|rfl⟩:=a<;>rfl
def XM(ps):∀u∈Ag ps,u.oneCell'=true:=by
 intro u a;simp[Ag,lcs,List.mem_flatMap,mC,lN,or_false]at a;obtain⟨p,_,rfl|rfl|rfl|rfl⟩:=a<;>rfl
def ZJ(a b):Aa (a++b)=Aa a++Aa b:=by simp[Aa]
def XL(a b):Ag (a++b)=Ag a++Ag b:=by simp[Ag]
def VL{α:Type}(l:List (List α))(j:Nat)(h:j<l.length):(l.take (j+1)).flatten=(l.take j).flatten++l[j]:=by
 rw[tA h,List.flatten_append];simp[List.flatten_cons,List.flatten_nil,aN]
def VM{α:Type}(l:List (List α))(j:Nat):(l.take j).flatten.length<=l.flatten.length:=by
 have h:=congrArg (λl=>l.flatten.length) (tD j l);simp only[List.flatten_append,lA]at h;omega
def CU{α:Type}(l:List (List α))(j:Nat):List α:=(l.take j).flatten
def tot{α:Type}(l:List (List α))(j:Nat):Nat:=(CU l j).length
def Jf{α:Type}(l:List (List α))(j:Nat)(h:j<l.length):CU l (j+1)=CU l j++l[j]:=VL l j h
def Lb{α:Type}(l:List (List α))(j:Nat)(h:j<l.length):tot l (j+1)=tot l j+l[j].length:=by unfold tot;rw[Jf l j h,lA]
def qH8{α:Type}(l:List (List α))(j:Nat):tot l j<=l.flatten.length:=VM l j
def Mz{α:Type}(l:List (List α)):CU l l.length=l.flatten:=by unfold CU;rw[List.take_length]
def IE(z)(n:Nat):(Builtin.zeroCells z n).size=z.size*n:=by
 simp[Builtin.zeroCells,Nat.mul_comm]
def Wv(n:Nat)(w)(o:n<=1000000):
  Ω 259 #[.slice none 0 0,ϊ n] w λe w'=>∃v',e=ϱ v'/\w'.ownsRow w.heap.size 185 2 v' 0 []/\Kp [] w w':=by
 let⟨g,k,l,m,f⟩:=info_parts JI;by_cases i:n=0
 .subst i;go_enter func259,ntmps259;go_wp2;go_ret;exact⟨_,rfl,wN _ _ _ _,Kp.refl _ _⟩
 .have:¬((n:Int)<0):=oM
  have:(0:Int)<(n:Int):=oM
  have d:∀b,(Builtin.append_ #[186,3] b #[ϒ none 0 0,ϊ (n:Int)]).run prog w =
    .ok (ϑ (ϳ w) 0 n (grownCap w n 0 185)) (w.drew.alloc (ϲ (Builtin.zeroCells (Value.agg _).cells n++Builtin.zeroCells (Value.agg _).cells (grownCap w n 0 185-n)) 185)):=λb=>by
   have h:=Lib.run_append_grow_zeros (P:=prog) w 186 3 b 185 g _ .i64 .i64 underlying186 underlying3 k l none 0 0 [] (run_firstCells_none w.drew g.size 0 0 0) n oM (by rw[m];decide) oM oM (by rw[f];omega) (by rw[f];exact growslice_fits oM oM);simpa using h
  have j:n<=grownCap w n 0 185:=grownCap_ge w _ _ _;have a:=grownCap_le_maxLen w n 0 185 (by unfold maxLen;omega);let⟨G,c⟩:=eX (grownCap w n 0 185);rw[<-c]at d j a;have:G<=9223372036854775807:=by unfold maxLen at a;omega
  clear c;go_enter func259,ntmps259
  go_wp2_with (at_builtin;refine Lib.wpList_append_run _ rfl _ _ _ _ rfl _ _ rfl rfl _ _ (d _) ?_)
  go_ret;refine⟨_,rfl,⟨rfl,.inr ⟨ϳ w,G,_,rfl,lR,μ _ _,zL _,a,?_,?_⟩⟩,(kF.drew).alloc _⟩
  .rw[Array.size_append,IE,IE];show 2*n+2*(G-n)=G*2;omega
  .simp
def zS4{p:Prop}(_h:p:=by
 have am:(j:Int)<(an.length:Int):=oM;have hvj:=ac.out j aa oM;have h0:=Y hG j;rw[zG,gQ (show j<vs.length by omega)]at h0;have ak:=U hG;obtain⟨bs,cp,hv⟩:∃bs cp,vs[j]=ϒ bs an[j].length cp:=by
  rcases hvj.val with⟨h0,b,c,h1,_⟩|⟨g,off,cap,cur,fr,h1,_⟩
  .rw[h0];exact⟨b,c,h1⟩
  .exact⟨_,cap,h1⟩
 rw[hv]at h0;have HF:=zh (Lb an j aa);have c7:=hto (j+1);rw[HF.out]at c7;have hnn:¬((tot an j:Nat):Int)+(an[j].length:Int)<0:=oM;clear hvj hv;go_wp2;refine⟨⟨j+1,oM,by go_num,by rw[HF.out];go_num⟩,iO⟩):p:=_h
def QP{p:Prop}(_h:p:=by
 have hall:ps.length=tot an an.length:=by unfold tot;rw[Mz,hps]
 rw[hall]at hn;have HALL:=zh hall;have HPS:Hid (CU an an.length=ps):=by show _=_;rw[Mz,hps]
 have hto:∀j,tot an j<=tot an an.length:=λj=>by rw[<-hall,<-hps];exact qH8 an j
 clear hall hps;exact Tz.out):p:=_h
def MM(q:Nat)(vs:Ϩ)(an:List (List KV))(w)(hG:w.heap[q]?=some (ϲ vs.toArray 186))(hs:GH w 185 2 vs (an.map λl=>(l.length,Aa l)))(ps)(hps:an.flatten=ps)(hn:ps.length<=1000000)(C:an.length<=1000):
  Ω 225 #[.slice (some (ϰ q 0)) an.length an.length] w λe w'=>∃v',e=ϱ v'/\w'.ownsRow w.heap.size 185 2 v' ps.length (Aa ps)/\Kp [] w w':=by
 let⟨i0,hi,ch,ci,cj⟩:=info_parts JI;have D:vs.length=an.length:=by have:=hs.1;rw[List.length_map]at this;exact this
 have ac:Hid (∀i (h:i<an.length) (h':i<vs.length),Slc w 185 2 vs[i] an[i].length (Aa an[i])):=λi h h'=>by
  have:=hs.2 i (sU h) h';simpa using this
 clear hs;have Tz:Hid (∀{p:Prop},(_h:p:=by
  go_enter func225,ntmps225;go_wp2
  go_loop [3,11] (λs i=>∃(j:Nat),j<=an.length/\i=.int .i64 j/\s=.int .i64 (tot an j:Nat)) (λ_ i=>an.length-(intOf i).toNat)
  case atStart=>exact⟨0,zL _,rfl,rfl⟩
  case round=>
   obtain⟨j,A,rfl,rfl⟩:=hrel;have B:=hto j;by_cases aa:j<an.length
   .exact zS4
   .have am:¬(j:Int)<(an.length:Int):=oM
    have e:j=an.length:=oM
    subst e;go_wp2_with fail;apply(Wv _ w hn).mono;rintro e w1 ⟨v1,rfl,hown1,hK1⟩;go_wp2
    go_loopw [6,27] (λs i wr=>∃(j:Nat),j<=an.length/\i=.int .i64 j/\wr.ownsRow (ϳ w) 185 2 s (tot an j) (Aa (CU an j))/\Kp [] w wr) (λ_ i _=>an.length-(intOf i).toNat)
    case atStart=>exact⟨0,zL _,rfl,hown1,hK1⟩
    case round=>
     obtain⟨j,A,rfl,ax,hK⟩:=hrel;by_cases aa:j<an.length
     .have am:(j:Int)<(an.length:Int):=oM
      have hvj:=(ac j aa oM).qM4 hK;have r:=hK.hp hG;have h0:=Y r j;rw[zG,gQ (show j<vs.length by omega)]at h0;have ak:=U r;have n:=zh (Lb an j aa);have HF:Hid (Aa (CU an (j+1))=Aa (CU an j)++Aa an[j]):=by show _=_;rw[Jf an j aa,ZJ]
      have c7:=hto (j+1);rw[n.out]at c7;have hsz:=hK.size;let⟨vj,b9⟩:=eY (vs[j]);rw[b9]at hvj h0;let⟨v,d⟩:=hvj;by_cases m:vj=ϒ none 0 0
      .have t:an[j].length=0:=by
        rcases d with⟨h0,_⟩|⟨g,off,cap,cur,fr,h1,_⟩
        .exact h0
        .rw[m]at h1;cases h1
       subst m;clear d v b9
       go_wp2_with (at_builtin;refine wpList_append_own_none rfl _ _ 186 rfl (ϳ w) 185 i0 2 underlying186 hi _ _ _ rfl ax rfl ?_)
       refine⟨⟨j+1,oM,by go_num,?_,hK⟩,iO⟩;rw[n.out,HF.out,t,List.length_eq_zero_iff.1 t];simpa [Aa] using ax
      .obtain⟨f,cp,hv⟩:∃f cp,vj=ϒ (some f) an[j].length cp:=by
        rcases d with⟨h0,b,c,h1,h2⟩|⟨g,off,cap,cur,fr,h1,_⟩
        .rw[h0]
         cases b with
         | none=>rw[h2 rfl]at h1;exact absurd h1 m
         | some a=>exact⟨a,c,h1⟩
        .exact⟨_,cap,h1⟩
       have z:∀k u,(Aa an[j])[k]?=some u->wr.cell? (f.add k)=some u:=by
        intro k u o;rcases d with⟨h0,_⟩|⟨g,off,cap,cur,fr,h1,_,_,x,y⟩
        .rw[List.length_eq_zero_iff.1 h0]at o;simp[Aa]at o
        .rw[hv]at h1;simp[vJ,Option.some.injEq]at h1;rw[h1.1,Br,Y x];exact y k u o
       subst hv;clear d m b9
       go_wp2_with (at_builtin;apply wpList_append_own _ rfl _ _ 186 rfl (ϳ w) 185 i0 _ 2 32 underlying186 hi ch ci cj rfl dC _ _ _ rfl ax f an[j].length cp (Aa an[j]) rfl v z (Pt _) (by unfold maxLen;omega) oM hsz;intro E w2 ao aj _)
       refine⟨⟨j+1,oM,by go_num,?_,hK.grown aj (λk hk=>Or.inr (qN3 ax k hk))⟩,iO⟩;rw[n.out,HF.out];exact ao
     .have am:¬(j:Int)<(an.length:Int):=oM
      have e:j=an.length:=oM
      go_wp2;go_ret;subst e;rw[HPS.out]at ax;exact⟨_,rfl,by rw[HALL.out];exact ax,hK⟩)->p):=λh=>h;exact QP
def Wu(n:Nat)(w)(o:n<=1000000):
  Ω 260 #[.slice none 0 0,ϊ n] w λe w'=>∃v',e=ϱ v'/\w'.ownsRow w.heap.size 87 4 v' 0 []/\Kp [] w w':=by
 let⟨g,k,l,m,f⟩:=info_parts EY;by_cases i:n=0
 .subst i;go_enter func260,ntmps260;go_wp2;go_ret;exact⟨_,rfl,wN _ _ _ _,Kp.refl _ _⟩
 .have:¬((n:Int)<0):=oM
  have:(0:Int)<(n:Int):=oM
  have d:∀b,(Builtin.append_ #[156,3] b #[ϒ none 0 0,ϊ (n:Int)]).run prog w =
    .ok (ϑ (ϳ w) 0 n (grownCap w n 0 87)) (w.drew.alloc (ϲ (Builtin.zeroCells (Value.agg _).cells n++Builtin.zeroCells (Value.agg _).cells (grownCap w n 0 87-n)) 87)):=λb=>by
   have h:=Lib.run_append_grow_zeros (P:=prog) w 156 3 b 87 g _ .i64 .i64 underlying156 underlying3 k l none 0 0 [] (run_firstCells_none w.drew g.size 0 0 0) n oM (by rw[m];decide) oM oM (by rw[f];omega) (by rw[f];exact growslice_fits oM oM);simpa using h
  have j:n<=grownCap w n 0 87:=grownCap_ge w _ _ _;have a:=grownCap_le_maxLen w n 0 87 (by unfold maxLen;omega);let⟨G,c⟩:=eX (grownCap w n 0 87);rw[<-c]at d j a;have:G<=9223372036854775807:=by unfold maxLen at a;omega
  clear c;go_enter func260,ntmps260
  go_wp2_with (at_builtin;refine Lib.wpList_append_run _ rfl _ _ _ _ rfl _ _ rfl rfl _ _ (d _) ?_)
  go_ret;refine⟨_,rfl,⟨rfl,.inr ⟨ϳ w,G,_,rfl,lR,μ _ _,zL _,a,?_,?_⟩⟩,(kF.drew).alloc _⟩
  .rw[Array.size_append,IE,IE];show 4*n+4*(G-n)=G*4;omega
  .simp
def ML(q:Nat)(vs:Ϩ)(an:List (List HL))(w)(hG:w.heap[q]?=some (ϲ vs.toArray 156))(hs:GH w 87 4 vs (an.map λl=>(l.length,Ag l)))(ps)(hps:an.flatten=ps)(hn:ps.length<=1000000)(C:an.length<=1000):
  Ω 226 #[.slice (some (ϰ q 0)) an.length an.length] w λe w'=>∃v',e=ϱ v'/\w'.ownsRow w.heap.size 87 4 v' ps.length (Ag ps)/\Kp [] w w':=by
 let⟨i0,hi,ch,ci,cj⟩:=info_parts EY;have D:vs.length=an.length:=by have:=hs.1;rw[List.length_map]at this;exact this
 have ac:Hid (∀i (h:i<an.length) (h':i<vs.length),Slc w 87 4 vs[i] an[i].length (Ag an[i])):=λi h h'=>by
  have:=hs.2 i (sU h) h';simpa using this
 clear hs;have Tz:Hid (∀{p:Prop},(_h:p:=by
  go_enter func226,ntmps226;go_wp2
  go_loop [3,11] (λs i=>∃(j:Nat),j<=an.length/\i=.int .i64 j/\s=.int .i64 (tot an j:Nat)) (λ_ i=>an.length-(intOf i).toNat)
  case atStart=>exact⟨0,zL _,rfl,rfl⟩
  case round=>
   obtain⟨j,A,rfl,rfl⟩:=hrel;have B:=hto j;by_cases aa:j<an.length
   .exact zS4
   .have am:¬(j:Int)<(an.length:Int):=oM
    have e:j=an.length:=oM
    subst e;go_wp2_with fail;apply(Wu _ w hn).mono;rintro e w1 ⟨v1,rfl,hown1,hK1⟩;go_wp2
    go_loopw [6,27] (λs i wr=>∃(j:Nat),j<=an.length/\i=.int .i64 j/\wr.ownsRow (ϳ w) 87 4 s (tot an j) (Ag (CU an j))/\Kp [] w wr) (λ_ i _=>an.length-(intOf i).toNat)
    case atStart=>exact⟨0,zL _,rfl,hown1,hK1⟩
    case round=>
     obtain⟨j,A,rfl,ax,hK⟩:=hrel;by_cases aa:j<an.length
     .have am:(j:Int)<(an.length:Int):=oM
      have hvj:=(ac j aa oM).qM4 hK;have r:=hK.hp hG;have h0:=Y r j;rw[zG,gQ (show j<vs.length by omega)]at h0;have ak:=U r;have n:=zh (Lb an j aa);have HF:Hid (Ag (CU an (j+1))=Ag (CU an j)++Ag an[j]):=by show _=_;rw[Jf an j aa,XL]
      have c7:=hto (j+1);rw[n.out]at c7;have hsz:=hK.size;let⟨vj,b9⟩:=eY (vs[j]);rw[b9]at hvj h0;let⟨v,d⟩:=hvj;by_cases m:vj=ϒ none 0 0
      .have t:an[j].length=0:=by
        rcases d with⟨h0,_⟩|⟨g,off,cap,cur,fr,h1,_⟩
        .exact h0
        .rw[m]at h1;cases h1
       subst m;clear d v b9
       go_wp2_with (at_builtin;refine wpList_append_own_none rfl _ _ 156 rfl (ϳ w) 87 i0 4 underlying156 hi _ _ _ rfl ax rfl ?_)
       refine⟨⟨j+1,oM,by go_num,?_,hK⟩,iO⟩;rw[n.out,HF.out,t,List.length_eq_zero_iff.1 t];simpa [Ag] using ax
      .obtain⟨f,cp,hv⟩:∃f cp,vj=ϒ (some f) an[j].length cp:=by
        rcases d with⟨h0,b,c,h1,h2⟩|⟨g,off,cap,cur,fr,h1,_⟩
        .rw[h0]
         cases b with
         | none=>rw[h2 rfl]at h1;exact absurd h1 m
         | some a=>exact⟨a,c,h1⟩
        .exact⟨_,cap,h1⟩
       have z:∀k u,(Ag an[j])[k]?=some u->wr.cell? (f.add k)=some u:=by
        intro k u o;rcases d with⟨h0,_⟩|⟨g,off,cap,cur,fr,h1,_,_,x,y⟩
        .rw[List.length_eq_zero_iff.1 h0]at o;simp[Ag]at o
        .rw[hv]at h1;simp[vJ,Option.some.injEq]at h1;rw[h1.1,Br,Y x];exact y k u o
       subst hv;clear d m b9
       go_wp2_with (at_builtin;refine wpList_append_own _ rfl _ _ 156 rfl (ϳ w) 87 i0 _ 4 40 underlying156 hi ch ci cj rfl dC _ _ _ rfl ax f an[j].length cp (Ag an[j]) rfl v z (XM _) (by unfold maxLen;omega) oM hsz ?_;intro E w2 ao aj _)
       refine⟨⟨j+1,oM,by go_num,?_,hK.grown aj (λk hk=>Or.inr (qN3 ax k hk))⟩,iO⟩;rw[n.out,HF.out];exact ao
     .have am:¬(j:Int)<(an.length:Int):=oM
      have e:j=an.length:=oM
      go_wp2;go_ret;subst e;rw[HPS.out]at ax;exact⟨_,rfl,by rw[HALL.out];exact ax,hK⟩)->p):=λh=>h;exact QP
def KE(v vb)(ps bs)(i j:Nat)(w)(p:Slc w 185 2 v ps.length (Aa ps))(F:Slc w 185 2 vb bs.length (Aa bs))(af:i<=j)(hj:j<=ps.length)(d:1<=ps.length)(hn:ps.length<=10000)(ai:bs.length<=10000):
  Ω 162 #[v,ϊ i,ϊ j,vb] w λe w'=>∃v',e=ϱ v'/\Slc w' 185 2 v' (ps.take i++bs++ps.drop j).length (Aa (ps.take i++bs++ps.drop j))/\Kp [] w w':=by
 obtain⟨l,f,a,cur,I,rfl,ad,A,_⟩:=p.pair d;have G:∀k u,(Aa ps)[k]?=some u->cur[f+k]?=some u:=by
  rcases p.val with⟨D,_⟩|⟨g',aj,aa,ab,ac,d,_,_,E,L⟩
  .omega
  .simp[vJ,Option.some.injEq,Addr.mk.injEq]at d;obtain⟨⟨rfl,rfl,_⟩,_,_⟩:=d;rw[A]at E;cases E;exact L
 obtain⟨n,o,W⟩:∃n o,vb=ϒ n bs.length o:=by
  rcases F.val with⟨D,b,c,d,_⟩|⟨g,f,cap,cur,I,d,_⟩
  .rw[D];exact⟨b,c,d⟩
  .exact⟨_,cap,d⟩
 subst W;obtain⟨r,S,P,V⟩:∃r,(∃q m c,r=ϒ (some q) m c)/\Slc w 185 2 r (ps.drop j).length (Aa (ps.drop j))/\((j=a/\r=ϑ l f 0 0)\/(j≠a/\r=ϑ l (f+j*2) (ps.length-j) (a-j))):=by
  by_cases z:j=a
  .refine⟨_,⟨_,_,_,rfl⟩,⟨?_,.inl ⟨?_,_,_,rfl,sM⟩⟩,.inl ⟨z,rfl⟩⟩
   .rw[DO]
   .simp;omega
  .refine⟨_,⟨_,_,_,rfl⟩,?_,.inr ⟨z,rfl⟩⟩;have:=Eg (T:=185) (sz:=2) A G p.len j (ps.length-j) (a-j) oM oM;rw[<-Ps,tL (by rw[DO];simp)]at this;simpa using this
 have O:Slc w 185 2 (ϑ l f i a) (ps.take i).length (Aa (ps.take i)):=by
  have:=Eg (T:=185) (sz:=2) A G p.len 0 i a oM oM;simp[Nat.zero_mul,Nat.add_zero,dZ]at this;rw[<-Pv]at this;simpa [Nat.min_eq_left (show i<=ps.length by omega)] using this
 obtain⟨C,B,t,rfl⟩:=S;have ae:(i:Int)<=(a:Int):=oM
 have ag:(j:Int)<=(ps.length:Int):=oM
 have z:(j:Int)<=(a:Int):=oM
 clear p;go_enter func162,ntmps162;go_wp2_with fail;apply wp_region_any kR;change wpAny _ _ _ _ _ _ _ (World.drew _);apply zu 0 (ϑ l f ps.length a);apply zu 1 (ϊ i);apply zu 2 (ϑ l f i a);apply zu 3 (ϒ n bs.length o);apply zu 4 (ϑ l f ps.length a);apply zu 5 (ϊ j);refine wpAny_take (i:=6) (v:=ϒ (some C) B t) rfl kR kR kR (λ_ _ _ h=>h) (Or.inl ⟨by rfl,λw=>by
  rcases V with⟨x,y⟩|⟨x,y⟩
  .have e3:ps.length=a:=oM
   rw[y];subst x;go_simp
  .rw[y];have ah:¬a=j:=λe=>x e.symm;go_simp⟩) ?_
 try simp[zZ]
 refine zQ 7 λK hK=>?_;go_simp;obtain⟨Z,H,M,s⟩:=alF w (ϲ #[ϑ l f i a,ϒ n bs.length o,ϒ (some C) B t] 186);rw[<-H];clear H;apply hK _ _
 try simp[zZ]
 refine zQ 8 λK hK=>?_;go_simp;refine(MM (ϳ w) [ϑ l f i a,ϒ n bs.length o,ϒ (some C) B t] [ps.take i,bs,ps.drop j] Z M ⟨rfl,λk d h2=>?_⟩ (ps.take i++bs++ps.drop j) sM sO sM).mono ?_
 .have Q:k=0\/k=1\/k=2:=by simp at d;omega
  rcases Q with rfl|rfl|rfl
  .exact O.qM4 s
  .exact F.qM4 s
  .exact P.qM4 s
 rintro e w3 ⟨X,rfl,R,N⟩;apply hK _ _
 try simp[zZ]
 refine zQ 9 λK hK=>?_;go_simp;apply hK _ _;refine wpAny_done kR ?_ _;go_wp2;go_ret;exact⟨X,rfl,sU ((zh (Cm R)).out),s.tr N⟩
def Ig(v vb)(ps bs)(i j:Nat)(w)(p:Slc w 87 4 v ps.length (Ag ps))(F:Slc w 87 4 vb bs.length (Ag bs))(af:i<=j)(hj:j<=ps.length)(d:1<=ps.length)(hn:ps.length<=10000)(ai:bs.length<=10000):
  Ω 163 #[v,ϊ i,ϊ j,vb] w λe w'=>∃v',e=ϱ v'/\Slc w' 87 4 v' (ps.take i++bs++ps.drop j).length (Ag (ps.take i++bs++ps.drop j))/\Kp [] w w':=by
 obtain⟨l,f,a,cur,I,rfl,ad,A,_⟩:=p.link d;have G:∀k u,(Ag ps)[k]?=some u->cur[f+k]?=some u:=by
  rcases p.val with⟨D,_⟩|⟨g',aj,aa,ab,ac,d,_,_,E,L⟩
  .omega
  .simp[vJ,Option.some.injEq,Addr.mk.injEq]at d;obtain⟨⟨rfl,rfl,_⟩,_,_⟩:=d;rw[A]at E;cases E;exact L
 obtain⟨n,o,W⟩:∃n o,vb=ϒ n bs.length o:=by
  rcases F.val with⟨D,b,c,d,_⟩|⟨g,f,cap,cur,I,d,_⟩
  .rw[D];exact⟨b,c,d⟩
  .exact⟨_,cap,d⟩
 subst W;obtain⟨r,S,P,V⟩:∃r,(∃q m c,r=ϒ (some q) m c)/\Slc w 87 4 r (ps.drop j).length (Ag (ps.drop j))/\((j=a/\r=ϑ l f 0 0)\/(j≠a/\r=ϑ l (f+j*4) (ps.length-j) (a-j))):=by
  by_cases z:j=a
  .refine⟨_,⟨_,_,_,rfl⟩,⟨?_,.inl ⟨?_,_,_,rfl,sM⟩⟩,.inl ⟨z,rfl⟩⟩
   .rw[JY]
   .simp;omega
  .refine⟨_,⟨_,_,_,rfl⟩,?_,.inr ⟨z,rfl⟩⟩;have:=Eg (T:=87) (sz:=4) A G p.len j (ps.length-j) (a-j) oM oM;rw[<-Oq,tL (by rw[JY];simp)]at this;simpa using this
 have O:Slc w 87 4 (ϑ l f i a) (ps.take i).length (Ag (ps.take i)):=by
  have:=Eg (T:=87) (sz:=4) A G p.len 0 i a oM oM;simp[Nat.zero_mul,Nat.add_zero,dZ]at this;rw[<-Ou]at this;simpa [Nat.min_eq_left (show i<=ps.length by omega)] using this
 obtain⟨C,B,t,rfl⟩:=S;have ae:(i:Int)<=(a:Int):=oM
 have ag:(j:Int)<=(ps.length:Int):=oM
 have z:(j:Int)<=(a:Int):=oM
 clear p;go_enter func163,ntmps163;go_wp2_with fail;apply wp_region_any kR;change wpAny _ _ _ _ _ _ _ (World.drew _);apply zu 0 (ϑ l f ps.length a);apply zu 1 (ϊ i);apply zu 2 (ϑ l f i a);apply zu 3 (ϒ n bs.length o);apply zu 4 (ϑ l f ps.length a);apply zu 5 (ϊ j);refine wpAny_take (i:=6) (v:=ϒ (some C) B t) rfl kR kR kR (λ_ _ _ h=>h) (Or.inl ⟨by rfl,λw=>by
  rcases V with⟨x,y⟩|⟨x,y⟩
  .have e3:ps.length=a:=oM
   rw[y];subst x;go_simp
  .rw[y];have ah:¬a=j:=λe=>x e.symm;go_simp⟩) ?_
 try simp[zZ]
 refine zQ 7 λK hK=>?_;go_simp;obtain⟨Z,H,M,s⟩:=alF w (ϲ #[ϑ l f i a,ϒ n bs.length o,ϒ (some C) B t] 156);rw[<-H];clear H;apply hK _ _
 try simp[zZ]
 refine zQ 8 λK hK=>?_;go_simp;refine(ML (ϳ w) [ϑ l f i a,ϒ n bs.length o,ϒ (some C) B t] [ps.take i,bs,ps.drop j] Z M ⟨rfl,λk d h2=>?_⟩ (ps.take i++bs++ps.drop j) sM sO sM).mono ?_
 .have Q:k=0\/k=1\/k=2:=by simp at d;omega
  rcases Q with rfl|rfl|rfl
  .exact O.qM4 s
  .exact F.qM4 s
  .exact P.qM4 s
 rintro e w3 ⟨X,rfl,R,N⟩;apply hK _ _
 try simp[zZ]
 refine zQ 9 λK hK=>?_;go_simp;apply hK _ _;refine wpAny_done kR ?_ _;go_wp2;go_ret;exact⟨X,rfl,sU ((zh (Cm R)).out),s.tr N⟩
def θ(V:Nat)(h:HL):Value:=.agg #[.pointer (some ⟨V,0,none⟩),.string h.key,.int .i64 h.b,.int .u64 h.s,.pointer h.ptr]
def Aw(h:HL):Value:=.agg #[.string h.key,.int .i64 h.b,.int .u64 h.s,.pointer h.ptr]
def Hr:List TypeId:=[87,89,42]
def ioP(b:Nat):List PanicEntry:=[{ v:=.iface 182 (.agg #[.iface 330 (.pointer (some ⟨b,0,none⟩))]),recovered:=false }]
structure Env where
 O:AS
 V:Nat
 S:Ϥ
 Dev:ϯ
 qM3:∀w w' L,Dev w->Kp L w w'->(∀k∈L,∃c t fr,w.heap[k]?=some (ϲ c t fr)/\t∈Hr)->Dev w'
 apt:∀w,Dev w->Apt w S Bi
 low:∀w,Dev w->∀k∈S,k<w.heap.size
 pos:∀(n b:Nat)(s:Int)(t:Tn n),O n b s t->1<=b
 lvl:∀(n b:Nat)(s:Int)(t:Tn n),O n b s t->n<6
 qP9:ϯ
 read:∀(n:Nat)(h r:HL) (l:Lnk (Tn n)) (a:Int) (w:Ϣ),Dev w->RL O n w h l->h.p=none->(n:Int)<a->Ω 150 #[θ V r,Aw h,ϊ a] w λe w'=>((∃p,e=.panicked (ioP p))/\qP9 w'/\Kp S w w')\/∃q,e=ϱ (ϖ q)/\RN O n w' q l.sub/\Dev w'/\Kp S w w'
structure Env.To(E:Env)(w w':Ϣ):Prop where
 dev:E.Dev w'
 kp:Kp E.S w w'
def Env.To.of0{E:Env}{w w':Ϣ}(h:E.Dev w)(hK:Kp [] w w'):E.To w w':=⟨E.qM3 _ _ [] h hK sM,hK.mono sM⟩
def Env.To.trans{E:Env}{a b c:Ϣ}(h:E.To a b)(k:E.To b c):E.To a c:=⟨k.dev,h.kp.trans k.kp (λi d _=>d)⟩
def Env.To.tail{E:Env}{a b c:Ϣ}(h:E.To a b)(k:Kp [] b c):E.To a c:=h.trans (Env.To.of0 h.dev k)
def Env.RN{E:Env}{n:Nat}{w w':Ϣ}{q:Nat}{t:Tn n}(h:RN E.O n w q t)(b:E.Dev w)(a:E.To w w'):YtdohpenfkdckiaaGreatDoor.RN E.O n w' q t:=RN.qM3 a.kp (E.apt w b) n q t h
def Env.RL{E:Env}{n:Nat}{w w':Ϣ}{h:HL}{l:Lnk (Tn n)}(c:RL E.O n w h l)(b:E.Dev w)(a:E.To w w'):YtdohpenfkdckiaaGreatDoor.RL E.O n w' h l:=RL.qM3 c a.kp (E.apt w b)
def Env.RLs{E:Env}{n:Nat}{w w':Ϣ}{v:Value}{ls:List (Lnk (Tn n))}(c:RLs E.O n w v ls)(b:E.Dev w)(a:E.To w w'):YtdohpenfkdckiaaGreatDoor.RLs E.O n w' v ls:=RLs.qM3 c a.kp (E.apt w b)
def Env.To.new{E:Env}{a w w':Ϣ}{k:Nat}{o:Obj}(b:E.To w w')(c:E.Dev a)(e:a.heap.size<=k)(h:w.heap[k]?=some o):w'.heap[k]?=some o:=
 b.kp.heap h (λd=>by have:=E.low a c k d;omega)
def Env.Z(E:Env)(w:Ϣ)(e:Ending)(w':Ϣ):Prop:=(∃p,e=.panicked (ioP p))/\E.qP9 w'/\Kp E.S w w'
abbrev Env.C(E:Env)(f:FuncId)(a:Array Value)(w:World)(Q:Ending→World→Prop):Prop:=Calls prog f a w fun e w'=>E.Z w e w'∨Q e w'
def Env.C.of{E:Env}{f:FuncId}{a:ϧ}{w:Ϣ}{Q:Ending->ϯ}(h:Calls prog f a w Q):E.C f a w Q:=h.mono λ_ _ h=>.inr h
def Env.Z.up{E:Env}{a b c:Ϣ}{e:Ending}(h:E.Z b e c)(k:E.To a b):E.Z a e c:=⟨h.1,h.2.1,k.kp.trans h.2.2 (λi d _=>d)⟩
def Env.call{E:Env}{w c:Ϣ}{f:FuncId}{a:ϧ}{Q K:Ending->ϯ}(h:E.C f a c Q)(d:E.To w c)(k:∀e w',Q e w'->K e w')
  (b:∀p w',E.Z w (.panicked (ioP p)) w'->K (.panicked (ioP p)) w':=by intro p w' b;go_wp2;exact⟨rfl,.inl b⟩):Calls prog f a c K:=
 h.mono λe w' h=>by
  rcases h with h|h
  .obtain⟨p,rfl⟩:=h.1;exact b p w' (h.up d)
  .exact k e w' h
def Pa(E:Env)(n:Nat)(h r:HL)(l:Lnk (Tn n))(a:Int)(w:Ϣ)(d:E.Dev w)(g:RL E.O n w h l)(j:h.p=none->(n:Int)<a):
  E.C 150 #[θ E.V r,Aw h,ϊ a] w λe w'=>∃q,e=ϱ (ϖ q)/\RN E.O n w' q l.sub/\E.To w w':=by
 cases hp:h.p with
 | none=>
  refine(E.read n h r l a w d g hp (j hp)).mono ?_;rintro e w' (h|⟨q,m,b,c,f⟩)
  .exact .inl h
  .exact .inr ⟨q,m,b,c,f⟩
 | some q=>
  have o:RN E.O n w q l.sub:=by
   have b:=g.2
   cases hl:l.ref with
   | none=>
    rw[hl]at b;let⟨_,_,q',c,f⟩:=b;rw[hp]at c;cases c;exact f
   | some x=>
    rw[hl]at b;rw[hp]at b;cases b.2.2.1
  have k:h.ptr=some (ϰ q 0):=by simp[HL.ptr,hp]
  have i:Aw h=.agg #[ϕ h.key,ϊ h.b,.int .u64 h.s,ϖ q]:=by rw[Aw,k]
  rw[i,θ];clear g i k j;go_enter func150,ntmps150;go_wp2;go_ret;exact .inr ⟨q,rfl,Env.RN o d (Env.To.of0 d ((kF.alloc _).alloc _)),Env.To.of0 d ((kF.alloc _).alloc _)⟩
def BR(E:Env)(n:Nat)(h r:HL)(l:Lnk (Tn n))(a:Int)(w:Ϣ)(c:E.Dev w)(d:RL E.O n w h l)(b:(n:Int)<a):
  E.C 150 #[θ E.V r,Aw h,ϊ a] w λe w'=>∃q,e=ϱ (ϖ q)/\RN E.O n w' q l.sub/\E.To w w':=
 Pa E n h r l a w c d λ_=>b
def Env.zA5{E:Env}{n:Nat}{w:Ϣ}{h:HL}{l:Lnk (Tn n)}(d:YtdohpenfkdckiaaGreatDoor.RL E.O n w h l)(c:h.p=none):(n:Int)<6:=by
 have a:=d.2
 cases hl:l.ref with
 | none=>
  rw[hl]at a;let⟨_,_,q,b,e⟩:=a;rw[c]at b;cases b
 | some x=>
  rw[hl]at a;have:=E.lvl _ _ _ _ a.2.2.2;omega
def Fr(E:Env)(n:Nat)(h:HL)(l:Lnk (Tn n))(w:Ϣ)(a:E.Dev w)(f:RL E.O n w h l):
  E.C 94 #[θ E.V h] w λe w'=>∃q,e=ϱ (ϖ q)/\RN E.O n w' q l.sub/\E.To w w':=by
 have b:Hid (∀W:World,E.To w W->E.C 150 #[.agg (ϟ E.V h),.agg (ϡ h),ϊ 6] W λe w'=>∃q,e=ϱ (ϖ q)/\RN E.O n w' q l.sub/\E.To W w'):=
  λW c=>Pa E n h h l 6 W c.dev (Env.RL f a c) (Env.zA5 f)
 rw[θ];go_enter func94,ntmps94;go_wp2_with fail;refine Env.call (b _ (Env.To.of0 a (kF.alloc _))) (Env.To.of0 a (kF.alloc _)) ?_;rintro e j ⟨q,rfl,i,d⟩;have g:=zh ((Env.To.of0 a (kF.alloc _)).trans d);clear d b;go_wp2;go_ret;exact .inr ⟨q,rfl,i,g⟩
def RLof.new{O:AS}{n:Nat}{w}{h}{l}(d:RL O n w h l):(l.ref=none/\∃q,h.p=some q/\RN O n w q l.sub)\/(l.ref.isSome=true/\h.p=none):=by
 have a:=d.2
 cases hl:l.ref with
 | none=>
  rw[hl]at a;let⟨_,_,q,b,c⟩:=a;exact .inl ⟨rfl,q,b,c⟩
 | some x=>
  rw[hl]at a;exact .inr ⟨rfl,a.2.2.1⟩
def Fz:(n:Nat)→Tn n→Prop
 | 0,t=>(prs t).length≤10000
 | n+1,t=>(J t).length≤10000∧∀l∈J t,Fz n l.sub
def Ca{α:Type}(f:α->Nat):∀(l:List α),(∀x∈l,1<=f x)->l.length<=qM2 f l
 | [],_=>by simp[qM2]
 | x::l,h=>by
  have:=h x sM;have:=Ca f l λy a=>h y (by simp[a]);rw[Au,lC];omega
def Ch:∀(n:Nat)(lo)(t),Good n lo t->Fz n t
 | 0,lo,ps,h=>by
  have:qM2 ζ (prs ps)<=126:=h.fits;have:=Ca ζ (prs ps) λx _=>by unfold ζ;omega
  show(prs ps).length<=10000;omega
 | n+1,lo,ls,h=>by
  have:qM2 ι (J ls)<=126:=h.fits;have:=Ca ι (J ls) λx _=>by unfold ι;omega
  exact⟨oM,λl a=>Ch n l.key l.sub (h.all l a).1⟩
def TD(O:AS):∀(n:Nat)(h)(l)(w),RL O n w h l->Fz n l.sub->Am n l.sub<=1000000->
  Ω 120 #[Aw h] w λe w'=>e=ϱ (ϊ (news n l))/\Kp [] w w':=by
 intro n
 induction n with
 | zero=>
  intro h l w y L x;rcases y.new with⟨a,q,d,vp,p,A⟩|⟨a,d⟩
  .have k:h.ptr=some (ϰ q 0):=by simp[HL.ptr,d]
   rw[Aw,k];have:=U p;have:=ϻ p 2;go_enter func120,ntmps120;go_wp2_with fail;apply wp_loop_rounds 1;rw[rounds_succ];go_wp2;go_ret;exact⟨BV (by simp[news,a]),kF.alloc _⟩
  .have k:h.ptr=none:=by simp[HL.ptr,d]
   rw[Aw,k];go_enter func120,ntmps120;go_wp2;go_ret;exact⟨BV (by simp[news,a]),kF.alloc _⟩
 | succ n ih=>
  intro h l w y L x;rcases y.new with⟨a,q,d,vl,p,o,A,u⟩|⟨a,d⟩
  .have k:h.ptr=some (ϰ q 0):=by simp[HL.ptr,d]
   rw[Aw,k];let⟨ah,N⟩:=L;have B:news (n+1) l=1+qM2 (λm:Lnk (Tn n)=>news n m) (J l.sub):=by simp[news,a]
   have K:Am (n+1) l.sub=1+qM2 (λm:Lnk (Tn n)=>Am n m.sub) (J l.sub):=rfl;have C:=Kf (f:=λm:Lnk (Tn n)=>news n m) (g:=λm=>Am n m.sub) (J l.sub) λm _=>Kl n m;rw[K]at x;have ac:=u.1;let⟨ls,H⟩:=eX (J l.sub);rw[<-H]at u ah N B C x ac;clear H K;have:=U p;obtain⟨E,F,z⟩:∃E F,vl=.slice E o.length F:=by
    rcases A.val with⟨h0,b,c,a,_⟩|⟨g,t,cap,cur,fr,a,_⟩
    .rw[h0];exact⟨b,c,a⟩
    .exact⟨_,cap,a⟩
   subst z;have:=ϻ p 2;have P:=zh u;have R:=zh B;have T:=zh C;have Q:=ih;clear y u B a d ih C;go_enter func120,ntmps120;go_wp2
   go_loopw [3,15] (λs i wr=>∃(j:Nat),j<=o.length/\i=.int .i64 j/\s=.int .i64 (1+qM2 (λm:Lnk (Tn n)=>news n m) (ls.take j):Nat)/\Kp [] w wr) (λ_ i _=>o.length-(intOf i).toNat)
   case atStart=>exact⟨0,zL _,rfl,rfl,kF.alloc _⟩
   case round=>
    obtain⟨j,hj,rfl,rfl,hK⟩:=hrel;have:=Dc (λm:Lnk (Tn n)=>news n m) ls j;have:=T.out;have:=x;by_cases I:j<o.length
    .have:(j:Int)<(o.length:Int):=oM
     let⟨gb,t,ai,cur,fr,z,aj,ag,G⟩:=A.link oM;let⟨c0,c1,c2,c3⟩:=G j I;simp[vJ,true_and]at z;obtain⟨rfl,rfl⟩:=z;have r:=hK.hp ag;have V:=Y r (t+j*4);rw[c0]at V;have W:=Y r (t+j*4+1);rw[c1]at W;have X:=Y r (t+j*4+2);rw[c2]at X;have Z:=Y r (t+j*4+3);rw[c3]at Z;have:=U r;have v:j<ls.length:=oM
     have af:=P.out.2 j I v;have D:Hid (qM2 (λm:Lnk (Tn n)=>news n m) (ls.take (j+1))=qM2 (λm:Lnk (Tn n)=>news n m) (ls.take j)+news n ls[j]):=CA _ ls j v;have ad:=Dc (λm:Lnk (Tn n)=>news n m) ls (j+1);rw[D.out]at ad;have ae:Am n ls[j].sub<=qM2 (λm:Lnk (Tn n)=>Am n m.sub) ls:=by
      have a:=CA (λm:Lnk (Tn n)=>Am n m.sub) ls j v;have d:=Dc (λm:Lnk (Tn n)=>Am n m.sub) ls (j+1);omega
     have S:Hid (Am n ls[j].sub<=1000000):=by show _<=_;omega
     clear G ae;generalize qM2 (λm:Lnk (Tn n)=>news n m) (ls.take j)=M at *;go_wp2_with fail;apply mR (Q o[j] ls[j] _ (RL.qM3 af (hK.alloc _) (Apt.nil _ _)) (N _ (gM v)) S);rintro w1 aa;have ab:=(hK.alloc _).tr aa;go_wp2;refine⟨⟨j+1,oM,by go_num,by rw[D.out];go_num,ab⟩,iO⟩
    .have:¬(j:Int)<(o.length:Int):=oM
     go_wp2;go_ret;refine⟨BV ?_,hK⟩;rw[R.out,tL oM];omega
  .have k:h.ptr=none:=by simp[HL.ptr,d]
   rw[Aw,k];go_enter func120,ntmps120;go_wp2;go_ret;exact⟨BV (by simp[news,a]),kF.alloc _⟩
def RN.obj{O:AS}{n:Nat}{w}{q:Nat}{t}(h:RN O n w q t):∃v l x r k s,w.heap[q]?=some (Ai (n:Int) (.slice v l x) (.slice r k s))/\l+k=cnt n t:=by
 cases n with
 | zero=>
  let⟨z,a,i⟩:=h;obtain⟨d,e,j⟩:∃d e,z=ϒ d (prs t).length e:=by
   rcases i.val with⟨f,b,c,a,_⟩|⟨g,u,cap,cur,m,a,_⟩
   .rw[f];exact⟨b,c,a⟩
   .exact⟨_,cap,a⟩
  rw[j]at a;exact⟨_,_,_,_,_,_,a,rfl⟩
 | succ n=>
  let⟨y,a,p,i,o⟩:=h;obtain⟨d,e,j⟩:∃d e,y=ϒ d p.length e:=by
   rcases i.val with⟨f,b,c,a,_⟩|⟨g,u,cap,cur,m,a,_⟩
   .rw[f];exact⟨b,c,a⟩
   .exact⟨_,cap,a⟩
  rw[j]at a;refine⟨_,_,_,_,_,_,a,?_⟩;rw[Nat.zero_add,o.1];rfl
def EB(O:AS)(n:Nat)(q:Nat)(t)(w)(h:RN O n w q t)(c:cnt n t<=1000000):
  Ω 161 #[ϖ q] w λe w'=>e=ϱ (ϊ (cnt n t))/\Kp [] w w':=by
 let⟨j,l,k,f,i,g,a,b⟩:=h.obj;rw[<-b]at c;have:=U a;have d:=Y a;simp[Ai,zG,zH,zI]at d;go_enter func161,ntmps161;go_wp2_with fail
 go_quiet (fail)
 go_wp2;go_ret;exact⟨BV (by rw[<-b];omega),kF.drewN _⟩
def qH2(O:AS)(V n:Nat)(h)(l)(w)(d:RL O n w h l)(f:Fz n l.sub)(c:Am n l.sub<=1000000):
  Ω 76 #[θ V h] w λe w'=>e=ϱ (ϊ (news n l))/\Kp [] w w':=by
 rw[θ];go_enter func76,ntmps76;go_wp2_with fail;refine mR (TD O n h l _ (RL.qM3 d (kF.alloc _) (Apt.nil _ _)) f c) ?_;rintro g a;have b:Kp [] w g:=(kF.alloc _).tr a;go_wp2;go_ret;exact⟨rfl,b⟩
def RR(E:Env)(w:World)(h:HL):Root→Prop
 | .none=>h=⟨⟨#[]⟩,0,0,none⟩
 | .at n l=>RL E.O n w h l
def RR.to{E}{w w'}{h}{r}(a:RR E w h r)(c:E.Dev w)(b:E.To w w'):RR E w' h r:=by
 cases r with
 | none=>exact a
 | «at» n l=>exact Env.RL a c b
def GY(d:Nat)(W):Sem.run prog (Op.equalIn (d+1) 85 (ϗ none) (ϗ none)) W=.ok true W:=by
 simp[Op.equalIn,run_underlying underlying85]
def MX(d:Nat)(a)(W):Sem.run prog (Op.equalIn (d+1) 85 (ϗ (some a)) (ϗ none)) W=.ok false W:=by
 simp[Op.equalIn,run_underlying underlying85]
def GW(V:Nat)(w):
  Ω 92 #[θ V ⟨⟨#[]⟩,0,0,none⟩] w λe w'=>e=ϱ (ϐ true)/\Kp [] w w':=by
 have:∀W:World,Sem.run prog (Op.equalIn 9999 85 (ϗ none) (ϗ none)) W=.ok true W:=λW=>GY 9998 W;rw[θ,show HL.ptr ⟨⟨#[]⟩,0,0,none⟩=none from rfl];go_enter func92,ntmps92;go_wp2;go_ret;exact⟨rfl,kF.alloc _⟩
def UT(V q:Nat)(w):
  Ω 92 #[.agg #[ϖ V,ϕ ⟨#[]⟩,ϊ 0,.int .u64 0,ϖ q]] w λe w'=>e=ϱ (ϐ false)/\Kp [] w w':=by
 have:∀W:World,Sem.run prog (Op.equalIn 9999 85 (ϖ q) (ϗ none)) W=.ok false W:=λW=>MX 9998 _ W;go_enter func92,ntmps92;go_wp2;go_ret;exact⟨rfl,kF.alloc _⟩
def UV(V:Nat)(b s:Int)(a:1<=b)(w):
  Ω 92 #[.agg #[ϖ V,ϕ ⟨#[]⟩,ϊ b,.int .u64 s,ϗ none]] w λe w'=>e=ϱ (ϐ false)/\Kp [] w w':=by
 have:∀W:World,Sem.run prog (Op.equalIn 9999 85 (ϗ none) (ϗ none)) W=.ok true W:=λW=>GY 9998 W;have:¬b=0:=oM
 go_enter func92,ntmps92;go_wp2;go_ret;exact⟨rfl,kF.alloc _⟩
def EQ(E:Env)(n:Nat)(h:HL)(l:Lnk (Tn n))(w:Ϣ)(g:RL E.O n w h l)(j:l.key=⟨#[]⟩):
  Ω 92 #[θ E.V h] w λe w'=>e=ϱ (ϐ false)/\Kp [] w w':=by
 have f:h.key=⟨#[]⟩:=by rw[g.1,j]
 have a:=g.2
 cases hx:l.ref with
 | none=>
  rw[hx]at a;let⟨b,d,q,c,_⟩:=a;have e:θ E.V h=.agg #[ϖ E.V,ϕ ⟨#[]⟩,ϊ 0,.int .u64 0,ϖ q]:=by rw[θ,f,b,d,HL.ptr,c];rfl
  rw[e];exact UT E.V q w
 | some x=>
  rw[hx]at a;let⟨b,d,c,i⟩:=a;have:=E.pos n _ _ _ i;have e:θ E.V h=.agg #[ϖ E.V,ϕ ⟨#[]⟩,ϊ h.b,.int .u64 h.s,ϗ none]:=by rw[θ,f,HL.ptr,c];rfl
  rw[e];exact UV E.V h.b h.s (by rw[b];omega) w
def Bv(l:List KV)(k:ByteArray):Option KV:=l.find? fun q=>decide (q.k=k)
def Et(l:List KV)(k:ByteArray):ByteArray:=((Bv l k).map KV.v).getD ⟨#[]⟩
def Wm{k}{a b c}(g:∀q∈a,q.k≠k)(h:∀q∈c,q.k≠k):Bv (a++b++c) k=Bv b k:=by
 unfold Bv;rw[List.find?_append,List.find?_append];have e:a.find? (λq=>decide (q.k=k))=none:=by rw[List.find?_eq_none];intro q d;simp[g q d]
 have f:c.find? (λq=>decide (q.k=k))=none:=by rw[List.find?_eq_none];intro q d;simp[h q d]
 rw[e,f];simp
def Wn{l}(b:Sorted l)(k):Bv l k=if Bo l (Ah l k) k then l[Ah l k]? else none:=by
 by_cases h:Bo l (Ah l k) k=true
 .rw[if_pos h];unfold Bo at h;split at h
  .next q a=>
   have f:q.k=k:=by simpa using h
   have c:=(gS a).1;rw[a];unfold Bv;rw[<-tD (Ah l k) l,List.find?_append,List.find?_eq_none.2 (λx g=>?_),dG c,(gS a).2]
   .simp[f]
   .have:kl x.k k=true:=It x (by rw[<-Qf b k];exact g);simp[BM this]
  .cases h
 .rw[if_neg h];have d:¬∃q∈l,q.k=k:=λa=>h ((JB b k).2 a);unfold Bv;rw[List.find?_eq_none];intro q a;simp[decide_eq_true_eq];exact λe=>d ⟨q,a,e⟩
def Good.row{n:Nat}{lo}{t}(h:Good (n+1) lo t):Row0 n lo (J t):=⟨h.head,λm a=>⟨(h.all m a).1,(h.all m a).2.2⟩,h.pair⟩
def Gn{O:AS}{n:Nat}{w}{hs}{ls}(a:Both (RL O n w) hs ls)(e:ls.Pairwise (DG n)):Rise hs:=by
 unfold Rise;rw[List.pairwise_iff_getElem];intro i j b d c;have f:=a.1;have:=pG e i j oM oM c;rw[(a.2 i b oM).1,(a.2 j d oM).1];exact this.1
def Lm{O:AS}{n:Nat}{w}{hs}{ls}(c:Both (RL O n w) hs ls)(k):hs.findIdx (λl=>kl k l.key)=ls.findIdx (λl=>kl k l.key):=by
 have e:=c.map_eq λx y d=>d.1;have a:∀(l:List HL),l.findIdx (λl=>kl k l.key)=(l.map HL.key).findIdx (λx=>kl k x):=λl=>by rw[List.findIdx_map];rfl
 have b:∀(l:List (Lnk (Tn n))),l.findIdx (λl=>kl k l.key)=(l.map Lnk.key).findIdx (λx=>kl k x):=λl=>by rw[List.findIdx_map];rfl
 rw[a,b,e]
def Hs(w:World)(s:Value):Nat:=match s with
 | .pointer (some a)=>match w.cell? ⟨a.block,0,none⟩ with
  | some (.int _ i)=>i.toNat
  | _=>0
 | _=>0
def Kb{O:AS}{n:Nat}{w}{q:Nat}{t}(h:RN O n w q t):Hs w (ϖ q)=n:=by
 let⟨f,i,g,c,e,d,a,b⟩:=h.obj;have:=Y a 0;simp[Ai,zG,zH]at this;simp[Hs,this]
def Qx{n:Nat}{lo k}{t}(d:Good (n+1) lo t)(u:kl k lo=false)(s:1<=cnt (n+1) t):
  ∃(h:Af (J t) k<(J t).length),Good n (J t)[Af (J t) k].key (J t)[Af (J t) k].sub/\3<=cnt n (J t)[Af (J t) k].sub/\kl k (J t)[Af (J t) k].key=false/\Bv (cont (n+1) t) k=Bv (cont n (J t)[Af (J t) k].sub) k:=by
 have x:J t≠[]:=λe=>by
  have f:1<=(J t).length:=s;rw[e]at f;simp at f
 let⟨A,m,B,e,g,v,y,z⟩:=Gy d.row x u;have o:Af (J t) k<(J t).length:=by rw[<-g,e];simp
 have w:(J t)[Af (J t) k]=m:=by
  have:(J t)[Af (J t) k]?=some m:=by rw[<-g,e];simp
  rw[gQ o]at this;exact Option.some.inj this
 have i:=d.all m (by show m∈J t;rw[e];simp);refine⟨o,?_⟩;rw[w];refine⟨i.1,i.2.1,v,?_⟩;show Bv ((J t).flatMap λl=>cont n l.sub) k=_;rw[e,fA,fC,<-aA];refine Wm (λq c=>?_) (λq c=>?_)
 .let⟨a,r,c⟩:=mF c;exact BM (y a r q c)
 .let⟨b,j,c⟩:=mF c;have p:=d.all b (by show b∈J t;rw[e];simp[j]);exact(BM (CX (z b j) ((Cq n b.key b.sub p.1).2 q c).2)).symm
def Lw(E:Env)(b w:Ϣ)(k:Ϧ)(a:List KV)(s:Value):Prop:=
 ∃(m:Nat)(t:Tn m)(lo:Ϧ)(q:Nat),s=ϖ q/\RN E.O m w q t/\Good m lo t/\kl k lo=false/\1<=cnt m t/\Bv a k=Bv (cont m t) k/\m<=1000000
def FL(E)(r)(h)(k)(w)(x:E.Dev w)(p:RR E w h r)(hg:RGood r)(ar:r.cont.length<=1000000):
  E.C 102 #[θ E.V h,ϕ k] w λe w'=>e=ϱ (.tuple #[ϕ (Et r.cont k),ϐ (Bv r.cont k).isSome])/\E.To w w':=by
 cases r with
 | none=>
  have p:h=⟨⟨#[]⟩,0,0,none⟩:=p;subst p;rw[θ];go_enter func102,ntmps102;go_wp2_with fail;refine mR (GW E.V _) ?_;rintro w1 I;have a5:Kp [] w w1:=(kF.alloc _).tr I;go_wp2
  go_ret2
  exact .inr ⟨rfl,Env.To.of0 x a5⟩
 | «at» n l=>
  have p:RL E.O n w h l:=p;let⟨g1,g2,g3⟩:=hg;have bk:=KG ⟨g1,g2,g3⟩;have ar:(cont n l.sub).length<=1000000:=ar;let⟨y,al⟩:=eX (cont n l.sub);have HA:Hid (Root.cont (.at n l)=y):=al.symm;obtain⟨tc,bn,bo⟩:∃tc:Array Value,tc=(ϟ E.V h)/\θ E.V h=.agg tc:=⟨_,rfl,rfl⟩;rw[θ];go_enter func102,ntmps102;go_wp2_with fail;let⟨w0,be,az,a4⟩:=alA w (ϲ (ϟ E.V h) 89);rw[<-be];have aj:=Env.To.of0 x a4;refine mR (EQ E n h l w0 (Env.RL p x aj) g1) ?_;rintro w1 I;have M:=aj.tail I;have aa:=I.hp az;have bf:=U aa;have b0:=Y aa;go_wp2_with fail;apply Env.call (Fr E n h l w1 M.dev (Env.RL p x M)) M;rintro e w2 ⟨q,rfl,a6,ak⟩;go_wp2
  go_loopw [6] (λs wr=>Lw E w wr k y s/\E.To w wr/\Ϙ wr (ϳ w) (ϲ (ϟ E.V h) 89)) (λs wr=>Hs wr s)
  case atStart=>exact⟨⟨n,l.sub,l.key,q,rfl,a6,g2,by rw[g1];exact CW _,oM,by rw[al],oM⟩,M.trans ak,ak.new x lR aa⟩
  case round=>
   obtain⟨⟨m,t,lo,q',rfl,L,u,bc,a8,ab,Q⟩,hT,hB⟩:=hrel
   cases m with
   | zero=>
    have bl:=Kb L;let⟨vp,c,G⟩:=L;have bd:=U c;have q0:=ϻ c 0;have a9:(prs t).length<=10000:=Ch 0 lo t u;go_wp2_with fail;apply mR (KS q' 0 vp _ (prs t) k wr c G oM u.sorted);rintro H A;have j:=hT.tail A;have ap:=A.hp c;have R:Hid (Bv y k=if Bo (prs t) (Ah (prs t) k) k then(prs t)[Ah (prs t) k]? else none):=by
     show _=_;rw[ab];exact Wn (l:=prs t) u.sorted k
    have bm:=U ap;have r1:=ϻ ap 1;let⟨i,P⟩:=eY (Ah (prs t) k);rw[P]at R |-;by_cases v:Bo (prs t) i k=true
    .have ao:i<(prs t).length:=by
      unfold Bo at v;by_cases h:i<(prs t).length
      .exact h
      .rw[gN oM]at v;cases v
     have D:=R.out;rw[if_pos v,gQ ao]at D;have T:=zh D;obtain⟨z,d,cp,cur,fr,rfl,ba,F,O⟩:=(G.qM4 A).pair oM;let⟨_,Z⟩:=O i ao;have X:=Y F (d+i*2+1);rw[Z]at X;have bh:=U F;have bi:(i:Int)<((prs t).length:Int):=oM
     rw[v];go_wp2
     go_ret2
     refine .inr ⟨?_,j⟩;rw[HA.out,Et,T.out];rfl
    .have am:Bo (prs t) i k=false:=by simpa using v
     have D:=R.out;rw[am]at D;have bb:Bv y k=none:=by simpa using D
     have T:=zh bb;rw[am];go_wp2
     go_ret2
     refine .inr ⟨?_,j⟩;rw[HA.out,Et,T.out];rfl
   | succ m=>
    let⟨vl,c,b,G,C⟩:=L;let⟨av,ac,au,ad,ae⟩:=Qx u bc a8;have a9:=(Ch (m+1) lo t u).1;have bg:=C.1;have af:b.findIdx (λl=>kl k l.key)-1=Af (J t) k:=by unfold Af;rw[Lm C]
    have aq:=Gn C u.pair;obtain⟨z,d,cp,cur,fr,rfl,ba,F,O⟩:=G.link oM;let⟨i,P⟩:=eY (Af (J t) k);simp[P]at av ac au ad ae af;have an:i<b.length:=oM
    let⟨c0,Z,c2,c3⟩:=O i an;have ax:Hid (RL E.O m wr b[i] (J t)[i]):=C.2 i an av;have bd:=U c;have q0:=ϻ c 0;have bj:(0:Int)<((m+1:Nat):Int):=oM
    have aw:Hid (∀(W:World)(o:Nat),RN E.O m W o (J t)[i].sub->E.To w W->Ϙ W (ϳ w) (ϲ (ϟ E.V h) 89)->(Lw E w W k y (ϖ o)/\E.To w W/\Ϙ W (ϳ w) (ϲ (ϟ E.V h) 89))/\Hs W (ϖ o)<m+1):=by
     show ∀(W:World)(o:Nat),_;intro W o h1 h2 h3;refine⟨⟨⟨m,_,_,o,rfl,h1,ac,ad,oM,by rw[ab,ae],oM⟩,h2,h3⟩,?_⟩;rw[Kb h1];omega
    have ay:Hid (∀W:World,Kp [] wr W->Ω 158 #[ϖ q',ϕ k] W λe w'=>e=ϱ (ϊ (i:Nat))/\Kp [] W w'):=by
     show ∀W:World,_;intro W ah;have:=Ln q' _ _ _ b k W (ah.hp c) (G.qM4 ah) oM aq;rw[af]at this;exact this
    clear ab ac au ad ae af aq O C u P;go_wp2_with fail;have a:=n3 c F hB;refine wp_region_held_drew (S:=λW=>Ϙ W q' (Ai ((m+1:Nat):Int) (ϒ none 0 0) (ϑ z d b.length cp))/\Ϙ W z (ϲ cur 87 fr)/\Ϙ W (ϳ w) (ϲ (ϟ E.V h) 89)) kR a (λ_=>?_);refine zW 0 (.agg (ϟ E.V h)) a (·.2.2) ?_;apply zP 1 q' 0 a;apply zP 2 q' 0 a;apply zP 3 q' 2 a;apply zV 4 (ϑ z d b.length cp) rfl (λW f=>by have V:=ϻ f.1 2;go_simp) a;refine zP 5 q' 0 a ?_;refine zU 6 (ϕ k) a ?_;apply zP 10 q' 0 a;refine zP 11 q' 0 a ?_;refine zP 12 q' 0 a ?_;apply zV 13 (ϊ ((m+1:Nat):Int)) rfl (λW f=>by have V:=ϻ f.1 0;go_simp) a;refine zq 7 λK hK=>?_;go_simp;apply mR (ay wr.drew (kF.drew));rintro H A;have B:Kp [] wr H:=((Kp.refl _ wr).drew).tr A;have g:=And.intro (B.hp c) (And.intro (B.hp F) (B.hp hB));have j:=hT.tail B;refine hK.out _ _ g (λ_=>?_)
    try simp[zZ]
    refine zU 8 (ϗ (some (ϰ z (d+i*4)))) g ?_;refine zV 9 (.agg #[ϕ b[i].key,ϊ b[i].b,.int .u64 b[i].s,ϗ b[i].ptr]) rfl (λW f=>by have V:=Y f.2.1 (d+i*4);have X:=Y f.2.1 (d+i*4+1);have a2:=Y f.2.1 (d+i*4+2);have a3:=Y f.2.1 (d+i*4+3);rw[c0]at V;rw[Z]at X;rw[c2]at a2;rw[c3]at a3;go_simp) g ?_;refine zq 14 λK hK=>?_;go_simp;apply Env.call (BR E m b[i] h (J t)[i] ((m+1:Nat):Int) H j.dev (RL.qM3 ax B (Apt.nil _ _)) oM) j;rintro e w4 ⟨o,rfl,a7,N⟩;have ag:=N.new x lR g.2.2;have ai:=n3 (N.kp.heap g.1 (λQ=>E.apt H j.dev _ Q _ _ _ g.1 dC)) (N.kp.heap g.2.1 (λQ=>E.apt H j.dev _ Q _ _ _ g.2.1 dC)) ag
    apply zk hK ai
    refine zq 15 λK hK=>?_;go_simp;refine hK.out _ _ ai (λ_=>?_);refine zd ?_;go_wp2;rw[Kb L];exact aw.out w4 o a7 (j.trans N) ag
def qE9{n:Nat}{lo k}{t}(b:Good (n+1) lo t)(i:kl k lo=false)(g:1<=cnt (n+1) t){W}{d:Nat}(h:Af (J t) k<(J t).length)(f:Made n (J t)[Af (J t) k] d W)(c:∀x∈W,x.key.size<=8):
  (∀x∈(J t).take (Af (J t) k)++W++(J t).drop (Af (J t) k+1),x.key.size<=8)/\qM2 ι ((J t).take (Af (J t) k)++W++(J t).drop (Af (J t) k+1))<=145:=by
 constructor
 .intro x a;simp only[List.mem_append]at a;rcases a with (a|a)|a
  .exact (b.all x (mT a)).2.2
  .exact c x a
  .exact (b.all x (mD a)).2.2
 .have:=f.qM2 c;have:qM2 ι (J t)<=126:=b.fits;have e:=Da ι (J t) (Af (J t) k);rw[dG h,Au]at e;rw[AL,AL];omega
def zS2{p:Prop}(_h:p:=by
 have hcl:(prs l.sub).length<=10000:=Ch 0 l.key l.sub hg;have hc1:1<=(prs l.sub).length:=hc;have hso:Sorted (prs l.sub):=hg.sorted;have hps:ζ p<=21:=by let⟨h1,h2,h3⟩:=hp;unfold ζ;omega
 have hfit:qM2 ζ (BL p (prs l.sub))<=210:=by
  have e:BL p (prs l.sub)=ins p (prs l.sub):=(FQ hso p).symm;rw[e];have h1:=OP p hso;have h2:qM2 ζ (prs l.sub)<=126:=hg.fits;omega
 have hsz:∀q∈BL p (prs l.sub),ζ q<=21:=by
  have e:BL p (prs l.sub)=ins p (prs l.sub):=(FQ hso p).symm;rw[e];intro q hq;rcases Kg hq with rfl|hq
  .exact hps
  .let⟨⟨h1,h2,h3⟩,_⟩:=hg.all q hq;unfold ζ;omega
 have HKEY:=zh av;have HFIT:=zh (n2 hfit hsz);let⟨vp,hq,hsl⟩:=hN;have hqs:=U hq;have hqs1:q<w.heap.size+1:=oM;have hqs2:q<w.heap.size+1+1:=oM;have q0:=ϻ hq 0;clear av hfit hsz;rw[θ,Aw];go_enter func118,ntmps118;go_wp2_with fail;let⟨w1,hw1,hT1b,hL1,hP1,hK1,hs1⟩:=alD w (ϲ (ϟ E.V r) 89) (ϲ (ϡ h) 87) (ϲ #[.string p.k,.string p.v] 185);rw[<-hw1];clear hw1 hT1b hs1 q0 hqs hqs1 hqs2;have hT1':=Env.To.of0 hd hK1;have hq1:=hK1.hp hq;have hsl1:=hsl.qM4 hK1;clear hq hsl;refine(KS q 0 vp _ (prs l.sub) p.k w1 hq1 hsl1 oM hso).mono ?_;rintro e w2 ⟨rfl,hK2⟩;have hT2:=hT1'.tail hK2;have hq2:=hK2.hp hq1;have hs2:=hsl1.qM4 hK2;have hL2:=hK2.hp hL1;have hP2:=hK2.hp hP1;clear hK2 hq1 hsl1 hL1 hP1 hT1' hK1;obtain⟨bs,cp,hv⟩:∃bs cp,vp=.slice bs (prs l.sub).length cp:=by
  rcases hs2.val with⟨h0,b,c,h1,_⟩|⟨g,off,cap,cur,fr,h1,_⟩
  .rw[h0];exact⟨b,c,h1⟩
  .exact⟨_,cap,h1⟩
 subst hv;let⟨i,hi0⟩:=eY (Ah (prs l.sub) p.k);have:i<=(prs l.sub).length:=by rw[<-hi0];exact Gu _ _
 rw[hi0];have bw:=bw;rw[hi0]at bw;exact Tz.out):p:=_h
def qJ7(E:Env)(r h:HL)(l:Lnk (Tn 0))(q:Nat)(p:KV)(w:Ϣ)(hd:E.Dev w)(av:h.key=l.key)(hN:RN E.O 0 w q l.sub)(hg:Good 0 l.key l.sub)(hp:AD p)(hc:1<=cnt 0 l.sub)(bw:Bo (prs l.sub) (Ah (prs l.sub) p.k) p.k=true):
  Ω 118 #[θ E.V r,Aw h,ϖ q,.agg #[ϕ p.k,ϕ p.v]] w λe w'=>∃v',e=ϱ v'/\RLs E.O 0 w' v' (AN 0 l p)/\E.To w w':=by
 have Tz:Hid (∀{p:Prop},(_h:p:=by
  have hjl:i+1<=(prs l.sub).length:=by
   by_cases h:i<(prs l.sub).length
   .omega
   .unfold Bo at bw;rw[gN oM]at bw
    first | (cases bw;done) | omega
  have o:(prs l.sub).take i++[p]++(prs l.sub).drop (i+1)=BL p (prs l.sub):=by unfold BL;rw[hi0,bw];rfl
  rw[bw];clear hi0;go_wp2_with fail;have hS0:=n3 hq2 hL2 hP2;refine wp_region_held_drew (S:=λW=>Ϙ W q (Ai 0 (.slice bs (prs l.sub).length cp) (.slice none 0 0))/\W.heap[w.heap.size+1]?=some (ϲ (ϡ h) 87)/\W.heap[w.heap.size+1+1]?=some (ϲ #[.string p.k,.string p.v] 185)) kR hS0 (λ_=>?_);refine zU 0 (ϖ (w.heap.size+1)) hS0 ?_;refine zV 1 (.string h.key) rfl (λW hS=>by have c:=Y hS.2.1 0;simp at c;clear hS;go_simp) hS0 ?_;refine zP 2 q 0 hS0 ?_;refine zP 3 q 0 hS0 ?_;refine zP 4 q 1 hS0 ?_;refine zV 5 (.slice bs (prs l.sub).length cp) rfl (λW hS=>by have c:=Y hS.1 1;simp[Ai]at c;clear hS;go_simp) hS0 ?_;refine zU 6 (ϊ i) hS0 ?_;refine zU 7 (ϊ ((i+1:Nat):Int)) hS0 ?_;refine zW 8 (.agg #[.string p.k,.string p.v]) hS0 (·.2.2) ?_;refine zq 9 λK hK=>?_;go_simp;let⟨w3,hw3,d,a⟩:=alF w2 (ϲ #[.string p.k,.string p.v] 185);rw[<-hw3];clear hw3;have bu:=And.intro (a.hp hq2) (And.intro (a.hp hL2) (a.hp hP2));have hs3:=hs2.qM4 a;have ah:=hT2.tail a;refine hK.out _ _ bu (λ_=>?_)
  try simp only[zZ]
  refine zq 10 λK hK=>?_;go_simp;have m:Slc w3 185 2 (.slice (some (ϰ w2.heap.size 0)) 1 1) [p].length (Aa [p]):=⟨rfl,.inr ⟨w2.heap.size,0,1,_,_,rfl,lR,lR,d,λj u s=>by simpa [Aa,pcs] using s⟩⟩
  try rw[show((i:Int)+1)=((i+1:Nat):Int) from by omega]
  refine(KE _ _ (prs l.sub) [p] i (i+1) w3 hs3 m oM hjl hc1 hcl sM).mono ?_;rintro e w4 ⟨t,rfl,k,hK4⟩;rw[o]at k;have hT4:=ah.tail hK4;have hS4:=And.intro (hK4.hp bu.1) (And.intro (hK4.hp bu.2.1) (hK4.hp bu.2.2));refine hK.out _ _ hS4 (λ_=>?_);clear hK K bu hK4 ah m d a hs3
  try simp only[zZ]
  refine zq 11 λK hK=>?_;go_simp;refine(FX E.O h.key t (BL p (prs l.sub)) w4 k (by have:=Ca ζ (BL p (prs l.sub)) (λx _=>by unfold ζ;omega);have:=HFIT.out.1;omega) HFIT.2 HFIT.1).mono ?_;rintro e y ⟨v,rfl,f,b⟩;have n:=hT4.tail b;have g:=And.intro (b.hp hS4.1) (And.intro (b.hp hS4.2.1) (b.hp hS4.2.2));refine hK.out _ _ g (λ_=>?_)
  try simp only[zZ]
  refine zq 12 λK hK=>?_;go_simp;refine hK.out _ _ g (λ_=>?_);refine zd ?_;rw[HKEY.out]at f;go_wp2;go_ret;exact⟨v,rfl,f,n⟩)->p):=λh=>h;exact zS2
def qJ8(E:Env)(r h:HL)(l:Lnk (Tn 0))(q:Nat)(p:KV)(w:Ϣ)(hd:E.Dev w)(av:h.key=l.key)(hN:RN E.O 0 w q l.sub)(hg:Good 0 l.key l.sub)(hp:AD p)(hc:1<=cnt 0 l.sub)(bw:Bo (prs l.sub) (Ah (prs l.sub) p.k) p.k=false):
  Ω 118 #[θ E.V r,Aw h,ϖ q,.agg #[ϕ p.k,ϕ p.v]] w λe w'=>∃v',e=ϱ v'/\RLs E.O 0 w' v' (AN 0 l p)/\E.To w w':=by
 have Tz:Hid (∀{p:Prop},(_h:p:=by
  have hjl:i<=(prs l.sub).length:=by
   by_cases h:i<(prs l.sub).length
   .omega
   .unfold Bo at bw;rw[gN oM]at bw
    first | (cases bw;done) | omega
  have o:(prs l.sub).take i++[p]++(prs l.sub).drop (i)=BL p (prs l.sub):=by unfold BL;rw[hi0,bw];rfl
  rw[bw];clear hi0;go_wp2_with fail;have hS0:=n3 hq2 hL2 hP2;refine wp_region_held_drew (S:=λW=>Ϙ W q (Ai 0 (.slice bs (prs l.sub).length cp) (.slice none 0 0))/\W.heap[w.heap.size+1]?=some (ϲ (ϡ h) 87)/\W.heap[w.heap.size+1+1]?=some (ϲ #[.string p.k,.string p.v] 185)) kR hS0 (λ_=>?_);refine zU 0 (ϖ (w.heap.size+1)) hS0 ?_;refine zV 1 (.string h.key) rfl (λW hS=>by have c:=Y hS.2.1 0;simp at c;clear hS;go_simp) hS0 ?_;refine zP 2 q 0 hS0 ?_;refine zP 3 q 0 hS0 ?_;refine zP 4 q 1 hS0 ?_;refine zV 5 (.slice bs (prs l.sub).length cp) rfl (λW hS=>by have c:=Y hS.1 1;simp[Ai]at c;clear hS;go_simp) hS0 ?_;refine zU 6 (ϊ i) hS0 ?_;refine zU 7 (ϊ ((i:Nat):Int)) hS0 ?_;refine zW 8 (.agg #[.string p.k,.string p.v]) hS0 (·.2.2) ?_;refine zq 9 λK hK=>?_;go_simp;let⟨w3,hw3,d,a⟩:=alF w2 (ϲ #[.string p.k,.string p.v] 185);rw[<-hw3];clear hw3;have bu:=And.intro (a.hp hq2) (And.intro (a.hp hL2) (a.hp hP2));have hs3:=hs2.qM4 a;have ah:=hT2.tail a;refine hK.out _ _ bu (λ_=>?_)
  try simp only[zZ]
  refine zq 10 λK hK=>?_;go_simp;have m:Slc w3 185 2 (.slice (some (ϰ w2.heap.size 0)) 1 1) [p].length (Aa [p]):=⟨rfl,.inr ⟨w2.heap.size,0,1,_,_,rfl,lR,lR,d,λj u s=>by simpa [Aa,pcs] using s⟩⟩
  try rw[show((i:Int)+1)=((i+1:Nat):Int) from by omega]
  refine(KE _ _ (prs l.sub) [p] i (i) w3 hs3 m oM hjl hc1 hcl sM).mono ?_;rintro e w4 ⟨t,rfl,k,hK4⟩;rw[o]at k;have hT4:=ah.tail hK4;have hS4:=And.intro (hK4.hp bu.1) (And.intro (hK4.hp bu.2.1) (hK4.hp bu.2.2));refine hK.out _ _ hS4 (λ_=>?_);clear hK K bu hK4 ah m d a hs3
  try simp only[zZ]
  refine zq 11 λK hK=>?_;go_simp;refine(FX E.O h.key t (BL p (prs l.sub)) w4 k (by have:=Ca ζ (BL p (prs l.sub)) (λx _=>by unfold ζ;omega);have:=HFIT.out.1;omega) HFIT.2 HFIT.1).mono ?_;rintro e y ⟨v,rfl,f,b⟩;have n:=hT4.tail b;have g:=And.intro (b.hp hS4.1) (And.intro (b.hp hS4.2.1) (b.hp hS4.2.2));refine hK.out _ _ g (λ_=>?_)
  try simp only[zZ]
  refine zq 12 λK hK=>?_;go_simp;refine hK.out _ _ g (λ_=>?_);refine zd ?_;rw[HKEY.out]at f;go_wp2;go_ret;exact⟨v,rfl,f,n⟩)->p):=λh=>h;exact zS2
def Jc{α c:Type}{R:α->c->Prop}{a:List α}{b:List c}(h:Both R a b){i:Nat}(d:i<a.length)(e:i<b.length):R a[i] b[i]:=h.2 i d e
def qJ6(E:Env)(n:Nat)
  (ih:∀(r h:HL) (l:Lnk (Tn n)) (q:Nat) (p:KV) (w:Ϣ),E.Dev w->h.key=l.key->RN E.O n w q l.sub->Good n l.key l.sub->AD p->kl p.k l.key=false->1<=cnt n l.sub->l.key.size<=8->E.C 118 #[θ E.V r,Aw h,ϖ q,.agg #[ϕ p.k,ϕ p.v]] w λe w'=>∃v',e=ϱ v'/\RLs E.O n w' v' (AN n l p)/\E.To w w')
  (hn:n<=100000) (r h:HL) (l:Lnk (Tn (n+1))) (q:Nat) (p:KV) (w:Ϣ) (hd:E.Dev w) (bs:h.key=l.key) (hN:RN E.O (n+1) w q l.sub) (T:Good (n+1) l.key l.sub) (hp:AD p) (hk:kl p.k l.key=false) (hc:1<=cnt (n+1) l.sub):
  E.C 118 #[θ E.V r,Aw h,ϖ q,.agg #[ϕ p.k,ϕ p.v]] w λe w'=>∃v',e=ϱ v'/\RLs E.O (n+1) w' v' (AN (n+1) l p)/\E.To w w':=by
 have cb:=(Ch (n+1) l.key l.sub T).1;let⟨M,C,ah,D,_⟩:=Qx T hk hc;have ac:=(T.all _ (List.getElem_mem M)).2.2;let⟨aj,a6,ad⟩:=Gz n (J l.sub)[Af (J l.sub) p.k] p C hp D ac oM;let⟨af,ao⟩:=qE9 T hk hc M ad (λx N=>(aj.all x N).2);have b1:(AN n (J l.sub)[Af (J l.sub) p.k] p).length<=2:=by
  rcases ad with⟨a,e,_⟩|⟨a,b,e,_⟩<;>rw[e]<;>simp
 have ai:AN (n+1) l p=AA n l.key ((J l.sub).take (Af (J l.sub) p.k)++AN n (J l.sub)[Af (J l.sub) p.k] p++(J l.sub).drop (Af (J l.sub) p.k+1)):=by
  show(match (J l.sub)[Af (J l.sub) p.k]? with
   | some m=>AA n l.key ((J l.sub).take (Af (J l.sub) p.k)++AN n m p++(J l.sub).drop (Af (J l.sub) p.k+1))
   | none=>[])=_
  rw[List.getElem?_eq_getElem M]
 have bt:=T.pair;let⟨i,ap⟩:=eY (Af (J l.sub) p.k);simp only[ap]at M C ah D ac aj a6 ad af ao b1 ai;let⟨ls,ar⟩:=eY (J l.sub);simp only[ar]at M C ah D ac aj a6 ad af ao b1 ai cb ap;have b5:=zh ar;have b2:=zh ap;have b9:=zh ai;have HF:Hid ((∀x∈ls.take i++AN n ls[i] p++ls.drop (i+1),ι x<=21)/\qM2 ι (ls.take i++AN n ls[i] p++ls.drop (i+1))<=210):=⟨λx N=>by have:=af x N;unfold ι;omega,oM⟩;have b6:Hid (ls.Pairwise (DG n)):=by show List.Pairwise _ _;rw[<-ar];exact bt
 have ae:Hid (Good n ls[i].key ls[i].sub/\3<=cnt n ls[i].sub/\kl p.k ls[i].key=false/\ls[i].key.size<=8):=⟨C,ah,D,ac⟩;have b4:=zh bs;have z:=zh hd;have HP:=zh hp;have b3:=ih;clear hd bs T hk hc C ah D ac aj a6 ad af ao ai bt hp ih;let⟨vl,hq,g,ay,R⟩:=hN;rw[b5.out]at R;have a9:=zh R.1;have aq:i<g.length:=by have:=a9.out;omega
 have cd:g.length<=10000:=by have:=a9.out;omega
 obtain⟨gb,aa,cp,cur,fr,rfl,cj,bw,bq⟩:=ay.link oM;let⟨c0,c1,c2,c3⟩:=bq i aq;obtain⟨F,au⟩:∃F:Int,((n+1:Nat):Int)=F:=⟨_,rfl⟩;rw[au]at hq;have ba:=zh au.symm;have ck:¬F=0:=oM
 have bv:=Gn R b6.out;have b0:g.findIdx (λl=>kl p.k l.key)-1=i:=by rw[Lm R];exact b2
 have HB:=zh R;have cf:=U hq;have cg:q<w.heap.size+1:=oM
 have aw:q<w.heap.size+1+1:=oM
 have q0:=ϻ hq 0;clear bq R au;rw[θ,Aw];go_enter func118,ntmps118;go_wp2_with fail;let⟨w1,C,bb,bd,bg,P,ch⟩:=alD w (ϲ (ϟ E.V r) 89) (ϲ (ϡ h) 87) (ϲ #[.string p.k,.string p.v] 185)
 rw[<-C];clear C;have bi:=Env.To.of0 z P;have av:=P.hp hq;have az:=ay.qM4 P;have bx:=P.hp bw;have a7:Hid (Both (RL E.O n w1) g ls):=HB.out.mono λx y u=>RL.qM3 u P (Apt.nil _ _);clear hq ay bw HB q0 cf cg aw P;have a5:=Ln q _ _ _ g p.k w1 av az oM bv;rw[b0]at a5;refine a5.mono ?_;rintro e w2 ⟨rfl,v⟩;have bj:=bi.tail v;have ag:=v.hp av;have bz:=az.qM4 v;have bc:=v.hp bb;have be:=v.hp bd;have bh:=v.hp bg;have V:=v.hp bx;have a4:w.heap.size<=w2.heap.size:=by have:=v.size;omega
 have a8:Hid (Both (RL E.O n w2) g ls):=a7.out.mono λx y u=>RL.qM3 u v (Apt.nil _ _);clear v av az bd bg bi bb bx a5 b0 bv a7 ch;have aw:=U ag;have cc:=U V;let⟨x,N⟩:=eY (g[i]);rw[N]at c0 c1 c2 c3;have HX:=zh N;clear N;have a0:=Y V (aa+i*4);rw[c0]at a0;have a1:=Y V (aa+i*4+1);rw[c1]at a1;have a2:=Y V (aa+i*4+2);rw[c2]at a2;have a3:=Y V (aa+i*4+3);rw[c3]at a3;have q2:=ϻ ag 2;go_wp2_with fail;let⟨G,D,an,A⟩:=alA w2 (ϲ (ϡ x) 87);rw[<-D];clear D;have o:=bj.tail A;have bu:=A.hp ag;have ab:=bz.qM4 A;have O:Hid (Both (RL E.O n G) g ls):=a8.out.mono λx y u=>RL.qM3 u A (Apt.nil _ _);let⟨X,bn⟩:=eY w2.heap.size;rw[bn]at an a4 |-;have d:=n5 bu (A.hp be) (A.hp bh) (A.hp bc) an;clear ag bz be bh bc V A an a8 bj a0 a1 a2 a3 q2 aw cc bn c0 c1 c2 c3 bu;let⟨j,hj⟩:=eX (i+1);have cl:IntKind.i64.wrap ((i:Int)+1)=(j:Int):=by rw[IntKind.wrap_i64];omega
 have HJ:=zh hj;clear hj;refine wp_region_held_drew (S:=λW=>W.heap[q]?=some (Ai F (.slice none 0 0) (.slice (some (ϰ gb aa)) g.length cp))/\W.heap[w.heap.size+1]?=some (ϲ (ϡ h) 87)/\W.heap[w.heap.size+1+1]?=some (ϲ #[.string p.k,.string p.v] 185)/\W.heap[w.heap.size]?=some (ϲ (ϟ E.V r) 89)/\W.heap[X]?=some (ϲ (ϡ x) 87)) kR d (λ_=>?_);refine zU 0 (ϖ (w.heap.size+1)) d ?_;refine zV 1 (.string h.key) rfl (λW t=>by have c:=Y t.2.1 0;simp at c;clear t;go_simp) d ?_;refine zP 2 q 0 d ?_;refine zP 3 q 0 d ?_;refine zP 4 q 0 d ?_;refine zV 5 (ϊ F) rfl (λW t=>by have c:=Y t.1 0;simp[Ai]at c;clear t;go_simp) d ?_;refine zP 6 q 0 d ?_;refine zP 7 q 0 d ?_;refine zP 8 q 2 d ?_;refine zV 9 (.slice (some (ϰ gb aa)) g.length cp) rfl (λW t=>by have c:=Y t.1 2;simp[Ai]at c;clear t;go_simp) d ?_;refine zU 10 (ϊ i) d ?_;refine zU 11 (ϊ i) d ?_;refine zU 12 (ϊ (j:Int)) d ?_;refine zW 13 (.agg (ϟ E.V r)) d (·.2.2.2.1) ?_;refine zW 14 (.agg (ϡ x)) d (·.2.2.2.2) ?_;refine zW 15 (.agg (ϟ E.V r)) d (·.2.2.2.1) ?_;refine zW 16 (.agg (ϡ x)) d (·.2.2.2.2) ?_;refine zP 17 q 0 d ?_;refine zP 18 q 0 d ?_;refine zP 19 q 0 d ?_;refine zV 20 (ϊ F) rfl (λW t=>by have c:=Y t.1 0;simp[Ai]at c;clear t;go_simp) d ?_;refine zW 22 (.agg #[.string p.k,.string p.v]) d (·.2.2.1) ?_;refine zq 21 λK hK=>?_;go_simp;have L:=o.tail ((Kp.refl _ _).drew);have bm:RL E.O n G.drew x ls[i]:=by have:=RL.qM3 (Jc O aq M) ((Kp.refl [] _).drew) (Apt.nil _ _);rw[HX.out]at this;exact this
 refine Env.call (BR E n x r ls[i] F G.drew L.dev bm (by have:=ba.out;omega)) L ?_;rintro e w4 ⟨q4,rfl,bf,s⟩;have Q:=L.trans s;have f:=n5 (s.kp.heap (k:=q) d.1 (λhm=>E.apt _ L.dev _ hm _ _ _ d.1 dC)) (s.new (k:=w.heap.size+1) z oM d.2.1) (s.new (k:=w.heap.size+1+1) z oM d.2.2.1) (s.new (k:=w.heap.size) z oM d.2.2.2.1) (s.new (k:=X) z a4 d.2.2.2.2)
 have Z:=Slc.qM3 (w:=G.drew) (ab.qM4 ((Kp.refl [] _).drew)) s.kp ((E.apt _ L.dev).sub dC);have ak:Hid (Both (RL E.O n w4) g ls):=O.out.mono λx y u=>Env.RL (RL.qM3 u ((Kp.refl [] G).drew) (Apt.nil _ _)) L.dev s;refine hK.out _ _ f (λ_=>?_);clear hK K d L bm ab O s o
 try simp only[zZ]
 refine zq 23 λK hK=>?_;go_simp;refine Env.call (b3 r x ls[i] q4 p w4 Q.dev (by have:=(Jc ak aq M).1;rw[HX.out]at this;exact this) bf ae.1 HP ae.2.2.1 (by have:=ae.out.2.1;omega) ae.2.2.2) Q ?_;rintro e G ⟨v3,rfl,ca,o⟩;have bk:=Q.trans o;have I:=n5 (o.kp.heap (k:=q) f.1 (λhm=>E.apt _ Q.dev _ hm _ _ _ f.1 dC)) (o.new (k:=w.heap.size+1) z oM f.2.1) (o.new (k:=w.heap.size+1+1) z oM f.2.2.1) (o.new (k:=w.heap.size) z oM f.2.2.2.1) (o.new (k:=X) z a4 f.2.2.2.2)
 have ab:=Slc.qM3 Z o.kp ((E.apt _ Q.dev).sub dC);have O:Hid (Both (RL E.O n G) g ls):=ak.out.mono λx y u=>Env.RL u Q.dev o;refine hK.out _ _ I (λ_=>?_);clear hK K f Z ak bf
 try simp only[zZ]
 refine zq 24 λK hK=>?_;go_simp;let⟨ax,ci,bo⟩:=ca;have ce:ax.length<=10000:=by rw[bo.1];omega
 have br:=HJ.out;refine(Ig _ v3 g ax i j G ab ci oM oM oM cd ce).mono ?_;rintro e w4 ⟨v4,rfl,Z,B⟩;rw[br]at Z;clear br;have s:=bk.tail B;have bp:Both (RL E.O n w4) (g.take i++ax++g.drop (i+1)) (ls.take i++AN n ls[i] p++ls.drop (i+1)):=(((O.take i).append bo).append (O.drop (i+1))).mono λx y u=>RL.qM3 u B (Apt.nil _ _);have f:=And.intro (B.hp I.1) (And.intro (B.hp I.2.1) (And.intro (B.hp I.2.2.1) (And.intro (B.hp I.2.2.2.1) (B.hp I.2.2.2.2))));refine hK.out _ _ f (λ_=>?_);clear hK K I B ab bk o
 try simp only[zZ]
 refine zq 25 λK hK=>?_;go_simp;refine(GR E.O n F ba h.key v4 (ls.take i++AN n ls[i] p++ls.drop (i+1)) w4 ⟨_,Z,bp⟩ (by have:=Ca ι (ls.take i++AN n ls[i] p++ls.drop (i+1)) (λx _=>by unfold ι;omega);have:=HF.out.2;omega) HF.1 HF.2).mono ?_;rintro e w5 ⟨v5,rfl,al,H⟩;have bl:=s.tail H;have am:=And.intro (H.hp f.1) (And.intro (H.hp f.2.1) (And.intro (H.hp f.2.2.1) (And.intro (H.hp f.2.2.2.1) (H.hp f.2.2.2.2))));refine hK.out _ _ am (λ_=>?_);clear hK K f H s
 try simp only[zZ]
 refine zq 26 λK hK=>?_;go_simp;refine hK.out _ _ am (λ_=>?_);refine zd ?_;rw[b4.out,<-b9.out]at al;have b7:=zh al;have b8:=zh bl;clear am al bl Z bp;go_wp2;go_ret;exact .inr ⟨v5,rfl,b7,b8⟩
def qJ9(E:Env):∀(n:Nat),n<=100000->∀(r h:HL) (l:Lnk (Tn n)) (q:Nat) (p:KV) (w:Ϣ),E.Dev w->h.key=l.key->RN E.O n w q l.sub->Good n l.key l.sub->AD p->kl p.k l.key=false->1<=cnt n l.sub->l.key.size<=8->
  E.C 118 #[θ E.V r,Aw h,ϖ q,.agg #[ϕ p.k,ϕ p.v]] w λe w'=>∃v',e=ϱ v'/\RLs E.O n w' v' (AN n l p)/\E.To w w':=by
 intro n
 induction n with
 | zero=>
  intro _ r h l q p w c g a d f i b _
  cases hat:Bo (prs l.sub) (Ah (prs l.sub) p.k) p.k with
  | true=>exact .of (qJ7 E r h l q p w c g a d f b hat)
  | false=>exact .of (qJ8 E r h l q p w c g a d f b hat)
 | succ n ih=>
  intro j r h l q p w c g a d f i b _;exact qJ6 E n (ih oM) oM r h l q p w c g a d f i b
def Yk(E:Env)(n:Nat)(K:Int)(r:HL)(v:Value)(ls:List (Lnk (Tn n)))(i:Nat)(w:Ϣ)(k:E.Dev w)(I:RLs E.O n w v ls)(c:i<ls.length)(B:ls.length<=10000)(D:ls[i].ref=none)(A:3<=cnt n ls[i].sub)(O:cnt n ls[i].sub<=10000):
  Ω 164 #[θ E.V r,v,ϊ K,ϊ i] w λe w'=>∃v',e=ϱ v'/\RLs E.O n w' v' (Av n ls i)/\E.To w w':=by
 have C:Av n ls i=ls:=by
  unfold Av;rw[gQ c];simp[A,if_true]
 let⟨b,d,a⟩:=I;have l:i<b.length:=by rw[a.1];exact c
 have:b.length<=10000:=by rw[a.1];exact B
 obtain⟨y,s,x,cur,N,rfl,P,o,j⟩:=d.link oM;let⟨c0,L,M,f⟩:=j i l;have m:=Jc a l c;rcases m.new with⟨_,q,G,H⟩|⟨p,_⟩
 .have F:b[i].ptr=some (ϰ q 0):=by simp[HL.ptr,G]
  rw[F]at f;have t:Hid (RLs E.O n w (ϑ y s b.length x) ls):=⟨b,d,a⟩;have:=U o;have u:=Y o (s+i*4+3);rw[f]at u;have:(3:Int)<=((cnt n ls[i].sub:Nat):Int):=oM
  clear a d m j;rw[θ];go_enter func164,ntmps164;go_wp2_with fail;have g:Kp [] w (w.alloc (ϲ (ϟ E.V r) 89)):=kF.alloc _;refine mR (EB E.O n q ls[i].sub _ (RN.qM3 g (Apt.nil _ _) n q _ H) oM) ?_;rintro Q z;go_wp2;go_ret;have h:=Env.To.of0 k (g.tr z);exact⟨_,rfl,by rw[C];exact Env.RLs t k h,h⟩
 .rw[D]at p;cases p
def DE{W}{k:Nat}{a b c d e}(v0 v1 v2 v3 v4)(h:W.heap[k]?=some (ϲ #[a,b,c,d,e] 89)):
  (((((W.setCell (ϰ k 0) v0).setCell (ϰ k 1) v1).setCell (ϰ k 2) v2).setCell (ϰ k 3) v3).setCell (ϰ k 4) v4).heap[k]?=some (ϲ #[v0,v1,v2,v3,v4] 89)/\Kp [k] W (((((W.setCell (ϰ k 0) v0).setCell (ϰ k 1) v1).setCell (ϰ k 2) v2).setCell (ϰ k 3) v3).setCell (ϰ k 4) v4):=
 ⟨ξ (ξ (ξ (ξ (ξ h 0 _) 1 _) 2 _) 3 _) 4 _,(((((Kp.refl _ W).sc _).sc _).sc _).sc _).sc _⟩
def Env.To.qN5{E:Env}{w W a:Ϣ}{k:Nat}{c:ϧ}{t:Ϯ}{d:Nat×Nat}(e:E.To w W)(j:w.heap.size<=k)(f:W.heap[k]?=some (ϲ c t d))(h:t∈Hr)(hK:Kp [k] W a):E.To w a:=
 ⟨E.qM3 W a [k] e.dev hK (λi b=>by rw[mS b];exact⟨c,t,d,f,h⟩),e.kp.trans hK (λi b g=>by rw[mS b]at g;omega)⟩
def RN.qZ8{O:AS}{n:Nat}{w}{q:Nat}{t}(h:RN O n w q t):∃v m x r f s,w.heap[q]?=some (Ai (n:Int) (.slice v m x) (.slice r f s))/\m+f=cnt n t/\(n=0->f=0)/\(n≠0->f=cnt n t):=by
 cases n with
 | zero=>
  let⟨z,a,j⟩:=h;obtain⟨d,e,k⟩:∃d e,z=ϒ d (prs t).length e:=by
   rcases j.val with⟨i,b,c,a,_⟩|⟨g,u,cap,cur,o,a,_⟩
   .rw[i];exact⟨b,c,a⟩
   .exact⟨_,cap,a⟩
  rw[k]at a;exact⟨_,_,_,_,_,_,a,rfl,λ_=>rfl,λh=>absurd rfl h⟩
 | succ n=>
  let⟨y,a,p,j,l⟩:=h;obtain⟨d,e,k⟩:∃d e,y=ϒ d p.length e:=by
   rcases j.val with⟨i,b,c,a,_⟩|⟨g,u,cap,cur,o,a,_⟩
   .rw[i];exact⟨b,c,a⟩
   .exact⟨_,cap,a⟩
  rw[k]at a;refine⟨_,_,_,_,_,_,a,?_,λh=>(by cases h),λ_=>l.1⟩;rw[Nat.zero_add,l.1];rfl
def zS5{p:Prop}(_h:p:=by
 have hptr:x.ptr=some (ϰ q 0):=by simp[HL.ptr,hq1]
 simp[zF,Nat.zero_mul,Nat.add_zero]at c0 c1 c2 c3;rw[hptr]at c3;have:=U hrow;have a0:=Y hrow off;rw[c0]at a0;have a1:=Y hrow (off+1);rw[c1]at a1;have a2:=Y hrow (off+2);rw[c2]at a2;have a3:=Y hrow (off+3);rw[c3]at a3;exact Tz.out):p:=_h
def Qn(E:Env)(n:Nat)(r:HL)(v:Value)(l:Lnk (Tn n))(w:Ϣ)(hd:E.Dev w)(hr:RLs E.O n w v [l])(k:l.ref=none)(hc:min n 1<cnt n l.sub)(o:cnt n l.sub<=10000):
  Ω 103 #[θ E.V r,v] w λe w'=>∃h,e=ϱ (θ E.V h)/\RL E.O n w' h l/\E.To w w':=by
 let⟨hs,hsl,hb⟩:=hr;have b:hs.length=1:=hb.1;obtain⟨gb,off,cp,cur,fr,rfl,hcp,hrow,hcur⟩:=hsl.link oM;obtain⟨x,a⟩:∃x,hs=[x]:=by
  match hs,b with
  | [x],_=>exact⟨x,rfl⟩
 subst a;let⟨c0,c1,c2,c3⟩:=hcur 0 sM;have d:RL E.O n w x l:=hb.2 0 sM sM;rcases d.new with⟨_,q,hq1,hq2⟩|⟨a,_⟩
 .have Tz:Hid (∀{p:Prop},(_h:p:=by
   have:¬((cnt n l.sub:Nat):Int)=0:=oM
   have g:cnt n l.sub<=1000000:=oM
   clear hb hsl hcur hq1 b;rw[θ];go_enter func103,ntmps103;go_wp2_with fail;let⟨w0,hw0,ae,af,f,hK0,hs0⟩:=alD w (ϲ (ϟ E.V r) 89) (ϲ ϛ 89) (ϲ #[ϕ x.key,ϊ x.b,.int .u64 x.s,ϖ q] 87)
   rw[<-hw0];refine mR (EB E.O n q l.sub w0 (RN.qM3 hK0 (Apt.nil _ _) n q _ hq2) g) ?_;rintro w1 hK1;have hK1':=hK0.tr hK1;have hB1:=hK1.hp ae;have bo:=hK1.hp af;have hL1:=hK1.hp f;let⟨y,A,z,t,m,u,c,s,i,j⟩:=(RN.qM3 hK1' (Apt.nil _ _) n q _ hq2).qZ8;have:¬((m:Nat):Int)=1:=by
    have:=hc;by_cases h0:n=0
    .have:=i h0;omega
    .have:=j h0;omega
   have:=U c;have:=U hB1;have:=U bo;have:=U hL1;have:=ϻ c 2;have:=ϻ hB1 0;have:=Y hL1;have:=Y bo;have:=ρ bo;go_wp2;have hts:=DE (ϖ E.V) (ϕ x.key) (ϊ x.b) (.int .u64 x.s) (ϖ q) bo;have hT2:=(Env.To.of0 hd hK1').qN5 oM bo dC hts.2;refine bodyPost_ret (results_cell_row results103 _ _ (ϳ w+1) 89 #[ϖ E.V,ϕ x.key,ϊ x.b,.int .u64 x.s,ϖ q] (0,0) _ rfl hts.1 underlying89 rfl kR) rfl ⟨x,?_,Env.RL d hd hT2,hT2⟩;rw[θ,hptr])->p):=λh=>h;exact zS5
 .rw[k]at a;cases a
def JZ{W}{k:Nat}{a b c d}(v0 v1 v2 v3)(h:W.heap[k]?=some (ϲ #[a,b,c,d] 87)):
  ((((W.setCell (ϰ k 0) v0).setCell (ϰ k 1) v1).setCell (ϰ k 2) v2).setCell (ϰ k 3) v3).heap[k]?=some (ϲ #[v0,v1,v2,v3] 87)/\Kp [k] W ((((W.setCell (ϰ k 0) v0).setCell (ϰ k 1) v1).setCell (ϰ k 2) v2).setCell (ϰ k 3) v3):=
 ⟨ξ (ξ (ξ (ξ h 0 _) 1 _) 2 _) 3 _,((((Kp.refl _ W).sc _).sc _).sc _).sc _⟩
def qI5(E:Env)(r:HL)(v:Value)(l:Lnk (Tn 0))(w:Ϣ)(hd:E.Dev w)(hr:RLs E.O 0 w v [l])(g:l.ref=none)(hc:cnt 0 l.sub=0):
  Ω 103 #[θ E.V r,v] w λe w'=>e=ϱ (θ E.V ⟨⟨#[]⟩,0,0,none⟩)/\E.To w w':=by
 let⟨hs,hsl,hb⟩:=hr;have b:hs.length=1:=hb.1;obtain⟨gb,off,cp,cur,fr,rfl,hcp,hrow,hcur⟩:=hsl.link oM;obtain⟨x,a⟩:∃x,hs=[x]:=by
  match hs,b with
  | [x],_=>exact⟨x,rfl⟩
 subst a;let⟨c0,c1,c2,c3⟩:=hcur 0 sM;have i:RL E.O 0 w x l:=hb.2 0 sM sM;rcases i.new with⟨_,q,hq1,hq2⟩|⟨a,_⟩
 .have Tz:Hid (∀{p:Prop},(_h:p:=by
   have:((cnt 0 l.sub:Nat):Int)=0:=oM
   have f:cnt 0 l.sub<=1000000:=oM
   clear hb hsl hcur hq1 b;rw[θ];go_enter func103,ntmps103;go_wp2_with fail;let⟨w0,hw0,ae,af,d,hK0,hs0⟩:=alD w (ϲ (ϟ E.V r) 89) (ϲ ϛ 89) (ϲ #[ϕ x.key,ϊ x.b,.int .u64 x.s,ϖ q] 87)
   rw[<-hw0];refine mR (EB E.O 0 q l.sub w0 (RN.qM3 hK0 (Apt.nil _ _) 0 q _ hq2) f) ?_;rintro w1 hK1;rw[hc];have hB1:=hK1.hp ae;have bo:=hK1.hp af;have hL1:=hK1.hp d;have:=U hB1;have:=U bo;have:=U hL1;have:=ϻ hB1 0;have:=Y hL1;have:=ρ hL1;have:=Y bo;have:=ρ bo;go_wp2;have c:=JZ (ϕ ⟨#[]⟩) (ϊ 0) (.int .u64 0) (ϗ none) hL1;have bp:=c.2.hp bo;have hts:=DE (ϖ E.V) (ϕ ⟨#[]⟩) (ϊ 0) (.int .u64 0) (ϗ none) bp;exact bodyPost_ret (results_cell_row results103 _ _ (ϳ w+1) 89 #[ϖ E.V,ϕ ⟨#[]⟩,ϊ 0,.int .u64 0,ϗ none] (0,0) _ rfl hts.1 underlying89 rfl kR) rfl ⟨rfl,((Env.To.of0 hd (hK0.tr hK1)).qN5 oM hL1 dC c.2).qN5 oM bp dC hts.2⟩)->p):=λh=>h;exact zS5
 .rw[g]at a;cases a
def qI6(E:Env)(n:Nat)(r:HL)(v:Value)(l:Lnk (Tn (n+1)))(m:Lnk (Tn n))(w:Ϣ)(hd:E.Dev w)(hr:RLs E.O (n+1) w v [l])(z:l.ref=none)(hm:J l.sub=[m]):
  Ω 103 #[θ E.V r,v] w λe w'=>∃h,e=ϱ (θ E.V h)/\RL E.O n w' h m/\E.To w w':=by
 let⟨hs,hsl,hb⟩:=hr;have b:hs.length=1:=hb.1;obtain⟨gb,off,cp,cur,fr,rfl,hcp,hrow,hcur⟩:=hsl.link oM;obtain⟨x,d⟩:∃x,hs=[x]:=by
  match hs,b with
  | [x],_=>exact⟨x,rfl⟩
 subst d;let⟨c0,c1,c2,c3⟩:=hcur 0 sM;have B:RL E.O (n+1) w x l:=hb.2 0 sM sM;rcases B.new with⟨_,q,hq1,hq2⟩|⟨d,_⟩
 .have Tz:Hid (∀{p:Prop},(_h:p:=by
   have g:Hid (cnt (n+1) l.sub=1):=by show(J l.sub).length=1;rw[hm];rfl
   clear hb hsl hcur hq1 b;rw[θ];go_enter func103,ntmps103;go_wp2_with fail;let⟨w0,hw0,ae,af,i,hK0,hs0⟩:=alD w (ϲ (ϟ E.V r) 89) (ϲ ϛ 89) (ϲ #[ϕ x.key,ϊ x.b,.int .u64 x.s,ϖ q] 87)
   rw[<-hw0];refine mR (EB E.O (n+1) q l.sub w0 (RN.qM3 hK0 (Apt.nil _ _) (n+1) q _ hq2) (by rw[g.out];omega)) ?_;rintro w1 hK1;have hK1':=hK0.tr hK1;have hT1:=Env.To.of0 hd hK1';have hB1:=hK1.hp ae;have bo:=hK1.hp af;have hL1:=hK1.hp i;rw[g.out];let⟨vl,A,hs,hsl,hb⟩:=hq2;have c:=hK1'.hp A;rw[hm]at hb;obtain⟨y,D⟩:∃y,hs=[y]:=by
    have b:hs.length=1:=hb.1
    match hs,b with
    | [y],_=>exact⟨y,rfl⟩
   subst D;obtain⟨N,f,L,K,M,rfl,O,C,u⟩:=hsl.link sM;have a:=hK1'.hp C;let⟨k,o,s,t⟩:=u 0 sM;simp[zF,Nat.zero_mul,Nat.add_zero]at k o s t;have hry:RL E.O n w y m:=hb.2 0 sM sM;obtain⟨lv,hlv⟩:∃lv:Int,((n+1:Nat):Int)=lv:=⟨_,rfl⟩;rw[hlv]at c;have:=U a;have F:=Y a f;rw[k]at F;have G:=Y a (f+1);rw[o]at G;have H:=Y a (f+2);rw[s]at H;have I:=Y a (f+3);rw[t]at I;have:=U c;have:=U hB1;have:=U bo;have:=U hL1;have:=ϻ c 2;have:=ϻ hB1 0;have:=Y hL1;have:=ρ hL1;have:=Y bo;have:=ρ bo;have:Hid (w.heap.size+3<=w1.heap.size):=by have:=hK1.size;show _<=_;omega
   clear hB1 c hK1 hK0 ae af i hK1' a0 a1 a2 a3;go_wp2;have j:=JZ (ϕ y.key) (ϊ y.b) (.int .u64 y.s) (ϗ y.ptr) hL1;have bp:=j.2.hp bo;have hts:=DE (ϖ E.V) (ϕ y.key) (ϊ y.b) (.int .u64 y.s) (ϗ y.ptr) bp;have hT2:=hT1.qN5 oM hL1 dC j.2;have ah:=hT2.qN5 oM bp dC hts.2;exact bodyPost_ret (results_cell_row results103 _ _ (w.heap.size+1) 89 (ϟ E.V y) (0,0) _ rfl hts.1 underlying89 rfl kR) rfl ⟨y,rfl,Env.RL hry hd ah,ah⟩)->p):=λh=>h;exact zS5
 .rw[z]at d;cases d
def En:(n:Nat)→Tn n→Prop
 | 0,_=>True
 | n+1,t=>2≤(J t).length∧∀l∈J t,En n l.sub
def JA:∀(n:Nat)(lo)(t),Good n lo t->min n 1<cnt n t->En n t
 | 0,_,_,_,_=>trivial
 | n+1,lo,t,h,hc=>by
  have:min (n+1) 1<(J t).length:=hc;exact⟨oM,λl a=>JA n l.key l.sub (h.all l a).1 (oW ((h.all l a).2.1))⟩
def GC(w:Ϣ)(S:Ϥ):Prop:=∀k∈S,∀c t fr,w.heap[k]?=some (ϲ c t fr)->t∉Bi\/(t=87/\c.size<=4)
def qE4{S}{w w'}(hK:Kp S w w')(k:GC w S){v}{hs}(h:Slc w 87 4 v hs.length (Ag hs))(n:2<=hs.length):Slc w' 87 4 v hs.length (Ag hs):=by
 refine⟨h.len,?_⟩;rcases h.val with h|⟨g,m,cap,cur,e,f,_,j,a,b⟩
 .exact .inl h
 .refine .inr ⟨g,m,cap,cur,e,f,oM,j,hK.heap a (λl=>?_),b⟩;rcases k g l _ _ _ a with c|⟨_,c⟩
  .exact c dC
  .let⟨d,_⟩:=Fe (ls:=hs) (i:=1) oM;have:=(Array.getElem?_eq_some_iff.1 (b _ _ d)).1;omega
def RN.qS4{O:AS}{S}{w w'}(hK:Kp S w w')(j:GC w S):∀(n:Nat)(q:Nat)(t),En n t->RN O n w q t->RN O n w' q t
 | 0,q,t,_,h=>by
  let⟨C,d,f⟩:=h;have p:∀(k:Nat)(c:Array Value)(t:TypeId)(b:Nat×Nat),Ϙ w k (ϲ c t b)->t∈Bi->t≠87->k∉S:=λk c t b e ht hne m=>by
   rcases j k m c t b e with a|⟨a,_⟩
   .exact a ht
   .exact hne a
  refine⟨C,hK.heap d (p q _ _ _ d dC dC),f.len,?_⟩;rcases f.val with h|⟨g,A,cap,cur,b,v,x,y,r,z⟩
  .exact .inl h
  .exact .inr ⟨g,A,cap,cur,b,v,x,y,hK.heap r (p g _ _ _ r dC dC),z⟩
 | n+1,q,t,hw,h=>by
  let⟨B,d,u,f,l⟩:=h;refine⟨B,hK.heap d (λm=>?_),u,qE4 hK j f (by rw[l.1];exact hw.1),l.1,λi s o=>(l.2 i s o).mono (λq hq=>RN.qS4 hK j n q _ (hw.2 _ (gM o)) hq) (λ_ _ h=>h)⟩;rcases j q m _ _ _ d with a|⟨a,_⟩
  .exact a dC
  .cases a
def RL.qS4{O:AS}{S}{w w'}{n:Nat}{h}{l}(c:RL O n w h l)(hK:Kp S w w')(a:GC w S)(d:En n l.sub):RL O n w' h l:=c.mono (λq b=>RN.qS4 hK a n q _ d b) (λ_ _ h=>h)
def qI7(E:Env)(n:Nat)(r:HL)(v:Value)(l m:Lnk (Tn n))(w:Ϣ)(V:E.Dev w)(hr:RLs E.O n w v [l,m])(hn:n<=100000)(bm:l.ref=none)(hk:l.key.size<=8/\m.key.size<=8)(bq:En n l.sub)(br:En n m.sub):
  Ω 103 #[θ E.V r,v] w λe w'=>∃h,e=ϱ (θ E.V h)/\RL E.O (n+1) w' h ⟨⟨#[]⟩,none,[l,m]⟩/\E.To w w':=by
 have au:qM2 ι [l,m]<=126:=by simp[qM2,ι];omega
 have bi:AA n ⟨#[]⟩ [l,m]=[⟨⟨#[]⟩,none,[l,m]⟩]:=by
  unfold AA Aq;rw[if_pos au];rfl
 have aw:∀x∈[l,m],ι x<=21:=by
  intro x d;simp[mC,lN,or_false]at d;unfold ι;rcases d with rfl|rfl<;>omega
 let⟨hs,a8,R⟩:=hr;have u:hs.length=2:=R.1;obtain⟨gb,G,cp,cur,fr,rfl,bw,p,aq⟩:=a8.link oM;obtain⟨x,I,d⟩:∃x I,hs=[x,I]:=by
  match hs,u with
  | [x,I],_=>exact⟨x,I,rfl⟩
 subst d;let⟨c0,c1,c2,K⟩:=aq 0 sM;have a6:RL E.O n w x l:=R.2 0 sM sM;rcases a6.new with⟨_,q,a4,a5⟩|⟨d,_⟩
 .have ay:x.ptr=some (ϰ q 0):=by simp[HL.ptr,a4]
  simp[zF,Nat.zero_mul,Nat.add_zero]at c0 c1 c2 K;rw[ay]at K;have ae:Hid ((∀x∈[l,m],ι x<=21)/\qM2 ι [l,m]<=210):=⟨aw,oM⟩;have HW:Hid (En (n+1) [l,m]):=⟨by show 2<=2;omega,λz F=>by
   have F:z∈[l,m]:=F;simp[mC,lN,or_false]at F;rcases F with rfl|rfl<;>assumption⟩
  let⟨pb,pl,pc,lb,ll,lc,D,_⟩:=a5.obj;obtain⟨a,av⟩:∃a:Int,(n:Int)=a:=⟨_,rfl⟩;rw[av]at D;have:0<=a/\a<=100000:=oM
  have ba:Hid (a+1=((n+1:Nat):Int)):=by show _=_;omega
  have:=U D;have o0:∀A B C:Obj,(((w.alloc A).alloc B).alloc C).cell? (ϰ q 0)=some (ϊ a):=λA B C=>(Y (ν _ (ν _ (ν _ D))) 0).trans sM;have:IntKind.i64.wrap (a+1)=a+1:=by rw[wK];omega
  have:=U p;have a0:=Y p G;rw[c0]at a0;have a1:=Y p (G+1);rw[c1]at a1;have a2:=Y p (G+2);rw[c2]at a2;have a3:=Y p (G+3);rw[K]at a3;clear R a8 aq a6 a5 ay a4 u av aw au hk bq br;rw[θ];go_enter func103,ntmps103;go_wp2_with fail;let⟨w0,bo,af,ak,ai,O,bz⟩:=alD w (ϲ (ϟ E.V r) 89) (ϲ ϛ 89) (ϲ #[ϕ x.key,ϊ x.b,.int .u64 x.s,ϖ q] 87)
  rw[<-bo];have ao:=Env.To.of0 V O;refine(GR E.O n (a+1) ba ⟨#[]⟩ _ [l,m] w0 (Env.RLs hr V ao) sM ae.1 ae.2).mono ?_;rintro e w1 ⟨v1,rfl,al,o⟩;rw[bi]at al;let⟨ac,a9,T⟩:=al;obtain⟨y,hy⟩:∃y,ac=[y]:=by
   have u:ac.length=1:=T.1
   match ac,u with
   | [y],_=>exact⟨y,rfl⟩
  subst hy;obtain⟨gy,H,cy,bu,bv,rfl,bx,k,ar⟩:=a9.link sM;let⟨y0,y1,y2,y3⟩:=ar 0 sM;simp[zF,Nat.zero_mul,Nat.add_zero]at y0 y1 y2 y3;have a7:RL E.O (n+1) w1 y ⟨⟨#[]⟩,none,[l,m]⟩:=T.2 0 sM sM;let⟨X,bn⟩:=id a7;let⟨S,ab,q',aa,bd⟩:=bn;have bs:y=⟨⟨#[]⟩,0,0,some q'⟩:=by
   let⟨ya,yb,yc,yd⟩:=y;simp only at X S ab aa;subst X S ab aa;rfl
  subst bs;have az:HL.ptr ⟨⟨#[]⟩,0,0,some q'⟩=some (ϰ q' 0):=rfl;rw[az]at y3;simp only at y0 y1 y2;have:=U k;have s0:=Y k H;rw[y0]at s0;have s1:=Y k (H+1);rw[y1]at s1;have s2:=Y k (H+2);rw[y2]at s2;have s3:=Y k (H+3);rw[y3]at s3;have ah:=O.tr o;have bf:=Env.To.of0 V ah;have M:=o.hp af;have s:=o.hp ak;have g:=o.hp ai;have:=U M;have:=U s;have:=U g;have:=ϻ M 0;have:=Y g;have:=ρ g;have:=Y s;have:=ρ s;clear a9 T ar aa az X S ab ah o ao O af ak ai a0 a1 a2 a3 o0 D k;go_wp2_with fail;have bl:=JZ (ϕ ⟨#[]⟩) (ϊ 0) (.int .u64 0) (ϖ q') g;let⟨w2,bp,aj,f⟩:=gE bl;rw[<-bp];have L:GC w1 [ϳ w+1+1]:=λi W c t bb e=>by
   rw[mS W,g]at e;cases e;exact .inr ⟨rfl,sM⟩
  have Q:=RN.qS4 f L (n+1) q' _ HW bd;have am:=f.hp s;have ag:=f.ho M;have ap:=bf.qN5 oM g dC f;have an:=RL.qS4 a7 f L HW.out;refine mR (EB E.O (n+1) q' [l,m] w2 Q (by show 2<=1000000;omega)) ?_;rintro w3 b;rw[show cnt (n+1) [l,m]=2 from rfl];let⟨b2,b4,b3,b0,bt,b1,Z,bj,_,ax⟩:=(RN.qM3 b (Apt.nil _ _) (n+1) q' _ Q).qZ8;have bk:bt=2:=(ax oM).trans rfl;have j:=b.hp am;have N:=b.hp ag;have P:=b.hp aj;have bg:=ap.tail b;have be:=RL.qM3 an b (Apt.nil _ _);subst bk;have:=U Z;have:=U N;have:=U j;have:=U P;have:=ϻ Z 2;have:=ϻ N 0;have:=Y P;have:=Y j;have:=ρ j;clear Z N P an ap Q am ag aj f b L bj ax;go_wp2;have ad:=DE (ϖ E.V) (ϕ ⟨#[]⟩) (ϊ 0) (.int .u64 0) (ϖ q') j;have bh:=bg.qN5 oM j dC ad.2;have bc:Apt w3 [ϳ w+1] Bi:=λi W c t bb e=>by
   rw[mS W,j]at e;cases e;decide
  exact bodyPost_ret (results_cell_row results103 _ _ (ϳ w+1) 89 #[ϖ E.V,ϕ ⟨#[]⟩,ϊ 0,.int .u64 0,ϖ q'] (0,0) _ rfl ad.1 underlying89 rfl kR) rfl ⟨⟨⟨#[]⟩,0,0,some q'⟩,rfl,RL.qM3 be ad.2 bc,bh⟩
 .rw[bm]at d;cases d
def KI{P:Program}(w)(base:Nat)(t ty e)(i:TypeInfo)(z)(b h:Nat)(s:P.underlying t=some (.slice e))(o:P.info? e=some i)(E:i.zero=some z)
  (ψ:i.size=b) (A:i.bytes=h) (F:z.cells.size=b) (D:0<b)
  (v) (n:Nat) (xs:Ϩ) (f:w.ownsRow base e b v n xs)
  (a) (m c:Nat) (news:Ϩ) (p:news.length=m*b) (q:∀j u,news[j]?=some u->w.cell? (a.add j)=some u) (x:∀u∈news,u.oneCell'=true)
  (y:n+m<=maxLen) (B:(n+m)*h<=140737488355328) (K:base<=w.heap.size):
  ∃l w',(Builtin.append_ #[t,t] ty #[v,.slice (some a) m c]).run P w=.ok l w'/\w'.ownsRow base e b l (n+m) (xs++news)/\w.grownBy w' v.ownBlock/\∀k,l.ownBlock=some k->v.ownBlock=some k\/w.heap.size<=k:=by
 let⟨l,w',r,S,T,_⟩:=run_append_own (P:=P) w base t ty e i z b h s o E ψ A F D v n xs f a m c news p q x y B K;refine⟨l,w',r,S,T,λk C=>?_⟩;rcases f.2 with⟨I,M⟩|⟨g,cap,cur,O,W,X,Z,h5,h6,h7⟩
 .subst I M;have R:=List.length_eq_zero_iff.1 (by have:=f.1;simpa using this);subst R;let⟨V,H,d,G,_⟩:=run_append_own (P:=P) w w.heap.size t ty e i z b h s o E ψ A F D (.slice none 0 0) 0 [] (wN _ _ _ _) a m c news p q x y B lR;rw[r]at d;cases d;exact .inr (World.ownsRow.lt G k C).1
 .subst O;by_cases N:n+m<=cap
  .let⟨H,d,_⟩:=run_append_fits w base t ty e i b s o ψ g n cap xs f a m c news p q x N;rw[r]at d;cases d;exact .inl C
  .have L:∀j u,xs[j]?=some u->w.cell? (((ϰ g 0):Addr).add j)=some u:=World.ownsRow.cells f rfl;let⟨V,H,d,G,_⟩:=run_append_arg_grows w t ty e i z b h s o E ψ A F D (ϰ g 0) n cap xs f.1 L a m c news p q oM y B;rw[r]at d;cases d;exact .inr (World.ownsRow.lt G k C).1
section
variable {P:Program} {w:Ϣ} {ops:Array Oper} {rest:List Oper} {a:Act} {Q:Exit→Act→ϯ} {dst:Option Tmp} {ty:Ϯ} {pos:String} {aft:Array Edge}
def Vl{o:Oper}{s x:Operand}{t e}(H:o.op=.call { callee:=.builtin .append,args:=#[s,x],argTypes:=#[t,t] })(z)(d p:Nat)(O:P.underlying t=some (.slice e))(D:(P.info? e).map (λi=>(i.zero,i.size,i.bytes))=some (some z,d,p))
  (S:z.cells.size=d) (M:0<d) (base:Nat) (v) (n:Nat) (xs:Ϩ) (L:a.eval s=v) (I:w.ownsRow base e d v n xs)
  (b f m c:Nat) (g) (tb) (fr) (R:a.eval x=.slice (some (ϰ b f)) m c) (y:w.heap[b]?=some (ϲ g tb fr)) (F:f+m*d<=g.size)
  (r:∀u∈(Ad g f (m*d)).toList,u.oneCell'=true) (X:n+m<=1000000000) (C:(n+m)*p<=140737488355328) (A:base<=w.heap.size):
  ∃h w',Sem.run P (execOp a.eval o) w=.ok (.value h) w'/\w'.ownsRow base e d h (n+m) (xs++(Ad g f (m*d)).toList)/\w.grownBy w' v.ownBlock/\(∀k,h.ownBlock=some k->v.ownBlock=some k\/w.heap.size<=k):=by
 let⟨i,E,l⟩:=Option.map_eq_some_iff.1 D;simp[Prod.mk.injEq]at l;let⟨l,N,B⟩:=l;have q:=Ed (cs:=g) F;let⟨h,w',K,T,V,W⟩:=KI (P:=P) w base t o.type e i z d p O E l N B S M v n xs I (ϰ b f) m c (Ad g f (m*d)).toList (sU q) (λj u hj=>by
  rw[Br,Y y];have G:j<m*d:=by
   have:=(gS hj).1;simp[q]at this;exact this
  rw[<-EH G];simpa using hj) r (by unfold maxLen;omega) C A
 refine⟨h,w',?_,T,V,W⟩;unfold execOp;simp[H,resolve,invoke,builtin,Sem.run_bind,Sem.run_pure,Result.andThen_ok,List.map_toArray,List.map_cons,List.map_nil,L,R,K]
def KU{o:Oper}{K:Act->ϯ}{E:Prop}(A:o.guard=none){s x:Operand}{t e}(D:o.op=.call { callee:=.builtin .append,args:=#[s,x],argTypes:=#[t,t] })(z)(d j:Nat)(L:P.underlying t=some (.slice e))(B:(P.info? e).map (λi=>(i.zero,i.size,i.bytes))=some (some z,d,j))
  (N:z.cells.size=d) (I:0<d) (base:Nat) (v) (n:Nat) (xs:Ϩ) (H:a.eval s=v) (F:w.ownsRow base e d v n xs)
  (b f m c:Nat) (g) (tb) (fr) (M:a.eval x=.slice (some (ϰ b f)) m c) (q:w.heap[b]?=some (ϲ g tb fr)) (C:f+m*d<=g.size)
  (l:∀u∈(Ad g f (m*d)).toList,u.oneCell'=true) (p:n+m<=1000000000) (y:(n+m)*j<=140737488355328) (r:base<=w.heap.size)
  (hK:∀h w',w'.ownsRow base e d h (n+m) (xs++(Ad g f (m*d)).toList)->w.grownBy w' v.ownBlock->(∀k,h.ownBlock=some k->v.ownBlock=some k\/w.heap.size<=k)->K (a.put o.dst h) w'):
  if Region.wanted o (yielded ops a.tmps)=true then Oper.wp P o a w K Q else E:=by
 let⟨h,w',G,O,R,S⟩:=Vl (P:=P) D z d j L B N I base v n xs H F b f m c g tb fr M q C l p y r;exact AU A G (hK h w' O R S)
end
end Go.Proofs.YtdohpenfkdckiaaGreatDoor
