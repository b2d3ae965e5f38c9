import Derived.Test.YtdohpenfkdckiaaGreatDoorJ07
import Derived.Lib.SmallJoins
import Derived.Maps.AppendAt
set_option linter.all false
set_option maxRecDepth 100000
set_option maxHeartbeats 0
namespace Go.Proofs.YtdohpenfkdckiaaGreatDoor
open Go.Proofs.Tryz Go.RowKit
def CP(k:Int)(w):Ω 127 #[ϊ k] w λe a=>e=ϱ (ϊ k)/\a=w:=by go_enter func127,ntmps127;go_wp2;go_ret;exact⟨rfl,rfl⟩
def Gv(c:Int)(n:Nat)(w)(g:-9223372036854775808<=c)(h:c<=9223372036854775807)(k:1<=n)(l:n<=1000000):Ω 79 #[ϊ c,ϊ n] w λe f=>∃j:Nat,e=ϱ (ϊ j)/\j<n/\f=w:=by have a:¬((n:Int)=0):=oM;by_cases i:c<0;(.go_enter func79,ntmps79;go_wp2;go_ret;(have b:-((c+1).tmod (n:Int))=(-(c+1)) % (n:Int):=by rw[<-Int.neg_tmod,Int.tmod_eq_emod_of_nonneg oM]);have d:=Int.emod_nonneg (-(c+1)) a;have:=Int.emod_lt_of_pos (-(c+1)) (show(0:Int)<n by omega);refine⟨((-(c+1)) % (n:Int)).toNat,?_,oM,rfl⟩;rw[Int.toNat_of_nonneg d,<-b];rfl);go_enter func79,ntmps79;go_wp2;go_ret;have:=Int.emod_lt_of_pos c (show(0:Int)<n by omega);refine⟨(c % (n:Int)).toNat,?_,oM,rfl⟩;rw[Int.toNat_of_nonneg (Int.emod_nonneg c a)];rfl
def Ua(c:Int)(w)(h:c<0):Ω 122 #[ϊ c] w λe a=>e=ϱ (ϊ 0)/\a=w:=by go_enter func122,ntmps122;go_wp2;go_ret;exact⟨rfl,rfl⟩
def T9(c:Int)(w)(h:¬c<0):Ω 122 #[ϊ c] w λe a=>e=ϱ (ϊ (c % 1000))/\a=w:=by go_enter func122,ntmps122;go_wp2;go_ret;exact⟨rfl,rfl⟩
def JC:(prog.info? 126).map (λi=>(i.zero,i.size,i.bytes))=some (some (.agg #[.slice none 0 0]),1,24):=kR
def qA3(w)(ty):Sem.run prog (Builtin.append_ #[121,121] ty #[.slice none 0 0,.slice none 0 0]) w=.ok (.slice none 0 0) w:=by let⟨e,a,b,c,d⟩:=info_parts JC;simp[Builtin.append_,run_underlying underlying121,sizeOf,typeInfo,a,Builtin.lenOf,Builtin.firstCells]
def GD{P:Program}{c:Array Oper}{d:List Oper}{b:Option Tmp}{ty}{j:String}{e:Array Edge}{a:Act}{w w'}{Q:Exit->Act->ϯ}{s x:Operand}{t}{vs vx v'}(g:a.eval s=vs)(i:a.eval x=vx) (f:Sem.run P (Builtin.append_ #[t,t] ty #[vs,vx]) w=.ok v' w') (h:wpList P c Q d (a.put b v') w'):wpList P c Q (⟨b,.call { callee:=.builtin .append,args:=#[s,x],argTypes:=#[t,t] },ty,j,e,none⟩::d) a w:=by refine wpList_plain rfl λK hK=>?_;unfold Oper.wp execOp;simp[resolve,invoke,builtin,Sem.run_bind,Sem.run_pure,Result.andThen_ok,List.map_toArray,List.map_cons,List.map_nil,g,i,f];exact hK _ _ h
def Ed(w:Ϣ)(S:Ϥ)(t:Ϯ):Prop:=∀k,k∈S->∃c u fr,w.heap[k]?=some (ϲ c u fr)/\u≠t
def V4(may qL7)(n:Nat)(e c a:Bool)(w)(f:8<=n)(d:n<=400):Ω 128 #[.agg #[ϊ n,may,ϐ e,qL7,ϐ c,ϐ a]] w λr b=>r=ϱ (ϐ true)/\Kp [] w b:=by go_enter func128,ntmps128;go_wp2;go_ret;exact⟨by show Ending.returned (Value.bool<|decide ((n:Int)<=400))=_;rw[decide_eq_true oM],kF.alloc _⟩
def V3(may qL7)(n:Nat)(e d b:Bool)(w)(a:n<8\/400<n):Ω 128 #[.agg #[ϊ n,may,ϐ e,qL7,ϐ d,ϐ b]] w λr c=>r=ϱ (ϐ false)/\Kp [] w c:=by by_cases f:n<8;(.clear a;go_enter func128,ntmps128;go_wp2;go_ret;exact⟨rfl,kF.alloc _⟩);have:400<n:=oM;clear a;go_enter func128,ntmps128;go_wp2;go_ret;exact⟨by show Ending.returned (Value.bool<|decide ((n:Int)<=400))=_;rw[decide_eq_false oM],kF.alloc _⟩
section
open Go.RowKit Go.Extern.Stop Go.Stop Go.Extern
def TJ(v)(w):(ReflectliteType.typeOf #[.iface 330 v]).run prog w=.ok (.iface 220 (.agg #[ϗ (some (ϰ 5 330))])) w:=kR
def TB(w):(ReflectliteType.relation "AssignableTo" ReflectliteType.assignableTo #[.agg #[ϗ (some (ϰ 5 330))],.iface 220 (.agg #[ϗ (some (ϰ 5 45))])]).run prog w=.ok (ϐ false) w:=kR
def qG8(p)(w):Ω 355 #[ϗ (some p)] w λe a=>e=ϱ (.iface 45 (ϊ 8))/\a=w:=by go_enter func355,ntmps355;go_wp2;go_ret;exact⟨rfl,rfl⟩
def Ty(F E a:Nat)(call)(p)(w)(j:w.heap[F]?=some (ϲ #[ϕ call,.iface 330 (ϗ (some p))] 246))(i:w.heap[E]?=some (ϲ #[ϊ 0] 45))(l:w.heap[a]?=some (ϲ #[ϖ E] 95)):Ω 98 #[.iface 243 (ϖ F),.iface 95 (ϖ E),.agg #[ϗ (some (ϰ 5 95)),ϖ a,.int .u64 150],.iface 220 (.agg #[ϗ (some (ϰ 5 45))])] w λe o=>e=ϱ (ϐ true)/\o.heap[E]?=some (ϲ #[ϊ 8] 45)/\Kp [E] w o:=by have:=@run_callFunc_extern prog 95 _ (λargs=>ReflectliteValue.unpack<|args.getD 0<|.tuple #[]) func95 kR kR kR kR;have:=@run_callFunc_extern prog 151 _ ReflectliteType.typeOf func151 kR kR kR kR;have:=@run_callFunc_extern prog 342 _ (ReflectliteType.relation "AssignableTo" ReflectliteType.assignableTo) func342 kR kR kR kR;have:=@run_callFunc_extern prog 152 _ (ReflectliteValue.method (ReflectliteValue.valueError "reflectlite.Value.Elem" 0) ReflectliteValue.elem) func152 kR kR kR kR;have:=@run_callFunc_extern prog 153 _ ReflectliteValue.set func153 kR kR kR kR;have:=NH;have:=Jh;have:=Ny;have:=Jf;have:=Nr;have:=Nq;have:=TJ;have:=TB;have:=ND;have:∀W:World,Sem.run prog (Instr.typeAssert (.iface 330<|ϗ<|some p) 38 225 true) W=.ok (.tuple #[.nilIface,ϐ false]) W:=λW=>run_typeAssert_lacksB underlying225 kR kR _ _ W;have:∀W:World,Sem.run prog (Instr.typeAssert (.iface 330<|ϗ<|some p) 38 228 true) W=.ok (.tuple #[.iface 330<|ϗ<|some p,ϐ true]) W:=λW=>run_typeAssert_hasB underlying228 kR _ _ W;have:=NJ;have:∀W:World,Sem.run prog (Instr.typeAssert (.iface 243<|ϖ F) 38 225 true) W=.ok (.tuple #[.nilIface,ϐ false]) W:=λW=>run_typeAssert_lacksB underlying225 kR kR _ _ W;have:∀W:World,Sem.run prog (Instr.typeAssert (.iface 243<|ϖ F) 38 228 true) W=.ok (.tuple #[.iface 243<|ϖ F,ϐ true]) W:=λW=>run_typeAssert_hasB underlying228 kR _ _ W;have:=U i;have:=U j;have:=U l;go_enter func98,ntmps98;go_wp2;refine dS 4 ?_;rw[cN];go_wp2_with fail;obtain⟨b,c,k,s⟩:∃b,b=w.alloc (ϲ #[ϗ<|some<|ϰ 5 95,ϖ a,.int .u64 150] 143)/\Kp [E] w b/\b.heap.size=w.heap.size+1:=⟨_,rfl,kF.alloc _,sM⟩;(have q:Ϙ b F (ϲ #[ϕ call,.iface 330<|ϗ<|some p] 246):=by rw[c];exact ψ _ j);(have d:Ϙ b E (ϲ #[ϊ 0] 45):=by rw[c];exact ψ _ i);(have r:Ϙ b a (ϲ #[ϖ E] 95):=by rw[c];exact ψ _ l);(have g:Ϙ b w.heap.size (ϲ #[ϗ<|some<|ϰ 5 95,ϖ a,.int .u64 150] 143):=by rw[c];exact φ _ _);rw[<-c];clear c;have u:=Y g 0;have v:=Y g 1;have x:=Y g 2;have h:=Y r 0;simp at u v x h;have:=Nt (ϰ a 0) (ϰ E 0) b h;have m:=Y (φ b<|ϲ #[ϊ 8] 45) 0;have f:=Y (ψ (ϲ #[ϊ 8] 45) d) 0;have n:=ω (ψ (ϲ #[ϊ 8] 45) d) 0;simp at m f;have t:=NF (ϰ E 0) (ϰ b.heap.size 0) 8 (ϊ 0) (b.alloc<|ϲ #[ϊ 8] 45) sM (sU f) n;rw[s]at t;clear m f n;refine mR (Rl F call _ _ q) ?_;rintro y rfl;go_wp2_with fail;rw[cN];go_wp2_with fail;refine mR (qG8 p _) ?_;rintro z rfl;go_wp2_with fail;rw[cN];go_wp2;go_ret;refine⟨rfl,?_,?_⟩;(first|exact η (ψ _ d) 0 _|exact ψ _<|η d 0 _);first|exact(k.alloc _).sc _|exact(k.sc _).alloc _
def Tv(F E:Nat)(call)(p)(w)(h:w.cell? (ϰ 0 0)=some BW)(b:w.heap[F]?=some (ϲ #[ϕ call,.iface 330 (ϗ (some p))] 246))(a:w.heap[E]?=some (ϲ #[ϊ 0] 45)):Ω 53 #[.iface 243 (ϖ F),.iface 95 (ϖ E)] w λe c=>e=ϱ (ϐ true)/\c.heap[E]?=some (ϲ #[ϊ 8] 45)/\Kp [E] w c:=by have:=@run_callFunc_extern prog 95 _ (λargs=>ReflectliteValue.unpack<|args.getD 0<|.tuple #[]) func95 kR kR kR kR;have:=@run_callFunc_extern prog 96 _ (ReflectliteValue.methodAny (ReflectliteValue.valueError "reflectlite.Value.Type" 0) λt _ _ _=>ReflectliteType.toType t) func96 kR kR kR kR;have:=@run_callFunc_extern prog 97 _ (ReflectliteValue.method (ReflectliteValue.valueError "reflectlite.Value.IsNil" 0) ReflectliteValue.isNil) func97 kR kR kR kR;have:=@run_callFunc_extern prog 322 _ (ReflectliteType.abiMethod λt=>do pure (.int .u8<|<-Rtype.kind t)) func322 kR kR kR kR;have j:=@run_callFunc_extern prog 344 _ (ReflectliteType.method ReflectliteType.elem) func344 kR kR kR kR;have k:=@run_callFunc_extern prog 345 _ (ReflectliteType.relation "Implements" ReflectliteType.implements_) func345 kR kR kR kR;have o:=NI;have:=NG;have m:=NC;have:=Nz;have:=NA;have:=Nx;have:=Nw;have:=Ns;have:=Nu;have:=U a;have:=U b;have i:0<w.heap.size:=oM;have n:=Nv (ϰ w.heap.size 0) (ϰ E 0) ((w.alloc<|ϲ #[ϖ E] 95).alloc<|ϲ #[ϗ<|some<|ϰ 5 95,ϖ w.heap.size,.int .u64 150] 143) sM;(have l:((w.alloc<|ϲ #[ϖ E] 95).alloc<|ϲ #[ϗ<|some<|ϰ 5 95,ϖ w.heap.size,.int .u64 150] 143).cell? (ϰ 0 0)=some (.iface 220<|.agg #[ϗ<|some<|ϰ 5 38]):=by rwa[World.cell?_alloc_lt _ _ (ϰ 0 0) sM,World.cell?_alloc_lt _ _ (ϰ 0 0) i]);clear h;go_enter func53,ntmps53;go_wp2_with fail;refine(Ty F E w.heap.size call p _ (ψ _<|ψ _ b) (ψ _<|ψ _ a)<|ψ _<|φ _ _).mono ?_;rintro e q ⟨rfl,d,f⟩;have g:=(((Kp.refl [E] w).alloc _).alloc _).tr f;go_wp2;go_ret;exact⟨rfl,d,g⟩
def qF5(F:Nat)(call)(p)(w)(g:w.cell? (ϰ 0 0)=some BW)(a:w.heap[F]?=some (ϲ #[ϕ call,.iface 330 (ϗ (some p))] 246)):Ω 24 #[.iface 243 (ϖ F)] w λe k=>e=ϱ (ϊ 8)/\Kp [] w k:=by
 have:=U a;have h:0<w.heap.size:=oM
 go_enter func24,ntmps24;go_wp2_with fail;refine(Tv F w.heap.size call p _ (by rwa[eD _ _ (ϰ 0 0) h]) (ψ _ a)<|φ _ _).mono ?_;rintro e m ⟨rfl,d,b⟩;have f:=((kE [] w).alloc _).trans b (by intro i j l;simp at j;omega);have c:=Y d 0;simp at c;clear b g;go_wp2;go_ret;exact⟨rfl,f⟩
end
structure KF where
 A:Nat
 n:Nat
 may:Value
 emp:Bool
 qL7:Value
 qL6:Bool
 bit:Bool
 x:Ϭ
 c:Value
 com:Int
 po:Bool
 ts:Value
 li:Value
 wa:Value
def Ae(k:KF):Obj:=
 .cells #[.pointer (some ⟨k.A,0,none⟩),.int .i64 k.n,k.may,.bool k.emp,k.qL7,.bool k.qL6,.bool k.bit,.pointer k.x,k.c,.int .i64 k.com,.bool k.po,k.ts,k.li,k.wa] 130
structure TF where
 x:Nat
 v:Value
 wr:Bool
 dn:Bool
 chg:Int
 qM0:Int
 com:Int
 stp:Int
 cs:Value
def Bc(f:TF):Obj:=
 .cells #[.pointer (some ⟨f.x,0,none⟩),f.v,.bool f.wr,.bool f.dn,.int .i64 f.chg,.int .i64 f.qM0,.int .i64 f.com,.int .i64 f.stp,f.cs] 197
def Dg:Option Int→Int
 | none=>0
 | some k=>if k<1000 then k else 8
def EC(v)(k:ϩ)(w)(d:w.cell? (ϰ 0 0)=some BW)(h:AD w v k):Ω 24 #[v] w λe f=>e=ϱ (ϊ (Dg k))/\Kp [] w f:=by cases k with|none=>have j:v=.nilIface:=h;subst j;exact(MJ w).mono λe f ⟨g,i⟩=>⟨g,by rw[i];exact Kp.refl _ _⟩|some k=>obtain⟨F,c,rfl,b⟩:=h;by_cases a:k<1000;rw[(Kj a).1,(Kj a).2]at b;rw[show Dg (some k)=k from if_pos a];exact qF4 F c k w d b;rw[show Dg (some k)=8 from if_neg a];rw[show Hi k=330 from if_neg a,show Hj k=ϖ ((k-1000).toNat) from if_neg a]at b;exact qF5 F c _ w d b
def B4(wr dn:Bool)(k v:ByteArray):Int:=if dn then 5 else if wr=false then 6 else if Cr k=false then 1 else if 12<v.size then 2 else 0
def QE(v s:Value)(wr h:Bool)(j q l r:Int)(k a:Ϧ)(w:Ϣ)(o:∃b n c,v=.slice b n c):Ω 192 #[.agg #[v,ϐ wr,ϐ h,ϊ j,ϊ q,ϊ l,ϊ r],ϕ k,ϕ a] w λe f=>e=ϱ (ϊ (B4 wr h k a))/\Kp [] w f:=by obtain⟨b,n,c,rfl⟩:=o;have d:=J6 k;obtain⟨p,g⟩:=eY (Cr k);rw[g]at d;cases h with|true=>go_enter func192,ntmps192;go_wp2_with (go_at_call 198;refine mR (d _) ?_;rintro f rfl);go_ret;exact⟨rfl,kF.alloc _⟩|false=>cases wr with|false=>go_enter func192,ntmps192;go_wp2_with (go_at_call 198;refine mR (d _) ?_;rintro f rfl);go_ret;exact⟨rfl,kF.alloc _⟩|true=>cases p with|false=>go_enter func192,ntmps192;go_wp2_with (go_at_call 198;refine mR (d _) ?_;rintro f rfl);go_ret;exact⟨by rw[B4,g];rfl,kF.alloc _⟩|true=>by_cases i:12<a.size;(.have m:(12:Int)<(a.size:Int):=oM;go_enter func192,ntmps192;go_wp2_with (go_at_call 198;refine mR (d _) ?_;rintro f rfl);go_ret;refine⟨?_,kF.alloc _⟩;(have:B4 true false k a=2:=by simp[B4,g,i]);rw[this];rfl);have m:¬(12:Int)<(a.size:Int):=oM;go_enter func192,ntmps192;go_wp2_with (go_at_call 198;refine mR (d _) ?_;rintro f rfl);go_ret;refine⟨?_,kF.alloc _⟩;(have:B4 true false k a=0:=by simp[B4,g,i]);rw[this];rfl
def DX(w:Ϣ)(T:Ϯ)(v:Value)(a:Ϥ):Prop:=∃p c,v=.slice p a.length c/\(1<=a.length->∃g cur,p=some (ϰ g 0)/\w.heap[g]?=some (ϲ cur T)/\∀i (h:i<a.length),cur[i]?=some (ϖ (a[i])))
def C5(tbs:List Nat):List Value:=tbs.map fun b=>.pointer (some ⟨b,0,none⟩)
def DX.of{w}{base:Nat}{T}{v}{tbs}(h:w.ownsRow base T 1 v tbs.length (C5 tbs)):DX w T v tbs:=by rcases h.2 with⟨d,a⟩|⟨g,b,c,a,k,f,l,m,n,j⟩;exact⟨none,0,by rw[d,a],λh=>by omega⟩;refine⟨some<|ϰ g 0,b,a,λ_=>⟨g,c,rfl,f,λi hi=>?_⟩⟩;(have e:(C5 tbs)[i]?=some (ϖ<|tbs[i]):=by simp[C5,hi]);rw[<-j,List.getElem?_take_of_lt oM]at e;simpa using e
def DX.qK5{w w'}{T}{v}{tbs}(h:DX w T v tbs)(hK:Kp [] w w'):DX w' T v tbs:=by let⟨p,c,e,f⟩:=h;exact⟨p,c,e,λh=>by let⟨g,cur,a,b,d⟩:=f h;exact⟨g,cur,a,hK.hp b,d⟩⟩
def B7(com:Int):List (TF×Nat)→Int
 | []=>0
 | (f,l)::fs=>(if f.dn=false∧f.com<com then(l:Int)+4 else 0)+B7 com fs
def Q6(c:Int):∀a b:List (TF×Nat),B7 c (a++b)=B7 c a+B7 c b
 | [],b=>by simp[B7]
 | (f,l)::a,b=>by simp[cA,B7,Q6 c a b];omega
def Kb(b:Int):∀a:List (TF×Nat),(∀x∈a,x.2<=100000)->0<=B7 b a/\B7 b a<=100004*a.length
 | [],_=>by simp[B7]
 | (f,l)::a,h=>by
  have:=Kb b a λx d=>h x (by simp[d]);have c:=h (f,l) sM;simp[B7,lC];simp only at c;split<;>omega
structure DY(w:Ϣ)(k:KF)(d:Ϥ)(a:List (TF×Nat)):Prop where
 row:DX w 132 k.ts d
 len:a.length=d.length
 at_:∀i (h:i<d.length) (e:i<a.length),w.heap[d[i]]?=some (Bc a[i].1)/\∃b c,a[i].1.v=.slice b a[i].2 c
def DY.qK5{w w'}{k:KF}{tbs}{a:List (TF×Nat)}(h:DY w k tbs a)(hK:Kp [] w w'):DY w' k tbs a:=
 ⟨h.row.qK5 hK,h.len,λi b c=>⟨hK.heap (h.at_ i b c).1 sM,(h.at_ i b c).2⟩⟩
def qD4(B:Nat)(k:KF)(tbs)(a:List (TF×Nat))(w)(n:w.heap[B]?=some (Ae k))(o:DY w k tbs a)(T:tbs.length<=100000)(v:∀x∈a,x.2<=100000):Ω 242 #[ϖ B] w λe P=>e=ϱ (ϊ (B7 k.com a))/\Kp [] w P:=by let⟨p,c,hts,hrow⟩:=o.row;have:=U n;have:=ϻ n 9;have D:=ϻ n 11;rw[hts]at D;clear hts n;go_enter func242,ntmps242;go_wp2_with fail;go_loopw [3,4] (λs i wr=>∃(j:Nat),j<=tbs.length/\i=.int .i64 j/\s=.int .i64 (B7 k.com<|a.take j)/\∃d,wr=w.drewN d) λ_ i _=>tbs.length-(intOf i).toNat;(case atStart=>exact⟨0,zL _,rfl,rfl,0,rfl⟩);case round=>obtain⟨j,S,rfl,rfl,d,rfl⟩:=hrel;have:=(zh o.len).out;have H:=Kb k.com (a.take j) λx L=>v x<|mT L;have I:(a.take j).length=j:=sO;rw[I]at H;by_cases z:j<tbs.length;(.have:(j:Int)<(tbs.length:Int):=oM;have q:j<a.length:=oM;obtain⟨g,Q,rfl,t,F⟩:=hrow oM;let⟨b,W,X,r⟩:=o.at_ j z q;(have m:B7 k.com (a.take<|j+1)=B7 k.com (a.take j)+(if a[j].1.dn=false/\a[j].1.com<k.com then(a[j].2:Int)+4 else 0):=by rw[tA q,Q6];simp[B7]);have y:=v a[j]<|gM q;obtain⟨⟨f,l⟩,G⟩:∃f,a[j]=f:=⟨_,rfl⟩;let⟨V,K⟩:=eY<|tbs[j];have u:=F j z;rw[K]at u b;rw[G]at b r m y;simp only at b r m y;generalize R:B7 k.com (a.take j)=M at *;have:=U t;have:=U b;have N:=Y t j;rw[u]at N;have O:=ϻ b 1;have A:=ϻ b 3;have:=ϻ b 6;rw[r]at O;cases hdn:f.dn with|true=>rw[hdn]at A;go_wp2_with fail;go_quiet (fail);go_wp2;refine⟨⟨j+1,oM,by go_num,?_,_,rfl⟩,iO⟩;rw[m,hdn];simp|false=>rw[hdn]at A;by_cases E:f.com<k.com;(.go_wp2_with fail;go_quiet (fail);go_wp2;refine⟨⟨j+1,oM,by go_num,?_,_,rfl⟩,iO⟩;rw[m,hdn,if_pos ⟨rfl,E⟩];go_num);go_wp2_with fail;go_quiet (fail);go_wp2;refine⟨⟨j+1,oM,by go_num,?_,_,rfl⟩,iO⟩;rw[m,if_neg λh=>by omega];simp);have:¬(j:Int)<(tbs.length:Int):=oM;(have C:Hid (B7 k.com (a.take j)=B7 k.com a):=by show _=_;rw[tL oM]);generalize B7 k.com (a.take j)=M at *;go_wp2;go_ret;exact⟨C6 C,kF.drewN _⟩
def FN(k:KF)(cl:Nat)(qM0 keys stale:Int):Bool:=
 decide (3*(max (max qM0 keys) (cl:Int))+12+stale≤(k.n:Int)) && !k.qL6
def PX(B F:Nat)(k:KF)(f:TF)(tbs)(o:List (TF×Nat))(i:Int)(w)(d:w.heap[B]?=some (Ae k))(v:w.heap[F]?=some (Bc f))(u:DY w k tbs o)(z:tbs.length<=100000)(y:∀x∈o,x.2<=100000)(cb)(c H:Nat)(E:k.c=.slice cb c H)(T:c<=100000)(Z:0<=f.qM0)(aa:f.qM0<=100000)(V:0<=i)(W:i<=100000)(X:k.n<=100000):Ω 195 #[ϖ B,ϖ F,ϊ i] w λe P=>e=ϱ (ϐ (FN k c f.qM0 i (B7 k.com o)))/\Kp [] w P:=by have D:Hid (∀{p:Prop},(_h:p:=by have n:=Y a;simp[Ae,zG,zH,zI]at n;clear a A;by_cases g:3*(c:Int)+12+ST<=(k.n:Int);(.go_wp2;go_ret;exact⟨by rw[m.out,decide_eq_true g];rfl,b⟩);have q:Hid (decide (3*(c:Int)+12+ST<=(k.n:Int))=false):=decide_eq_false g;go_wp2;go_ret;exact⟨by rw[m.out,q.out];rfl,b⟩)->p):=λh=>h;have:=U d;have S:=U v;have O:=Kb k.com o y;have L:=u.len;have s:=zh<|qD4 B k tbs o w d u z y;have n:=ϻ d 1;have Q:=ϻ d 5;have G:=ϻ d 8;rw[E]at G;have A:=ϻ v 5;clear v u y E;generalize B7 k.com o=ST at *;obtain⟨r,M⟩:=eY<|max f.qM0 i;obtain⟨j,N⟩:=eY<|max r (c:Int);(have m:Hid (FN k c f.qM0 i ST=(decide (3*j+12+ST<=(k.n:Int)) && !k.qL6)):=by show _=_;rw[FN,M,N]);have ab:0<=j/\j<=100000:=oM;have K:=z;have:0<=ST/\ST<=10000500000:=oM;clear O L z K;go_enter func195,ntmps195;by_cases R:f.qM0<i;(.have t:r=i:=oM;subst t;by_cases I:r<(c:Int);(.have l:j=(c:Int):=oM;subst l;go_wp2_with fail;refine mR (show Calls _ _ _ _ _ from s) ?_;rintro C b;have a:=b.hp d;have:=U a;exact D.out);have l:j=r:=oM;subst l;go_wp2_with fail;refine mR (show Calls _ _ _ _ _ from s) ?_;rintro C b;have a:=b.hp d;have:=U a;have n:=Y a;simp[Ae,zG,zH,zI]at n;clear a A;by_cases g:3*j+12+ST<=(k.n:Int);(.go_wp2;go_ret;exact⟨by rw[m.out,decide_eq_true g];rfl,b⟩);have q:=zh<|decide_eq_false g;go_wp2;go_ret;exact⟨by rw[m.out,q.out];rfl,b⟩);have t:r=f.qM0:=oM;subst t;by_cases I:f.qM0<(c:Int);(.have l:j=(c:Int):=oM;subst l;go_wp2_with fail;refine mR (show Calls _ _ _ _ _ from s) ?_;rintro C b;have a:=b.hp d;have:=U a;exact D.out);have l:j=f.qM0:=oM;subst l;go_wp2_with fail;refine mR (show Calls _ _ _ _ _ from s) ?_;rintro C b;have a:=b.hp d;have:=U a;have n:=Y a;simp[Ae,zG,zH,zI]at n;clear a A;by_cases g:3*f.qM0+12+ST<=(k.n:Int);(.go_wp2;go_ret;exact⟨by rw[m.out,decide_eq_true g];rfl,b⟩);have q:=zh<|decide_eq_false g;go_wp2;go_ret;exact⟨by rw[m.out,q.out];rfl,b⟩
def Qs{l n:Nat}{P:Program}{j:Array Oper}{Q:Exit->Act->ϯ}(p:∀(i:Nat)(o:Oper),j[i]?=some o->∀c,o.op≠.defer c)(m:¬LetsOut Q):∀(is)(a:Act)(w),wpOps P j Q is a w->wpOpsIn (Fence.wide.inRound l) n P j Q is a w
 |[],a,w,h=>h|i::rest,a,w,h=>by have b:=λa w=>Qs (l:=l) (n:=n) (P:=P) p m rest a w;unfold wpOps at h;unfold wpOpsIn;cases ho:j[i]? with|none=>simp[ho]at h |-;exact b a w h|some o=>simp[ho]at h |-;split;rename_i k;rw[aR k]at h;have h:=h.resolve_right λh=>m h.2;refine⟨λ_ _=>trivial,?_⟩;rw[Fence.inRound_round,Oper.semAt_eq _ _ _<|p i o ho];unfold Oper.wp at h;generalize (execOp a.eval o).run P w=r at h;(cases r with|ok nx t=>(cases nx with|value v=>exact b _ _ h|skip=>exact b _ _ h|defer d=>exact b _ _ h|enter f args=>refine⟨λhh=>(by cases hh),CallsIn.inRound l<|eP.2<|Calls.mono h ?_⟩;intro e q g;(cases e with|returned v=>exact b _ _ g|panicked c=>exact g|outgrown=>exact g)|row row args=>refine⟨λhh=>(by cases hh),λc cs _=>?_⟩;let⟨v,q,g,s⟩:=h c cs;exact⟨v,q,b _ _ g,stepsIn_wide.2 s⟩|_=>exact h.elim)|halt hh t=>cases hh with|panic v=>exact h|_=>exact h.elim);rename_i k;rw[aO k]at h;exact⟨λ_ _=>trivial,b _ _ h⟩
def L5(o:Oper):Bool:=match o.op with
 | .defer _=>false
 | _=>true
def YO{a:Array Oper}(h:a.all L5=true):∀(i:Nat)(o:Oper),a[i]?=some o->∀c,o.op≠.defer c:=λi o ho c e=>by
 have b:=Array.mem_of_getElem? ho;have:=Array.all_eq_true_iff_forall_mem.1 h o b;simp[L5,e]at this
def qI6{l n:Nat}{P:Program}{b:Array Oper}{Q:Exit->Act->ϯ}{S:ϯ}{id:Nat}{a:Act}{w}(f:P.follows .mixedOrders=true)(e:b.all L5=true)(c:¬LetsOut Q)(d:S w.drew) (h:S w.drew->wpAnyH P .any b Q S b.size (Array.replicate b.size false) a w.drew):(Code.region id b true).wpIn (Fence.wide.inRound l) n P Q a w:=
 wpIn_region_draw λt=>by
  simp[Region.schedule,f,Bool.true_or,gD];exact Qs (YO e) c _ _ _<|wpAny_sound b.size t _ a _<|wpAny_of_held _ _ _ _<|h d
section
attribute [local go_sem] Oper.semAt_some
def TM(l m Sx gb off k cp:Nat)(cur:ϧ)(fr:Nat×Nat)(hs:List HL)(Jj:Nat->ϯ)(Jx:ϯ)(Jp:List PanicEntry->ϯ)(w:Ϣ)(hk:k<=10000)(hkc:k<=cp)(hkh:k<=hs.length) (hcur:∀i (h:i<hs.length),cur[off+i*4]?=some (ϕ hs[i].key)/\cur[off+i*4+1]?=some (ϊ hs[i].b)/\cur[off+i*4+2]?=some (.int .u64 hs[i].s)/\cur[off+i*4+3]?=some (ϗ hs[i].ptr)) (hbox:∀i W,Jj i W->W.heap[Sx]?=some (ϲ #[.slice (some (ϰ gb off)) k cp] 156)/\W.heap[gb]?=some (ϲ cur 87 fr)) (hY:∀i (hi:i<k) W,Jj (i+1) W->YieldAt Fence.wide (m-1) prog l #[ϊ i,.agg #[ϕ hs[i].key,ϊ hs[i].b,.int .u64 hs[i].s,ϗ hs[i].ptr]] W λe W'=>(e=ϱ (ϐ true)/\Jj i W')\/(e=ϱ (ϐ false)/\Jx W')\/∃c,e=.panicked c/\Jp c W') (h0:Jj k w):CallsIn Fence.wide m prog 220 #[.func (.yield l) #[] #[],ϖ Sx] w λe w'=>((∃v,e=ϱ v)/\(Jj 0 w'\/Jx w'))\/∃c,e=.panicked c/\Jp c w':=by have HJ0:=zh h0;have HY:=zh hY;have HCUR:=zh hcur;have hS0:=(hbox k w h0).1;have:=U hS0;have:=ϻ hS0 0;(have hwr:wrap64 ((k:Int)-1)=(k:Int)-1:=by simp[wrap64];omega);clear hY hcur h0 hS0;refine callsIn_of_wp func220 rfl trivial ?_ rfl;simp[ntmps220,dM,lC,aJ,Nat.reduceAdd,Nat.reduceSub,eE,eF,eW,aT,nA,cA];gi_wp2_with fail;gi_loopg [3] k λgk v wr=>gk<=k/\v=.int .i64 ((gk:Int)-1)/\Hid (Jj gk wr);(case atStart=>exact⟨lR,by simp[hwr],HJ0⟩);case round=>obtain⟨hgk,rfl,hJ⟩:=hrel;let⟨hS1,hG1⟩:=hbox _ _ hJ;have:=U hS1;have:=U hG1;have:=ϻ hS1 0;by_cases h0:gk=0;(.subst h0;have hc:¬(0:Int)<=((0:Nat):Int)-1:=oM;clear hS1 hG1;rw[show((0:Nat):Int)-1=-1 by rfl]at hc |-;gi_wp2;exact bodyPost_end (fG results220 _ _ _) rfl<|.inl ⟨⟨_,rfl⟩,.inl hJ⟩);obtain⟨i,rfl⟩:∃i,gk=i+1:=⟨gk-1,oM⟩;have hi:i<k:=oM;have e1:((i+1:Nat):Int)-1=(i:Int):=oM;rw[e1];have:(0:Int)<=(i:Int):=oM;have:(i:Int)<(k:Int):=oM;let⟨c0,c1,c2,c3⟩:=HCUR.out i oM;have a0:=Y hG1<|off+i*4;rw[c0]at a0;have a1:=Y hG1<|off+i*4+1;rw[c1]at a1;have a2:=Y hG1<|off+i*4+2;rw[c2]at a2;have a3:=Y hG1<|off+i*4+3;rw[c3]at a3;let⟨fn,tmps,assign,body,hy,hR⟩:=HY.out i hi wr hJ;(have:wrap64 ((i:Int)-1)=(i:Int)-1:=by simp[wrap64];omega);gi_wp2;refine⟨λh=>(by cases h),hR.mono ?_⟩;rintro e w5 (⟨rfl,hJ5⟩|⟨rfl,hJx⟩|⟨c,rfl,hJp⟩);rotate_left 2;(.have HP:=zh hJp;gi_wp2;exact⟨rfl,.inr ⟨c,rfl,HP⟩⟩);(.have HJ5:=zh hJ5;gi_wp2;gi_roundg i;(.exact⟨oM,by go_num,HJ5⟩);omega);have HX:=zh hJx;gi_wp2;exact aG (fG results220 _ _ _) rfl<|.inl ⟨⟨_,rfl⟩,.inr HX⟩
end
section
attribute [local go_sem] Oper.semAt_some
def UG(args)(W):Sem.run prog (callFunc 220 args) W=.ok (.enter 220 args) W:=by simp[go_sem,func220]
def Iy(x:HL):Value:=.agg #[.string x.key,.int .i64 x.b,.int .u64 x.s,.pointer x.ptr]
def Ix(x:HL):Obj:=.cells #[.string x.key,.int .i64 x.b,.int .u64 x.s,.pointer x.ptr] 87
def M3(N:Nat)(W a:Ϣ):Prop:=a.heap[N+1]?=W.heap[N+1]?/\a.heap[N]?=W.heap[N]?
def qJ0{nn:Nat}{g:Operand}{M:Array Tmp}{assign body:Code}{Q:Exit->Act->ϯ}{a:Act}{w:Ϣ}(C R B k O:Nat)(A:ϧ)(fr:Nat×Nat)(j:List HL)(h1:1<=nn)(hk:k<=10000)(ar:k<=O)(au:k<=j.length)
  (hg:a.eval g=.func (.func 220) #[] #[ϖ C]) (ax:M.size=2)
  (ao:∀i (h:i<j.length),A[B+i*4]?=some (ϕ j[i].key)/\A[B+i*4+1]?=some (ϊ j[i].b)/\A[B+i*4+2]?=some (.int .u64 j[i].s)/\A[B+i*4+3]?=some (ϗ j[i].ptr))
  (Jj:Nat->ϯ) (z:ϯ) (N:List PanicEntry->ϯ)
  (V:∀i W D,Jj i W->Kp [w.heap.size+1] W D->(∃b,W.heap[w.heap.size+1]?=some (.loop b))->Jj i D) (ad:∀W D,z W->Kp [w.heap.size+1] W D->(∃b,W.heap[w.heap.size+1]?=some (.loop b))->z D)
  (an:∀i W,Jj i W->W.heap[C]?=some (ϲ #[.slice (some (ϰ R B)) k O] 156)/\W.heap[R]?=some (ϲ A 87 fr))
  (af:∀W,Kp [] w W->Jj k W)
  (ac:Nat->HL->Nat->Act)
  (al:∀(l i:Nat)(L:i<k)(W:Ϣ)(K:Act->ϯ),(∀d,d.heap[W.heap.size]?=some (Ix j[i])->Kp [] W d->K (ac i j[i] W.heap.size) d)->
   assign.wpIn (Fence.wide.inRound l) (nn-1-1) prog (Exit.then K (λ_ _ _=>False)) { tmps:=(M.zip #[ϊ i,Iy j[i]]).foldl (λt (p,v)=>t.setIfInBounds p v) a.tmps,defers:=[] } W)
  (am:∀(l i:Nat)(L:i<k)(W:Ϣ)(X:Nat),Jj (i+1) W->W.heap[X]?=some (Ix j[i])->w.heap.size+1<X->(∃b,W.heap[w.heap.size+1]?=some (.loop b))->W.heap[w.heap.size]?=some (.deferred (some []))->
   body.wpIn (Fence.wide.inRound l) (nn-1-1) prog (λe a3 m=>match e with
    | .normal=>Jj i m/\M3 w.heap.size W m
    | .ret=>z m/\M3 w.heap.size W m
    | .panic c=>a3.defers=[]/\N c m
    | _=>False) (ac i j[i] X) W)
  (ap:∀(W:Ϣ),Jj 0 W->W.heap[w.heap.size]?=some (.deferred (some []))->Q .normal { a with defers:={ target:=.collected w.heap.size,args:=#[] }::a.defers } W)
  (ay:∀(W:Ϣ),z W->W.heap[w.heap.size]?=some (.deferred (some []))->Code.ret.wpIn Fence.wide nn prog Q { a with defers:={ target:=.collected w.heap.size,args:=#[] }::a.defers } W)
  (aw:∀c W,N c W->Q (.panic c) { a with defers:={ target:=.collected w.heap.size,args:=#[] }::a.defers } W):
  Fq prog (Code.rangeFunc g M assign body) Q a w:=by
 refine qI9 (n:=nn) ?_;intro fn aq;obtain⟨b,f⟩:∃b:LoopState->Option Code->Loop,b=λst pe=>{ state:=st,pending:=pe,fn,tmps:=a.tmps,params:=M,assign,body,defers:=ϳ w }:=⟨_,rfl⟩;let⟨u,I⟩:=eY<|(w.alloc<|.deferred<|some []).alloc<|.loop<|b .ready none;have ah:u.heap[ϳ w+1]?=some (.loop<|b .ready none):=by
  rw[<-I];have:=World.alloc_heap_new (w.alloc<|.deferred<|some [])<|.loop<|b .ready none;rwa [World.size_alloc]at this
 have ae:Ϙ u (ϳ w) (.deferred<|some []):=by
  rw[<-I];exact(gT _ _ _ sM).trans<|World.alloc_heap_new w _
 have ag:Kp [] w u:=by rw[<-I];exact(kF.alloc _).alloc _
 refine⟨ϳ w+1,[{ target:=.collected<|ϳ w,args:=#[] }],u,{ target:=.fn (.func 220) #[ϖ C],args:=#[.func (.yield<|ϳ w+1) #[] #[]] },u,220,
  #[.func (.yield<|ϳ w+1) #[] #[],ϖ C],u,?_,?_,?_,?_⟩
 .rw[<-I,f];exact run_enterLoop_outer _ _ _ _ _
 .simp[resolve,hg];simp[go_sem]
 .simp[invoke,go_sem,UG]
 .refine (TM (ϳ w+1) (nn-1) C R B k O A fr j (λi W=>Jj i W/\W.heap[ϳ w+1]?=some (.loop<|b .ready none)/\Ϙ W (ϳ w) (.deferred<|some [])) (λW=>z W/\W.heap[ϳ w+1]?=some (.loop<|b .done<|some .ret)/\Ϙ W (ϳ w) (.deferred<|some [])) N u hk ar au ao (λi W h=>an i W h.1) ?_ ⟨af u ag,ah,ae⟩).mono ?_
  .
   rintro i L W ⟨hJ,H,hD⟩;have av:=U H;have hy:=run_yield (P:=prog) (args:=#[ϊ i,Iy j[i]]) H (by rw[f];simp[ax]);rw[f]at hy;refine⟨fn,_,assign,body,hy,Z4 aq<|al _ i L W _ ?_⟩;intro d aj Z;have x:=Z.hp H;have E:=Z.hp hD;refine⟨_,run_beginRound x (by rw[f]),?_⟩;obtain⟨m,ai,ab,aa⟩:∃m,m=d.putObj (ϳ w+1) (.loop { b .ready none with state:=.busy })/\m.heap[ϳ w+1]?=some (.loop { b .ready none with state:=.busy })/\Kp [ϳ w+1] d m:=
    ⟨_,rfl,World.putObj_heap_same<|U x,kF.putObj sM _⟩
   rw[<-ai];have ak:=aa.ho aj;have S:=aa.hp E;refine wpIn_mono (am _ i L m (ϳ W) (V _ _ _ hJ (Z.mono sM |>.trans aa λ_ h _=>h) ⟨_,H⟩) ak av ⟨_,ab⟩ S) ?_;rintro e a3 r y
   cases e with
   | normal=>
    let⟨T,s,F⟩:=y;rw[ab]at s;rw[S]at F;have q:=run_endRound (P:=prog) none s;rw[f]at q;refine⟨_,_,q,.inl ⟨rfl,?_⟩⟩;have o:Kp [ϳ w+1] r (r.putObj (ϳ w+1)<|.loop<|b .ready none):=kF.putObj sM _;have G:Jj i (r.putObj (ϳ w+1)<|.loop<|b .ready none)/\(r.putObj (ϳ w+1)<|.loop<|b .ready none).heap[ϳ w+1]?=some (.loop<|b .ready none)/\(r.putObj (ϳ w+1)<|.loop<|b .ready none).heap[ϳ w]?=some (.deferred<|some []):=
     ⟨V _ _ _ T o ⟨_,s⟩,World.putObj_heap_same<|U s,o.hp F⟩
    rw[f]at G |-;exact G
   | ret=>
    let⟨T,s,F⟩:=y;rw[ab]at s;rw[S]at F;have q:=run_endRound (P:=prog) (some .ret) s;rw[f]at q;refine⟨_,_,q,.inr<|.inl ⟨rfl,?_⟩⟩;have o:Kp [ϳ w+1] r (r.putObj (ϳ w+1)<|.loop<|b .done<|some .ret):=kF.putObj sM _;have G:z (r.putObj (ϳ w+1)<|.loop<|b .done<|some .ret)/\(r.putObj (ϳ w+1)<|.loop<|b .done<|some .ret).heap[ϳ w+1]?=some (.loop<|b .done<|some .ret)/\(r.putObj (ϳ w+1)<|.loop<|b .done<|some .ret).heap[ϳ w]?=some (.deferred<|some []):=
     ⟨ad _ _ T o ⟨_,s⟩,World.putObj_heap_same<|U s,o.hp F⟩
    rw[f]at G |-;exact G
   | exit i=>exact y.elim
   | goto l=>exact y.elim
   | panic ch=>exact⟨y.1,.inr<|.inr ⟨ch,rfl,y.2⟩⟩
   | outgrown=>exact y.elim
  .
   rintro e d (⟨⟨v,rfl⟩,⟨hJ2,x,E⟩|⟨hJ2,x,E⟩⟩|⟨c,rfl,hJp⟩)
   .have q:=run_endLoop (P:=prog) x (by rw[f];simp);rw[f]at q;have o:Kp [ϳ w+1] d (d.putObj (ϳ w+1) (.loop { b .ready none with state:=.exhausted })):=kF.putObj sM _;refine⟨none,_,q,?_⟩;have:=ap (d.putObj (ϳ w+1) (.loop { b .ready none with state:=.exhausted })) (V _ _ _ hJ2 o ⟨_,x⟩)<|o.hp E;rw[f]at this;exact this
   .have q:=run_endLoop (P:=prog) x (by rw[f];simp);rw[f]at q;have o:Kp [ϳ w+1] d (d.putObj (ϳ w+1) (.loop { b .done (some .ret) with state:=.exhausted })):=kF.putObj sM _;refine⟨some .ret,_,q,?_⟩;have:=ay (d.putObj (ϳ w+1) (.loop { b .done (some .ret) with state:=.exhausted })) (ad _ _ hJ2 o ⟨_,x⟩)<|o.hp E;rw[f]at this;exact this
   .exact aw c d hJp
end
def Pr{f:Ϧ->Bool}{l}(h:∀q∈l,f q.k=false):BJ f l=none:=by rw[BJ,dW];intro q a;simp[h q (sU a)]
def Ps{f:Ϧ->Bool}{p}(h:f p.k=true):BJ f [p]=some p:=by simp[BJ,h]
def Pt{f:Ϧ->Bool}(t:Ft f){l}(z:AJ l){i:Nat}(B:l.findIdx (λq=>!f q.k)-1=i)(y:i<l.length):BJ f l=if f l[i].k then some l[i] else none:=by obtain⟨j,hj⟩:∃j,l.findIdx (λq=>!f q.k)=j:=⟨_,rfl⟩;(have C:j<=l.length:=by rw[<-hj];exact fL);(have a:∀q∈l.drop j,f q.k=false:=by intro q hq;obtain⟨b,s,rfl⟩:=gO hq;rw[jD];(have u:j+b<l.length:=by simp at s;omega);have h:j<l.length:=oM;(have d:f l[j].k=false:=by have:=fE (p:=λq:KV=>!f q.k) (xs:=l) (w:=by rw[hj];exact h);simp[hj]at this;simpa using this);by_cases e:b=0;subst e;simpa using d;cases hf:f l[j+b].k with|false=>rfl|true=>have v:=pG z j (j+b) h u oM;rw[t _ _ v hf]at d;cases d);by_cases o:j=0;have m:i=0:=oM;subst m;(have g:∀q∈l,f q.k=false:=by rw[o]at a;simpa using a);rw[Pr g,aO (by rw[g _<|gM _];simp)];have n:i=j-1:=oM;subst n;(have c:f l[j-1].k=true:=by have:=eR (p:=λq:KV=>!f q.k) (xs:=l) (i:=j-1) (by rw[hj];omega);simpa using this);rw[aR c];(have k:l=l.take (j-1)++[l[j-1]]++l.drop j:=by (have r:l.take (j-1)++[l[j-1]]=l.take j:=by rw[<-tA y];congr 1;omega);rw[r,tD]);obtain⟨x,A⟩:=eY<|l[j-1];rw[A]at k c |-;have e:=congrArg (BJ f) k;rw[Gi,Gi,Pr a,Ps c]at e;rw[e];rfl
def MA{a b}(h:D9 a=D9 b):a=b:=by
 have e:=congrArg ι h;rw[FT,FT]at e;cases a;cases b;simp only at e
 congr 1
 exact Array.toList_inj.1 e
def Zs{p p'}(j:A2 p)(k:A2 p'){r c:List Int}(h:Bl p++r=Bl p'++c):p=p'/\r=c:=by
 let⟨q,s,t⟩:=j;let⟨m,n,o⟩:=k;simp[Bl,aA,cA,nA,List.cons.injEq]at h;let⟨l,d⟩:=h;have g:p.k.size=p'.k.size:=oM
 have i:p.v.size=p'.v.size:=oM
 let⟨a,e⟩:=List.append_inj d (by rw[FP,FP,g]);let⟨b,f⟩:=List.append_inj e (by rw[FP,FP,i]);refine⟨?_,f⟩;cases p;cases p';simp only at a b;rw[MA a,MA b]
def IG:∀(a b:List KV)(r d:List Int),(∀p∈a,A2 p)->(∀p∈b,A2 p)->a.length=b.length->a.flatMap Bl++r=b.flatMap Bl++d->a=b
 | [],[],_,_,_,_,_,_=>rfl
 | [],_::_,_,_,_,_,h,_=>by cases h
 | _::_,[],_,_,_,_,h,_=>by cases h
 | p::a,p'::b,r,d,h1,h2,hl,h=>by
  rw[fC,fC,aA,aA]at h;let⟨e,f⟩:=Zs (h1 p sM) (h2 p' sM) h;rw[e,IG a b r d (λq c=>h1 q (by simp[c])) (λq c=>h2 q (by simp[c])) (sU hl) f]
def X5{h h'}(t:h.key.size<=8)(u:h'.key.size<=8)(g:h.p=none)(i:h'.p=none)(b:0<=h.b/\h.b<65536)(c:0<=h'.b/\h'.b<65536)(k:0<=h.s/\h.s<18446744073709551616)(l:0<=h'.s/\h'.s<18446744073709551616){r j:List Int}(e:Bo h++r=Bo h'++j):h=h'/\r=j:=by
 simp[Bo,aA]at e;let⟨m,n⟩:=List.append_inj e (by rw[CK,CK]);let⟨o,d⟩:=List.append_inj n (by rw[CK,CK]);simp[cA,nA,List.cons.injEq]at d;let⟨s,p⟩:=d;let⟨f,q⟩:=List.append_inj p (by rw[FP,FP];omega);have a:=congrArg Cm m;rw[EK 2 _ oM b.1 (sU b.2),EK 2 _ oM c.1 (sU c.2)]at a;have n2:=congrArg Cm o;rw[EK 8 _ oM k.1 (sU k.2),EK 8 _ oM l.1 (sU l.2)]at n2;refine⟨?_,q⟩;cases h;cases h';simp only at g i a n2 f;rw[MA f,a,n2,g,i]
def JY(h:HL):Prop:=h.p=none/\h.key.size<=8/\0<=h.b/\h.b<65536/\0<=h.s/\h.s<18446744073709551616
def JM:∀(a b:List HL)(r d:List Int),(∀p∈a,JY p)->(∀p∈b,JY p)->a.length=b.length->a.flatMap Bo++r=b.flatMap Bo++d->a=b
 | [],[],_,_,_,_,_,_=>rfl
 | [],_::_,_,_,_,_,h,_=>by cases h
 | _::_,[],_,_,_,_,h,_=>by cases h
 | p::a,p'::b,r,d,h1,h2,hl,h=>by
  rw[fC,fC,aA,aA]at h;let⟨e,f,g,i,j,k⟩:=h1 p sM;let⟨l,m,n,o,s,t⟩:=h2 p' sM;let⟨u,v⟩:=X5 f m e l ⟨g,i⟩ ⟨n,o⟩ ⟨j,k⟩ ⟨s,t⟩ h;rw[u,JM a b r d (λq c=>h1 q (by simp[c])) (λq c=>h2 q (by simp[c])) (sU hl) v]
def Fp{a b:List Int}(c:∀x∈a,0<=x/\x<256)(d:∀x∈b,0<=x/\x<256)(h:ι a=ι b):a=b:=by
 rw[<-DL a c,<-DL b d,h]
def FJ{a b:Int}{ps ps'}{hs hs'}(h:Az a ps hs=Az b ps' hs'):a=b/\ps.length+hs.length=ps'.length+hs'.length/\∃r c,ps.flatMap Bl++(hs.flatMap Bo++r)=ps'.flatMap Bl++(hs'.flatMap Bo++c):=by
 simp[Az,DA,aA,cA,nA,List.cons.injEq]at h;exact⟨h.1,oW h.2.1,_,_,h.2.2⟩
def LA{N:Nat}{l}(k:N<=1000):∀{n b:Nat} {s:Int} {t},Av N l n b s t->∃ps a,ρ l b=ι (Az (n:Int) ps a)/\∀x∈Az (n:Int) ps a,0<=x/\x<256
 | 0,b,s,t,h=>by
  let⟨_,_,_,c,d,e,f⟩:=h;exact⟨ζ t,[],c,Cj 0 _ [] oM oM sO d sM⟩
 | n+1,b,s,t,h=>by
  let⟨_,_,g,a,c,d,e,f,i,j⟩:=h;exact⟨[],a,e,Cj _ [] a oM oM sO sM f⟩
def GV{N:Nat}{l}(d:N<=1000){n a b:Nat}{s j:Int}{t}{k:Tn a}(h:Av N l n b s t)(i:Av N l a b j k):n=a:=by
 let⟨p,m,e,f⟩:=LA d h;let⟨q,o,c,g⟩:=LA d i;rw[e]at c;have:=(FJ (Fp f g c)).1;omega
def GW{N:Nat}{l}(D:N<=1000):∀(n b:Nat)(s y:Int)(t t'),Av N l n b s t->Av N l n b y t'->s=y/\t=t'
 | 0,b,s,y,t,t',h,h'=>by
  let⟨_,_,a,B,j,C,T⟩:=h;let⟨_,_,c,g,d,A,S⟩:=h';rw[B]at g;have e:=Fp (Cj 0 _ [] oM oM sO j sM) (Cj 0 _ [] oM oM sO d sM) g;refine⟨by rw[a,c,e],?_⟩;let⟨_,F,r,X,f⟩:=FJ e;exact IG (ζ t) (ζ t') _ _ j d (sU F) f
 | n+1,b,s,y,t,t',h,h'=>by
  let⟨_,_,h2,L,a,B,j,C,T,h8⟩:=h;let⟨_,_,g2,M,c,g,d,A,S,g8⟩:=h';rw[j]at d;have e:=Fp (Cj _ [] L oM oM sO sM C) (Cj _ [] M oM oM sO sM A) d;refine⟨by rw[B,g,e],?_⟩;let⟨_,F,r,X,f⟩:=FJ e;simp[List.flatMap_nil,nA]at f;have Q:=JM L M _ _ (λp G=>Av.links a C D p G) (λp G=>Av.links c A D p G) (sU F) f;subst Q;refine(List.ext_getElem (a.1.symm.trans c.1) λi z P=>?_:J t=J t');have Z:=a.2 i (by rw[a.1];exact z) z;have r2:=c.2 i (by rw[a.1];exact z) P;let⟨V,w⟩:=Z;let⟨W,x⟩:=r2
  cases x1:(J t)[i].ref with
  | none=>rw[x1]at w;let⟨_,_,q,_,E⟩:=w;exact E.elim
  | some y1=>
   cases x2:(J t')[i].ref with
   | none=>rw[x2]at x;let⟨_,_,q,_,E⟩:=x;exact E.elim
   | some y2=>
    rw[x1]at w;rw[x2]at x;let⟨b1,s1,_,O⟩:=w;let⟨b2,s2,_,H⟩:=x;have I:y1.1=y2.1:=oM
    rw[<-I]at H;have K:=GW D n y1.1 _ _ _ _ O H;have R:=Prod.ext I K.1;have k:=V.symm.trans W;have o:(J t)[i].ref=(J t')[i].ref:=by rw[x1,x2,R]
    have m:=K.2
    revert k o m
    generalize (J t)[i]=u;generalize (J t')[i]=v;intro k o m;cases u;cases v;simp only at k o m;rw[k,o,m]
def Cl(N:Nat)(l:ϣ)(n:Nat)(a:Ϥ):Prop:=∀(m b:Nat)(s:Int)(t:Tn m),m<n->Av N l m b s t->b∈a->∀k∈CJ m b t,k∈a
def Sc(N:Nat)(l:ϣ)(n:Nat)(a b:Ϥ):Prop:=∀k∈b,k∈a\/∃(m:Nat)(s:Int)(t:Tn m),m<n/\Av N l m k s t
structure Ef(N:Nat)(l:ϣ)(n:Nat)(b a:Ϥ):Prop where
 sub:∀k∈b,k∈a
 new:Sc N l n b a
 cl:Cl N l n a
def Ef.refl{N n:Nat}{l}{ks}(h:Cl N l n ks):Ef N l n ks ks:=⟨λ_ h=>h,λ_ h=>Or.inl h,h⟩
def Ef.trans{N n:Nat}{l}{a b c}(h:Ef N l n a b)(k:Ef N l n b c):Ef N l n a c:=
 ⟨λx e=>k.sub x<|h.sub x e,λx e=>by
  rcases k.new x e with d|d
  .exact h.new x d
  .exact Or.inr d,k.cl⟩
def Kx(N:Nat)(l:ϣ)(n:Nat):Prop:=∀(t:Tn n)(ks:Ϥ),Cl N l n ks->(∀a (e:n=a+1),∀m∈J (e ▸ t:Tn (a+1)),C9 N l a m)->
 Ef N l n ks (BV n t ks)/\∀a (e:n=a+1),∀m∈J (e ▸ t:Tn (a+1)),∀k∈CA a m,k∈BV n t ks
def JZ{N:Nat}{l}:∀{n:Nat} {m},C9 N l n m->∀n' (e:n=n'+1),∀u∈J (e ▸ m.sub:Tn (n'+1)),C9 N l n' u
 |0,_,_,n',e=>by cases e|n+1,m,h,n',e=>by cases e;intro u c;cases hx:m.ref with|none=>exact h.2 hx u c|some x=>let⟨_,_,_,hs,hb,_⟩:=h.1 x hx;obtain⟨i,g,rfl⟩:=gO c;have a:=(hb.2 i (by rwa[hb.1]) g).2;(have d:∀y,(J m.sub)[i].ref=some y->Av N l n y.1 y.2 (J m.sub)[i].sub:=λy hy=>by rw[hy]at a;exact a.2.2.2);(have j:(J m.sub)[i].ref≠none:=λb=>by rw[b]at a;let⟨_,_,q,_,f⟩:=a;exact f);cases n with|zero=>exact d|succ n=>exact⟨d,λb=>absurd b j⟩
def EH{n:Nat}{m}{x:Nat×Int}(h:m.ref=some x):CA n m=CJ n x.1 m.sub:=by cases n<;>simp[CA,h]
def Qn{N:Nat}{l}{n:Nat}{m}(h:C9 N l n m){x:Nat×Int}(a:m.ref=some x):Av N l n x.1 x.2 m.sub:=by cases n with|zero=>exact h x a|succ n=>exact h.1 x a
def T4{n b:Nat}{t}{k:Nat}(h:k∈CJ n b t):k=b\/∃c,∃e:n=c+1,∃u∈J (e ▸ t:Tn (c+1)),k∈CA c u:=by cases n with|zero=>exact Or.inl (by simpa [CJ] using h)|succ n=>simp[CJ,mC,aS]at h;rcases h with h|⟨u,d,a⟩;exact Or.inl h;refine Or.inr ⟨n,rfl,u,d,?_⟩;cases hx:u.ref with|none=>rw[hx]at a;cases a|some x=>rw[hx]at a;rwa[EH hx]
def Q8{N:Nat}{l}(p:N<=1000)(n:Nat)(B:Kx N l n)(m)(y:C9 N l n m)(ks)(o:Cl N l (n+1) ks):Ef N l (n+1) ks (B3 (BV n) ks m)/\∀k∈CA n m,k∈B3 (BV n) ks m:=by cases hx:m.ref with|none=>(have e:B3 (BV n) ks m=BV n m.sub ks:=by simp[B3,hx]);rw[e];let⟨d,v⟩:=B m.sub ks (λf b s t h=>o f b s t oM)<|JZ y;refine⟨⟨d.sub,λk c=>?_,λf b s t q g hbk k c=>?_⟩,λk c=>?_⟩;rcases d.new k c with h|⟨a,s,t,r,i⟩;exact Or.inl h;exact Or.inr ⟨a,s,t,oM,i⟩;by_cases z:f<n;exact d.cl f b s t z g hbk k c;rcases d.new b hbk with h|⟨a,F,G,r,i⟩;exact d.sub k<|o f b s t q g h k c;have:=GV p g i;omega;(cases n with|zero=>simp[CA,hx]at c|succ n=>simp[CA,hx,aS]at c;let⟨u,A,c⟩:=c;exact v n rfl u A k c)|some x=>have g:=Qn y hx;by_cases w:x.1∈ks;(have e:B3 (BV n) ks m=ks:=by simp[B3,hx,aR w]);rw[e];exact⟨Ef.refl o,λk c=>by rw[EH hx]at c;exact o n x.1 x.2 m.sub oM g w k c⟩;(have e:B3 (BV n) ks m=BV n m.sub (x.1::ks):=by simp[B3,hx,aO w]);rw[e];(have D:Cl N l n (x.1::ks):=λf b s t q j d k c=>by rcases List.mem_cons.1 d with rfl|d;have:=GV p j g;omega;exact mM _<|o f b s t oM j d k c);let⟨d,v⟩:=B m.sub (x.1::ks) D<|JZ y;(have C:∀k∈CJ n x.1 m.sub,k∈BV n m.sub (x.1::ks):=λk c=>by rcases T4 c with rfl|⟨n',e',u,A,c⟩;exact d.sub _ cX;exact v n' e' u A k c);refine⟨⟨λk c=>d.sub k<|mM _ c,λk c=>?_,λf b s t q j hbk k c=>?_⟩,λk c=>by rw[EH hx]at c;exact C k c⟩;rcases d.new k c with h|⟨a,s,t,r,i⟩;rcases List.mem_cons.1 h with rfl|h;exact Or.inr ⟨n,x.2,m.sub,oM,g⟩;exact Or.inl h;exact Or.inr ⟨a,s,t,oM,i⟩;by_cases z:f<n;exact d.cl f b s t z j hbk k c;have E:f=n:=oM;subst E;rcases d.new b hbk with h|⟨a,F,G,r,i⟩;rcases List.mem_cons.1 h with rfl|h;rw[(GW p _ _ _ _ _ _ j g).2]at c;exact C k c;exact d.sub k<|mM _<|o _ b s t q j h k c;have:=GV p j i;omega
def OO{N:Nat}{l:ϣ}(g:N<=1000)(n:Nat)(e:Kx N l n):∀(d:List (θ (Tn n))) (b:Ϥ),(∀m∈d,C9 N l n m)->Cl N l (n+1) b->Ef N l (n+1) b (d.foldl (B3 (BV n)) b)/\∀m∈d,∀k∈CA n m,k∈d.foldl (B3 (BV n)) b
 |[],b,_,hc=>⟨Ef.refl hc,λm c=>by cases c⟩|a::d,b,h,hc=>by let⟨h1,h2⟩:=Q8 g n e a (h a sM) b hc;let⟨f,j⟩:=OO g n e d (B3 (BV n) b a) (λm c=>h m (by simp[c])) h1.cl;refine⟨h1.trans f,λm c k i=>?_⟩;rcases List.mem_cons.1 c with rfl|c;exact f.sub k<|h2 k i;exact j m c k i
def NO{N:Nat}{l}(b:N<=1000):∀n,Kx N l n
 |0=>λt c a _=>⟨Ef.refl a,λd e=>by cases e⟩|n+1=>λt c a ho=>by let⟨h1,h2⟩:=OO b n (NO b n) (J t) c (ho n rfl) a;exact⟨h1,λd e=>by cases e;exact h2⟩
def E6(N:Nat)(l:ϣ)(a:Ϥ):Prop:=∀n,Cl N l n a
def CV:Ah→List Nat
 | .none=>[]
 | .at n l=>CA n l
def Da(N:Nat)(l:List UInt8):Ah→Prop
 | .none=>True
 | .at n m=>C9 N l n m
def E6.nil(N:Nat)(l):E6 N l []:=λn m b s t _ _ h=>by cases h
def I8{N:Nat}{l}(g:N<=1000)(rt)(c)(v:Da N l rt)(i:E6 N l c):(∀k∈c,k∈Ag c rt)/\E6 N l (Ag c rt)/\∀k∈CV rt,k∈Ag c rt:=by
 cases rt with
 | none=>exact⟨λ_ h=>h,i,λk e=>by cases e⟩
 | «at» n m=>
  let⟨d,r⟩:=Q8 g n (NO g n) m v c (i (n+1));refine⟨d.sub,λp o b s t u f j k e=>?_,r⟩;rcases d.new b j with h|⟨a,x,y,w,q⟩
  .exact d.sub k (i p o b s t u f h k e)
  .exact d.cl o b s t (oW (GV g f q)) f j k e
def I9{N:Nat}{l:ϣ}(g:N<=1000):∀(d:List Ah)(b:Ϥ),(∀r∈d,Da N l r)->E6 N l b->(∀k∈b,k∈d.foldl Ag b)/\E6 N l (d.foldl Ag b)/\∀r∈d,∀k∈CV r,k∈d.foldl Ag b
 | [],b,_,hc=>⟨λ_ h=>h,hc,λr c=>by cases c⟩
 | a::d,b,h,hc=>by
  let⟨m,n,o⟩:=I8 g a b (h a sM) hc;let⟨f,i,j⟩:=I9 g d (Ag b a) (λr c=>h r (by simp[c])) n;refine⟨λk e=>f k (m k e),i,λr c k e=>?_⟩;rcases List.mem_cons.1 c with rfl|c
  .exact f k (o k e)
  .exact j r c k e
def Id{N:Nat}{ks}:∀b∈AQ N ks,2<=b/\b<N/\b∉ks:=by
 intro b a;simp[AQ,List.mem_filter,List.mem_range'_1,decide_eq_true_eq]at a;exact⟨a.1.1,oM,a.2⟩
def OS(N:Nat)(ks):(AQ N ks).Nodup:=List.Pairwise.filter _ List.nodup_range'
def U3{N:Nat}{l:ϣ}(o:N<=1000)(t:N*128<=l.length)(n:Nat)(L:θ (Tn n))(d:List Ah)(u:C9 N l n L)(v:Ej n L)(B:n<6)(E:∀r∈d,Da N l r) (q:news n L<=(AQ N (d.foldl Ag (Ag [] (.at n L)))).length) (a:ϥ) (m:a=(Ac n L (AQ N (d.foldl Ag (Ag [] (.at n L))))).2.1):(∀x∈a,x.1<N/\x.2.length=128)/\(∃x,(Ac n L (AQ N (d.foldl Ag (Ag [] (.at n L))))).1.ref=some x/\Av N (laidAll l a) n x.1 x.2 (Ac n L (AQ N (d.foldl Ag (Ag [] (.at n L))))).1.sub)/\(∀r∈d,∀k∈CV r,ρ (laidAll l a) k=ρ l k)/\(∀k,k<2->ρ (laidAll l a) k=ρ l k):=by
 let⟨F,w,y⟩:=I8 o (.at n L) [] u (E6.nil N l);let⟨z,G,A⟩:=I9 o d _ E w;have f:=Id (N:=N) (ks:=d.foldl Ag (Ag [] (.at n L)));have C:=OS N (d.foldl Ag (Ag [] (.at n L)));generalize d.foldl Ag (Ag [] (.at n L))=ks at *;have g:=Ip n L (AQ N ks) q;rw[<-m]at g;have s:∀x∈a,x.1∈AQ N ks:=λx e=>by
  have h:x.1∈a.map Prod.fst:=List.mem_map_of_mem e;rw[g]at h;exact mT h
 have j:∀x∈a,x.1<N/\x.2.length=128:=λx e=>⟨(f x.1 (s x e)).2.1,LH n L _ v x (by rw[<-m];exact e)⟩;have i:∀k,(k∈ks\/k<2)->ρ (laidAll l a) k=ρ l k:=λk c=>NS N k a l t j (λhm=>by
  obtain⟨x,e,rfl⟩:=List.mem_map.1 hm;have h:=f _ (s x e);rcases c with c|c
  .exact h.2.2 c
  .omega)
 refine⟨j,?_,λr D k c=>i k (Or.inl (A r D k c)),λk c=>i k (Or.inr c)⟩;refine Pq N l (laidAll l a) n L (AQ N ks) u v B (λb p=>⟨(f b p).1,(f b p).2.1⟩) q (λx e=>?_) (λk c=>i k (Or.inl (z k (y k c))));rw[<-m]at e;refine T3 N a x l t j ?_ e;rw[g];exact C.sublist (List.take_sublist _ _)
open Go.Maps (Keyed)
section
attribute [local go_sem] Oper.semAt_some
def Kp.qU9{a b}{c:Option Nat}(h:a.grownBy b c):Kp c.toList a b:=kF.grown h λk d=>Or.inl (by rw[d];simp)
def Kp.qO4{S}{a b}(h:Kp S a b){l:Nat}(f:l∈S)(o):Kp S a (b.putObj l o):=
 ⟨h.os,h.tape,h.output,by have:=h.size;simp[World.putObj];omega,λk d c=>(World.putObj_heap_other (by intro e;subst e;exact c f)).trans<|h.block k d c⟩
def qI5{F:Nat}{g:Operand}{M:Array Tmp}{assign body:Code}{Q:Exit->Act->ϯ}{a:Act}{w}(z:Nat)(lb)(S:List Int->Prop)(N:Nat)(h1:1<=F)
  (hg:a.eval g=.func (.func z) #[] lb) (eg:ϴ z) (az:M.size=1) (a1:SeqGives Fence.wide (F-1) prog z lb (.int .u64) S N w)
  (Jj:List Int->ϯ)
  (I:∀s W G T,Jj s W->Kp T W G->(∀k∈T,w.heap.size<=k/\∀c t j,W.heap[k]?≠some (ϲ c t j))->Jj s G)
  (aj:∀W,Kp [] w W->Jj [] W)
  (aa:Int->Act)
  (aq:∀(l:Nat)(x:Int)(W)(K:Act->ϯ),K (aa x) W->assign.wpIn (Fence.wide.inRound l) (F-1-1) prog (Exit.then K (λ_ _ _=>False)) { tmps:=(M.zip #[.int .u64 x]).foldl (λt (p,v)=>t.setIfInBounds p v) a.tmps,defers:=[] } W)
  (au:∀(l:Nat)(C:List Int)(x:Int)(W),Jj C W->C.length<N->w.heap.size+2<=W.heap.size->
   body.wpIn (Fence.wide.inRound l) (F-1-1) prog (λe _ f=>match e with
    | .normal=>Jj (C++[x]) f/\W.heap.size<=f.heap.size/\∀(k:Nat)(o),W.heap[k]?=some o->(∀c t j,o≠Obj.cells c t j)->f.heap[k]?=some o
    | _=>False) (aa x) W)
  (av:∀(W)(u:List Int),S u->Jj u W->W.heap[w.heap.size]?=some (.deferred (some []))->Q .normal { a with defers:={ target:=.collected w.heap.size,args:=#[] }::a.defers } W):
  (Code.rangeFunc g M assign body).wpIn Fence.wide F prog Q a w:=by
 apply wpIn_rangeFunc;intro fn aw;obtain⟨b,q⟩:∃b:LoopState->Option Code->Loop,b=λst pe=>{ state:=st,pending:=pe,fn,tmps:=a.tmps,params:=M,assign,body,defers:=w.heap.size }:=⟨_,rfl⟩;let⟨d,A⟩:=eY<|(w.alloc<|.deferred<|some []).alloc<|.loop<|b .ready none;have ao:d.heap[w.heap.size+1]?=some (.loop<|b .ready none):=by
  rw[<-A];have:=World.alloc_heap_new (w.alloc<|.deferred<|some [])<|.loop<|b .ready none;rwa [World.size_alloc]at this
 have ah:Ϙ d w.heap.size (.deferred<|some []):=by
  rw[<-A];exact(gT _ _ _ sM).trans<|World.alloc_heap_new w _
 have an:Kp [] w d:=by rw[<-A];exact(kF.alloc _).alloc _
 have ag:Below w.heap.size w d:=by rw[<-A];exact((Below.refl _ w).alloc lR _).alloc sM _
 have a5:d.heap.size=w.heap.size+2:=by rw[<-A];simp
 refine⟨w.heap.size+1,[{ target:=.collected w.heap.size,args:=#[] }],d,{ target:=.fn (.func z) lb,args:=#[.func (.yield<|w.heap.size+1) #[] #[]] },d,z,
  #[.func (.yield<|w.heap.size+1) #[] #[]]++lb,d,?_,?_,?_,?_,λh=>(by cases h),?_⟩
 .rw[<-A,q];exact run_enterLoop_outer _ _ _ _ _
 .simp[resolve,hg];simp[go_sem]
 .intro f' a2;trivial
 .simp[invoke,go_sem,eg]
 .refine (a1 (w.heap.size+1) (λu W=>Jj u W/\W.heap[w.heap.size+1]?=some (.loop<|b .ready none)/\Ϙ W w.heap.size (.deferred<|some [])) d ag ?_ ?_ ⟨aj d an,ao,ah⟩).mono ?_
  .rintro u W G a6 ⟨R,m,H⟩ X af;have ae:=λr e=>(af r e).2;refine⟨I u W G _ R (Kp.qU9 X) λk n=>?_,(grownBy_keeps X ae m rfl).trans m,(grownBy_keeps X ae H rfl).trans H⟩;let⟨h3,o,h4,h5⟩:=af k<|sU n;exact⟨oM,λc t j e=>by rw[h4]at e;cases e;cases h5⟩
  .
   rintro C x W ⟨R,m,H⟩ ay;have a4:=U m;have hy:=run_yield (P:=prog) (args:=#[.int .u64 x]) m (by rw[q];simp[az]);rw[q]at hy;refine⟨fn,_,assign,body,hy,roundIn_of_wpIn aw<|aq _ x W _ ?_⟩;refine⟨_,run_beginRound m (by rw[q]),?_⟩;obtain⟨f,ac,ap,V⟩:∃f,f=W.putObj (w.heap.size+1) (.loop { b .ready none with state:=.busy })/\f.heap[w.heap.size+1]?=some (.loop { b .ready none with state:=.busy })/\Kp [w.heap.size+1] W f:=
    ⟨_,rfl,World.putObj_heap_same<|U m,kF.qO4 sM _⟩
   have ax:KeepsWalks W f:=by rw[ac];exact KeepsWalks.putObj _ m rfl
   rw[<-ac];have al:=I _ _ _ _ R V (λk n=>by rw[mS n];exact⟨oM,λc t j e=>by rw[m]at e;cases e⟩);refine wpIn_mono (au _ C x f al ay<|oW V.size) ?_;rintro e a3 y B
   cases e with
   | normal=>
    let⟨am,a0,Z⟩:=B;have L:=Z _ _ ap (λc t j e=>by cases e);have ar:=Z _ _ (V.hp H) (λc t j e=>by cases e);have E:=run_endRound (P:=prog) none L;rw[q]at E;refine⟨_,_,E,rfl,?_⟩;have D:Kp [w.heap.size+1] y (y.putObj (w.heap.size+1)<|.loop<|b .ready none):=kF.qO4 sM _;have ad:(Jj (C++[x]) (y.putObj (w.heap.size+1)<|.loop<|b .ready none)/\(y.putObj (w.heap.size+1)<|.loop<|b .ready none).heap[w.heap.size+1]?=some (.loop<|b .ready none)/\(y.putObj (w.heap.size+1)<|.loop<|b .ready none).heap[w.heap.size]?=some (.deferred<|some []))/\KeepsWalks W (y.putObj (w.heap.size+1)<|.loop<|b .ready none):=
     ⟨⟨I _ _ _ _ am D (λk n=>by rw[mS n];exact⟨oM,λc t j e=>by rw[L]at e;cases e⟩),World.putObj_heap_same<|U L,D.hp ar⟩,
      (ax.trans ⟨a0,λk o n ho=>Z k o n (λc t j e=>by rw[e]at ho;cases ho)⟩).trans (KeepsWalks.putObj _ L rfl)⟩
    rw[q]at ad |-;exact ad
   | ret=>exact B.elim
   | exit i=>exact B.elim
   | goto l=>exact B.elim
   | panic ch=>exact B.elim
   | outgrown=>exact B.elim
  .
   rintro e O ⟨⟨v,rfl⟩,u,hS,ak,ab,ai⟩;have E:=run_endLoop (P:=prog) ab (by rw[q];simp);rw[q]at E;have D:Kp [w.heap.size+1] O (O.putObj (w.heap.size+1) (.loop { b .ready none with state:=.exhausted })):=kF.qO4 sM _;refine⟨none,_,E,?_⟩;have:=av (O.putObj (w.heap.size+1) (.loop { b .ready none with state:=.exhausted })) u hS (I _ _ _ _ ak D (λk n=>by rw[mS n];exact⟨oM,λc t j e=>by rw[ab]at e;cases e⟩))<|D.hp ai;rw[q]at this;exact this
end
section
attribute [local go_sem] Oper.semAt_some
def WY:(prog.info? 78).map (λi=>(i.zero,i.size,i.bytes))=some (some (.int .u64 0),1,8):=kR
def E5(ks:List Int):List Value:=ks.map (.int .u64)
def Y0(w:Ϣ)(a:Value)(t:Ϯ):∀j u,[a][j]?=some u->(w.alloc (ϲ #[a] t)).cell? (((ϰ w.heap.size 0):Addr).add j)=some u:=λj u hj=>by
 rw[Cp,Y<|φ _ _];simpa using hj
def UM(args)(W):Sem.run prog (callFunc 239 args) W=.ok (.enter 239 args) W:=by simp[go_sem,func239]
def Xx(n:Nat)(q:1<=n)(a M V b:Nat)(D)(w)(d:w.heap[a]?=some (ϲ #[.map (some M)] 167))(e:RM w V M b D):SeqGives Fence.wide n prog 239 #[ϖ a] (.int .u64) (Fx D) (Maps.size D) w:=λl Jj W c j m i=>by
 have k:RM W V M b D:=by
  let⟨h,g,o,f⟩:=e;exact⟨h,g,(c.block M e.lt).trans o,f⟩
 have p:=(c.block a<|U d).trans d;exact Xw n q l a M V b D Jj m W j (by have:=Y p 0;simpa using this) k i
def Mg{w w'}{S}{b:Nat}{e}{f:Nat}{v}{n:Nat}{i:Ϩ}(h:w.ownsRow b e f v n i)(hK:Kp S w w')(p:∀k∈S,∀c fr,w.heap[k]?≠some (ϲ c e fr)):w'.ownsRow b e f v n i:=by refine⟨h.1,?_⟩;rcases h.2 with a|⟨g,j,l,a,m,d,o⟩;exact Or.inl a;exact Or.inr ⟨g,j,l,a,m,hK.heap d λq=>p g q _ _ d,o⟩
def Qw{w:Ϣ}{a:Nat}{e:Ϯ}{d:Nat}{v:Value}{n:Nat}{f:Ϩ}(h:w.ownsRow a e d v n f):∃b c,v=.slice b n c:=by rcases h.2 with⟨h1,h2⟩|⟨g,cap,cur,h1,_⟩;exact⟨none,0,by rw[h1,h2]⟩;exact⟨_,cap,h1⟩
def R3(B:Nat)(b:Ϣ)(a:List Int)(W:Ϣ):Prop:=∃v,W.heap[B]?=some (ϲ #[v] 252)/\W.ownsRow (B+1) 78 1 v a.length (E5 a)/\Kp [B] b W
def TL(g:Nat)(lb)(eg:ϴ g)(S:List Int->Prop)(N:Nat)(hN:N<=1000)(w)(ae:∀W,Kp [] w W->SeqGives Fence.wide 8 prog g lb (.int .u64) S N W):Ω 268 #[.slice none 0 0,.func (.func g) #[] lb] w λe Q=>∃v ks,e=ϱ v/\S ks/\Q.ownsRow w.heap.size 78 1 v ks.length (E5 ks)/\Kp [] w Q:=by let⟨i0,hi0,hz0,hz1,hz2⟩:=bF WY;refine(eP (n:=9)).1 ?_;refine callsIn_of_wp_marks func268 rfl trivial ?_ rfl;simp only[ntmps268,dM,List.length_cons,aJ,Nat.reduceAdd,Nat.reduceSub,eE,eF,eW,List.append_toArray,List.nil_append,List.cons_append];gi_wp2_with fail;let⟨m,P,aa,H,ai⟩:=Ja w<|.cells #[ϒ none 0 0] 252;rw[<-P];clear P;refine qI5 g lb S N dC rfl eg rfl (ae m H) (R3 w.heap.size m) ?JK ?J0 (λx=>{ tmps:=#[ϒ none 0 0,.func (.func g) #[] lb,ϖ w.heap.size,undef,ϒ none 0 0,.int .u64 x,.func (.func g) #[] lb,.int .u64 x,undef,undef,undef,undef,undef],defers:=[] }) ?assign ?body ?done;(case JK=>rintro s W W' T ⟨v,G,h2,h3⟩ hK C;exact⟨v,hK.heap G λhm=>(C _ hm).2 _ _ _ G,Mg h2 hK λk a c B=>(C k a).2 c _ B,h3.trans hK λi D M=>absurd (C i D).1 oM⟩);(case J0=>intro W hK;exact⟨_,hK.hp aa,World.ownsRow_nil _ _ _ _,hK.mono sM⟩);(case assign=>intro l x W K hK;gi_wp2;exact hK);(case body=>rintro l j x W ⟨v,d,f,h⟩ ah aj;obtain⟨r,t,rfl⟩:=Qw f;have:=U d;have:=ϻ d 0;have:=ω d 0;have b:=zh<|n3 d f h;(have R:Hid ((Value.slice r j.length t).ownBlock≠some w.heap.size):=λe=>by have:=qL8 f _ e;omega);have ab:∀{X:Obj} {p:World},(W.alloc X).grownBy p (Value.slice r j.length t).ownBlock->Ϙ p w.heap.size (.cells #[ϒ r j.length t] 252):=λ{X p} hg=>(hg.block _ sO λe=>R e.symm).trans<|ψ _ b.1;gi_wp2_with (gi_at_builtin;refine wpListIn_append_own _ rfl _ _ 252 rfl (w.heap.size+1) 78 i0 (.int .u64 0) 1 8 underlying252 hi0 hz0 hz1 hz2 rfl dC _ _ _ rfl (World.ownsRow.alloc b.2.1 _) (ϰ W.heap.size 0) 1 1 [.int .u64 x] rfl rfl (Y0 _ _ _) (by simp[Value.oneCell']) (by unfold maxLen;omega) oM sO ?_;intro v5 p L z _;obtain⟨g5,V,rfl⟩:=D7 L;have u:=ab z;have o5:=Y u 0;have:=ω u 0;simp only[zG,zH]at o5);have:=z.size;have:(W.alloc<|.cells #[.int .u64 x] 78).heap.size=W.heap.size+1:=sM;have y:Kp [w.heap.size] p (p.setCell (ϰ w.heap.size 0)<|ϑ g5 0 (j.length+1) V):=(kE _ _).sc _;have ad:=λk a=>qL8 b.2.1 k a;refine⟨⟨_,η u 0 _,?_,?_⟩,?_,?_⟩;(have e:E5 (j++[x])=E5 j++[.int .u64 x]:=by simp[E5]);rw[e,List.length_append];exact Mg L y (λk a c B e=>by rw[aC.1 a,u]at e;cases e);exact(((b.2.2.alloc _).grown z λk a=>Or.inr<|oW<|ad k a).tr y);have:=y.size;omega;intro k o a O;have M:=U a;(have ac:k≠w.heap.size:=λe=>by rw[e,b.out.1]at a;cases a;exact O _ _ _ _ rfl);refine y.heap ((z.block k sO λe=>?_).trans<|ψ _ a)<|sU ac;rcases b.2.1.2 with⟨h0,_⟩|⟨gb,af,ag,Z,e2,e3,_⟩;rw[h0]at e;cases e;rw[Z]at e;cases e;rw[e3]at a;cases a;exact O _ _ _ _ rfl);case done=>rintro W A hS ⟨v,d,f,h⟩ q;obtain⟨r,t,rfl⟩:=Qw f;have:=U d;have o0:=ϻ d 0;let⟨sl,E⟩:=eX A.length;rw[<-E]at o0;have b:Hid (W.ownsRow (w.heap.size+1) 78 1 (ϒ r sl t) A.length (E5 A)/\Kp [w.heap.size] m W/\Ϙ W m.heap.size (.deferred<|some [])):=⟨by rwa[E],h,q⟩;clear d f h q E;gi_wp2;let⟨f,h,q⟩:=b.out;refine⟨sM,.inl ⟨_,_,rfl,run_takeDeferred q,?_⟩⟩;have I:Kp [m.heap.size] W (W.putObj m.heap.size<|.deferred none):=(kE _ _).qO4 sM _;exact⟨_,results_tmp rfl _ _ _,_,A,rfl,hS,D8 (Mg f I (λk a c B e=>by rw[aC.1 a,q]at e;cases e)) oM,H.trans (h.tr I) (λi D M=>by simp at D;omega)⟩
def Xy(M:Nat)(w):Ω 173 #[.map (some M)] w λe a=>e=ϱ (.func (.func 239) #[] #[ϖ w.heap.size])/\a=w.alloc (ϲ #[.map (some M)] 167):=by have:=zM;go_enter func173,ntmps173;go_wp2;go_ret;exact⟨rfl,rfl⟩
def UY(b M V f:Nat)(D)(m:Maps.size D<=4)(w)(c:w.heap[b]?=some (ϲ #[.map (some M)] 167))(d:RM w V M f D):Ω 237 #[.func (.func 239) #[] #[ϖ b]] w λe g=>∃v a,e=ϱ v/\Fx D a/\g.ownsRow w.heap.size 78 1 v a.length (E5 a)/\Kp [] w g:=by have h:=zh<|TL _ _ UM (Fx D) (Maps.size D) oM w λW hK=>Xx 8 dC b M V f D W (hK.hp c)<|d.kp hK sM;clear c d;go_enter func237,ntmps237;go_wp2_with fail;refine(show Calls _ _ _ _ _ from h).mono ?_;rintro e n ⟨v,a,rfl,j,k,l⟩;have i:=zh<|n3 j k l;go_wp2;go_ret;exact⟨v,a,rfl,i⟩
end
def nw{X:Type}(l:θ X):Nat:=if l.ref.isSome then 0 else 1
def Hd:(n:Nat)→θ (Tn n)→Prop
 | 0,_=>True
 | n+1,l=>(l.ref.isSome=true→qK3 (news n) (J l.sub)=0)∧∀m∈J l.sub,Hd n m
def L7{X:Type}{l:θ X}(h:l.ref=none):nw l=1:=by simp[nw,h]
def JS{n:Nat}(b:Ϧ)(a:List (θ (Tn n))):news (n+1) ⟨b,none,a⟩=1+qK3 (news n) a:=by simp[news];rfl
def Hd.sum{n:Nat}{l}(h:Hd (n+1) l):qK3 (news n) (J l.sub)+nw l=news (n+1) l:=by unfold news nw;split;rename_i e;rw[h.1 e];rw[iK]
def YT:∀(n:Nat) (l:θ (Tn n)),nw l<=news n l
 |0,l=>lR|n+1,l=>by unfold news nw;split<;>omega
def JB{c:Type}(f:c->Nat)(l:List c):(∃a,AN f l=[a]/\a=l)\/∃a b,AN f l=[a,b]/\a++b=l:=by unfold AN;split;exact .inl ⟨l,rfl,rfl⟩;exact .inr ⟨_,_,rfl,tD _ _⟩
def It(key)(ps):qK3 (news 0) (Bn key ps)=(Bn key ps).length/\(Bn key ps).length<=2:=by unfold Bn;rcases JB μ ps with⟨a,e,_⟩|⟨a,b,e,_⟩<;>rw[e];exact⟨rfl,Nat.le_succ 1⟩;exact⟨rfl,aM 2⟩
def Jm{n:Nat}(key)(ls):qK3 (news (n+1)) (A8 n key ls)=(A8 n key ls).length+qK3 (news n) ls/\(A8 n key ls).length<=2:=by unfold A8;rcases JB Af ls with⟨a,e,c⟩|⟨a,b,e,c⟩;rw[e];refine⟨?_,Nat.le_succ 1⟩;show qK3 (news<|n+1) [⟨key,none,a⟩]=1+_;rw[AV,Bf,JS,c,bG];rw[e];refine⟨?_,aM 2⟩;show qK3 (news<|n+1) [⟨key,none,a⟩,⟨_,none,b⟩]=2+_;rw[AV,AV,Bf,JS,JS,<-c,Br];omega
def qH9:∀(n:Nat) (l:θ (Tn n)) (p:KV),(Bu n l p).length<=2
 |0,l,p=>(It _ _).2|n+1,l,p=>by simp[Bu];split;exact(Jm _ _).2;exact zL _
def Rv:∀(n:Nat)(l)(p),Hd n l->qK3 (news n) (Bu n l p)+nw l<=(Bu n l p).length+2*n+news n l
 |0,l,p,h=>by have:=(It l.key<|CN p l.sub).1;show qK3 (news 0) (Bn l.key<|CN p l.sub)+nw l<=(Bn l.key<|CN p l.sub).length+0+nw l;omega|n+1,l,p,h=>by have:=h.sum;(have e:Bu (n+1) l p=match (J l.sub)[Ao (J l.sub) p.k]? with|some m=>A8 n l.key ((J l.sub).take (Ao (J l.sub) p.k)++Bu n m p++(J l.sub).drop (Ao (J l.sub) p.k+1))|none=>[]:=rfl);rw[e];cases hx:(J l.sub)[Ao (J l.sub) p.k]? with|none=>have:=YT (n+1) l;simp[qK3];omega|some m=>let⟨c,d⟩:=gS hx;have:=Rv n m p<|h.2 m<|mO hx;have:=qH9 n m p;have a:=(Jm l.key<|(J l.sub).take (Ao (J l.sub) p.k)++Bu n m p++(J l.sub).drop (Ao (J l.sub) p.k+1)).1;have b:=Ex (news n) (J l.sub)<|Ao (J l.sub) p.k;rw[dG c,AV,d]at b;rw[Br,Br]at a;simp only;omega
def Xs:∀{n:Nat} {a b},Hd n a->Hd n b->qK3 (news n) (BX n a.key a.sub b.sub)+nw a+nw b<=2+news n a+news n b
 |0,a,b,_,_=>by let⟨c,d⟩:=It a.key<|List.append (α:=KV) a.sub b.sub;show qK3 (news 0) (Bn a.key<|List.append (α:=KV) a.sub b.sub)+nw a+nw b<=2+nw a+nw b;omega|n+1,a,b,ha,hb=>by let⟨c,d⟩:=Jm a.key<|J a.sub++J b.sub;have:=ha.sum;have:=hb.sum;rw[Br]at c;show qK3 (news<|n+1) (A8 n a.key<|J a.sub++J b.sub)+nw a+nw b<=_;omega
def LV(n:Nat)(ls)(i:Nat):AZ n ls i=ls\/∃P a b Q,ls=P++a::b::Q/\AZ n ls i=P++BX n a.key a.sub b.sub++Q/\((ls[i]?=some a/\cnt n a.sub<3)\/(ls[i]?=some b/\cnt n b.sub<3)):=by unfold AZ;cases hx:ls[i]? with|none=>exact .inl rfl|some x=>simp only;by_cases d:3<=cnt n x.sub;exact .inl<|aR d;rw[aO d];cases ha:ls[min i<|ls.length-2]? with|none=>exact .inl rfl|some a=>cases hb:ls[min i (ls.length-2)+1]? with|none=>exact .inl rfl|some b=>let⟨i1,e1⟩:=gS ha;let⟨f,e⟩:=gS hb;let⟨h,g⟩:=gS hx;refine .inr ⟨ls.take<|min i<|ls.length-2,a,b,ls.drop<|min i (ls.length-2)+2,?_,rfl,?_⟩;rw[<-e1,<-e,<-dG f,<-dG i1,tD];by_cases c:min i (ls.length-2)=i;rw[c,hx]at ha;cases ha;exact .inl ⟨rfl,oM⟩;have c:min i (ls.length-2)+1=i:=oM;rw[c,hx]at hb;cases hb;exact .inr ⟨rfl,oM⟩
def Yi{n:Nat}{A W B}{m}(o:∀x∈A++W++B,Hd n x)(q:C8 n m 1 W):qK3 (news n) (AZ n (A++W++B) A.length)+W.length<=qK3 (news n) (A++W++B)+2:=by (have p:W.length<=2/\∀x,(A++W++B)[A.length]?=some x->x.ref=none/\(cnt n x.sub<3->W.length=1):=by rcases q with⟨a,rfl,g,d,c⟩|⟨a,b,rfl,g,d,c,e4,e5⟩;refine⟨sM,λx f=>?_⟩;rw[show(A++[a]++B)[A.length]?=some a by simp]at f;cases f;exact⟨d,λ_=>rfl⟩;refine⟨sM,λx f=>?_⟩;rw[show(A++[a,b]++B)[A.length]?=some a by simp]at f;cases f;exact⟨d,λh=>by omega⟩);let⟨r,k⟩:=p;rcases LV n (A++W++B) A.length with e|⟨P,a,b,Q,g,d,c⟩;rw[e];omega;rw[d];rw[g]at o c k |-;have:=Xs (o a sM)<|o b sM;rw[Br,Br,Br,AV,AV];rcases c with⟨c,l⟩|⟨c,l⟩;let⟨i,j⟩:=k _ c;have:=L7 i;have:=j l;omega;let⟨i,j⟩:=k _ c;have:=L7 i;have:=j l;omega
def lf:(n:Nat)→Tn n→Nat
 | 0,_=>1
 | n+1,ls=>qK3 (fun l:θ (Tn n)=>lf n l.sub) (J ls)
def CI(n:Nat)(ls:List (θ (Tn n))):Nat:=qK3 (fun l=>lf n l.sub) ls
def NW{n:Nat}(key)(ls):CI (n+1) (A8 n key ls)=CI n ls:=by unfold A8;rcases JB Af ls with⟨a,e,c⟩|⟨a,b,e,c⟩;rw[e];show qK3 (λl=>lf (n+1) l.sub) [(⟨key,none,a⟩:θ (Tn<|n+1))]=_;rw[AV,Bf,<-c];rfl;rw[e];show qK3 (λl=>lf (n+1) l.sub) [(⟨key,none,a⟩:θ (Tn<|n+1)),⟨_,none,b⟩]=_;rw[AV,AV,Bf,<-c,CI,Br];rfl
def Xr:∀{n:Nat} {a b:θ (Tn n)},CI n (BX n a.key a.sub b.sub)<=lf n a.sub+lf n b.sub
 |0,a,b=>(by (have:∀c:List (θ<|Tn 0),CI 0 c=c.length:=λc=>by induction c with|nil=>rfl|cons x r ih=>rw[CI,AV,<-CI,ih];show 1+r.length=r.length+1;omega);show CI 0 (Bn a.key<|List.append (α:=KV) a.sub b.sub)<=1+1;rw[this];exact(It a.key<|List.append (α:=KV) a.sub b.sub).2)|n+1,a,b=>by show CI (n+1) (A8 n a.key<|J a.sub++J b.sub)<=_;rw[NW,CI,Br];exact lR
def Yh(n:Nat)(ls)(i:Nat):CI n (AZ n ls i)<=CI n ls:=by rcases LV n ls i with e|⟨P,a,b,Q,c,d,_⟩;rw[e];exact lR;have:=Xr (a:=a) (b:=b);rw[d,c];simp[CI,Br,AV]at this |-;omega
def NV{n:Nat}{key}{ls}(h:∀m∈ls,Hd n m):∀x∈A8 n key ls,Hd (n+1) x:=by unfold A8;rcases JB Af ls with⟨a,e,d⟩|⟨a,b,e,d⟩;rw[e];intro x c;rw[mS c];exact⟨λh=>(by cases h),λm hm=>h m (by rwa[<-d])⟩;rw[e];intro x c;rcases List.mem_cons.1 c with rfl|c;exact⟨λh=>(by cases h),λm hm=>h m (by rw[<-d];exact aI _ hm)⟩;rw[mS c];exact⟨λh=>(by cases h),λm hm=>h m (by rw[<-d];exact aK _ hm)⟩
def Xq:∀{n:Nat} {a b:θ (Tn n)},Hd n a->Hd n b->∀x∈BX n a.key a.sub b.sub,Hd n x
 |0,a,b,_,_=>λ_ _=>trivial|n+1,a,b,ha,hb=>NV (ls:=J a.sub++J b.sub) λm hm=>(mA hm).elim (ha.2 m)<|hb.2 m
def Ye{n:Nat}{d}{i:Nat}(h:∀x∈d,Hd n x):∀x∈AZ n d i,Hd n x:=by rcases LV n d i with e|⟨P,a,b,Q,e1,e2,_⟩;rwa[e];rw[e2];rw[e1]at h;intro x c;rcases mA c with c|c;rcases mA c with c|c;exact h x (by simp[c]);exact Xq (h a sM) (h b sM) x c;exact h x (by simp[c])
def Rw:∀(n:Nat) (l:θ (Tn n)) (k:Ϧ),Hd n l->∀x∈A4 n l k,Hd n x
 |0,l,k,h=>λ_ _=>trivial|n+1,l,k,h=>by show ∀x∈(match (J l.sub)[Ao (J l.sub) k]? with|some m=>A8 n l.key (AZ n ((J l.sub).take (Ao (J l.sub) k)++A4 n m k++(J l.sub).drop (Ao (J l.sub) k+1))<|Ao (J l.sub) k)|none=>[]),Hd (n+1) x;cases hx:(J l.sub)[Ao (J l.sub) k]? with|none=>intro x hx;cases hx|some m=>refine NV<|Ye λx hx'=>?_;rcases mA hx' with hx'|hx';rcases mA hx' with hx'|hx';exact h.2 x<|mT hx';exact Rw n m k (h.2 m<|mO hx) x hx';exact h.2 x<|mD hx'
def Rx:∀(n:Nat)(l)(k),Hd n l->Ay n l.key l.sub->kl k l.key=false->l.key.size<=8->(∃q∈cont n l.sub,q.k=k)->min n 1<cnt n l.sub->qK3 (news n) (A4 n l k)+nw l<=(A4 n l k).length+2*n+news n l/\CI n (A4 n l k)<=lf n l.sub
 |0,l,k,ho,h,hk,hz,c,h1=>by have v:A4 0 l k=Bn l.key ((ζ l.sub).take (Aw (ζ l.sub) k)++(ζ l.sub).drop (Aw (ζ l.sub) k+1)):=rfl;have e:=(It l.key<|(ζ l.sub).take (Aw (ζ l.sub) k)++(ζ l.sub).drop (Aw (ζ l.sub) k+1)).1;(have j:qK3 μ ((ζ l.sub).take (Aw (ζ l.sub) k)++(ζ l.sub).drop (Aw (ζ l.sub) k+1))<=126:=by have f:qK3 μ (ζ l.sub)<=126:=h.fits;have:=Ex μ (ζ l.sub)<|Aw (ζ l.sub) k;have u:=Ex μ ((ζ l.sub).drop<|Aw (ζ l.sub) k) 1;rw[bH]at u;rw[Br];omega);rw[v];refine⟨by show _<=_+0+nw l;omega,?_⟩;unfold Bn AN;rw[aR j];exact lR|n+1,l,k,ho,h,hk,hz,c,h1=>by (have f:1<(J l.sub).length:=by have f:min (n+1) 1<(J l.sub).length:=h1;omega);have E:Bz n l.key (J l.sub):=⟨h.head,λm d=>⟨(h.all m d).1,(h.all m d).2.2⟩,h.pair⟩;let⟨A,m,B,e,g,s,z,C⟩:=IQ (k:=k) E (by intro e;rw[e]at f;simp at f) hk;have p:=λx a=>h.all x (by show x∈J l.sub;rw[e];exact a);have i:=λx a=>ho.2 x (by rw[e];exact a);have d:=p m sM;have D:=λb r q c=>Et (C b r) ((De n b.key b.sub (p b (by simp[r])).1).2 q c).2;(have t:∃q∈cont n m.sub,q.k=k:=by let⟨q,c,eq⟩:=c;have c:q∈(J l.sub).flatMap (λl=>cont n l.sub):=c;rw[e]at c;let⟨x,a,o⟩:=mF c;rcases mA a with a|a;exact absurd eq<|CO<|z x a q o;rcases List.mem_cons.1 a with rfl|a;exact⟨q,o,eq⟩;exact absurd eq.symm<|CO<|D x a q o);let⟨M,N,K⟩:=Hm n m k d.1 s d.2.2 t oM;let⟨L,I⟩:=Rx n m k (i m sM) d.1 s d.2.2 t oM;have j:=Yi (A:=A) (B:=B) (W:=A4 n m k) (m:=m) (λx a=>by rcases mA a with a|a;rcases mA a with a|a;exact i x (by simp[a]);exact(λx a=>Rw n m k (i m sM) x a) x a;exact i x (by simp[a])) K;(have H:A4 (n+1) l k=A8 n l.key (AZ n (A++A4 n m k++B) A.length):=by (have y:(J l.sub)[Ao (J l.sub) k]?=some m:=by rw[<-g,e];simp);(have G:(J l.sub).take (Ao (J l.sub) k)=A:=by rw[<-g,e];simp);(have w:(J l.sub).drop (Ao (J l.sub) k+1)=B:=by rw[<-g,e,show A++m::B=(A++[m])++B by simp];exact fX sM);show(match (J l.sub)[Ao (J l.sub) k]? with|some m=>A8 n l.key (AZ n ((J l.sub).take (Ao (J l.sub) k)++A4 n m k++(J l.sub).drop (Ao (J l.sub) k+1))<|Ao (J l.sub) k)|none=>[])=_;rw[y,G,w,g]);have F:=ho.sum;have:=(Jm l.key<|AZ n (A++A4 n m k++B) A.length).1;rw[e,Br,AV]at F;rw[Br,Br]at j;rw[H,NW];refine⟨oM,lT (Yh n (A++A4 n m k++B) A.length) ?_⟩;show _<=CI n (J l.sub);rw[e];simp[CI,Br,AV]at I |-;omega
def OZ:∀(n:Nat)(lo)(t),Ay (n+1) lo t->(J t).length*3 ^ n<=lf (n+1) t
 |n,lo,t,h=>by (have g:∀b:List (θ<|Tn n),(∀x∈b,3 ^ n<=lf n x.sub)->b.length*3 ^ n<=qK3 (λl:θ (Tn n)=>lf n l.sub) b:=by intro b;induction b with|nil=>intro _;simp[qK3]|cons a r ih=>intro f;have d:=ih λx c=>f x (by simp[c]);have e:=f a sM;rw[lC,iI,AV];omega);refine g (J t) λx c=>?_;let⟨d,e,_⟩:=h.all x c;cases n with|zero=>exact lR|succ n=>have:=OZ n x.key x.sub d;have:3*3 ^ n<=(J x.sub).length*3 ^ n:=bI _ e;rw[Nat.pow_succ];omega
def Ah.lf:Ah→Nat
 | .none=>0
 | .at n l=>YtdohpenfkdckiaaGreatDoor.lf n l.sub
def Ah.lev:Ah→Nat
 | .none=>0
 | .at n l=>n
def Ah.hd:Ah→Prop
 | .none=>True
 | .at n l=>Hd n l
def QH{n:Nat}{l}(h:AE (.at (n+1) l)):2*3 ^ n<=Ah.lf (.at (n+1) l):=by
 have a:2<=(J l.sub).length:=by have:min (n+1) 1<(J l.sub).length:=h.2.2;omega
 exact lT (bI _ a) (OZ n _ _ h.2.1)
def JL{r}(h:AE r)(c:r.lf<=1400):r.lev<=6:=by cases r with|none=>exact zL _|«at» n l=>cases n with|zero=>exact zL _|succ n=>have:=QH h;show n+1<=6;rcases iL n 6 with a|a;omega;have b:3 ^ 6<=3 ^ n:=gY oM a;simp at b;omega
def XZ{r}(h:AE r)(c:r.lf<=485):r.lev<=5:=by cases r with|none=>exact zL _|«at» n l=>cases n with|zero=>exact zL _|succ n=>have:=QH h;show n+1<=5;rcases iL n 5 with a|a;omega;have b:3 ^ 5<=3 ^ n:=gY oM a;simp at b;omega
def qF6:∀(n:Nat)(l),l.ref=none->(ED n l).news<=news n l/\((ED n l).lev=n\/(ED n l).news+1<=news n l)/\(ED n l).lev<=n/\(ED n l).lf<=lf n l.sub
 |0,l,h=>(by (have e:ED 0 l=match ζ l.sub with | []=>.none | _::_=>.at 0 l:=rfl);rw[e];cases ζ l.sub with|nil=>exact⟨zL _,.inl rfl,zL _,zL _⟩|cons x r=>exact⟨lR,.inl rfl,lR,lR⟩)|n+1,l,h=>by (have e:ED (n+1) l=match J l.sub with | []=>.none | [m]=>.at n m | _::_::_=>.at (n+1) l:=rfl);(have a:news (n+1) l=1+qK3 (news n) (J l.sub):=by simp[news,h]);have b:lf (n+1) l.sub=CI n (J l.sub):=rfl;rw[e,a,b];cases hx:J l.sub with|nil=>exact⟨zL _,.inr (by show 0+1<=_;omega),zL _,zL _⟩|cons x r=>cases r with|nil=>rw[AV,Bf,CI,AV,Bf];exact⟨by show news n x<=_;omega,.inr (by show news n x+1<=_;omega),Nat.le_succ n,lR⟩|cons y r=>refine⟨?_,.inl rfl,lR,?_⟩;show news (n+1) l<=_;rw[a,hx];exact lR;show CI n (J l.sub)<=_;rw[hx];exact lR
def MP{n:Nat}{l}{d:Nat}{W}(e:C8 n l d W)(c:∀w∈W,w.key.size<=8):(W.length=1/\(BA n W).news<=qK3 (news n) W/\((BA n W).lev=n\/(BA n W).news+1<=qK3 (news n) W)/\(BA n W).lev<=n/\(BA n W).lf<=CI n W)\/(W.length=2/\(BA n W).news=qK3 (news n) W+1/\(BA n W).lev=n+1/\(BA n W).lf=CI n W):=by rcases e with⟨a,rfl,e1,e2,e3⟩|⟨a,b,rfl,e1,e2,e3,f,g⟩;rw[AV,Bf,CI,AV,Bf];exact .inl ⟨rfl,qF6 n a e2⟩;(have h2:qK3 Af [a,b]<=126:=by have:=c a sM;have:=c b sM;simp[qK3,Af];omega);have Tz:Hid (∀{p:Prop},(_h:p:=by refine .inr ⟨rfl,?_,rfl,rfl⟩;show news (n+1) ⟨⟨#[]⟩,none,[a,b]⟩=_;rw[JS,iK])->p):=λh=>h;exact RW
def C7(c:Nat)(r:Ah):Prop:=r.news<=12*c+(if r.lev=6 then 1 else 0)
def OG{n:Nat}{l}{d c:Nat}{W}(g:C8 n l d W)(i:∀w∈W,w.key.size<=8)(q:qK3 (news n) W+nw l<=W.length+2*n+news n l)(m:C7 c (.at n l))(p:n<=6)(k:n=6->l.ref=none)(o:(BA n W).lev<=6):C7 (c+1) (BA n W):=by have h:news n l<=12*c+(if n=6 then 1 else 0):=m;unfold C7;by_cases a:n=6;have:=L7<|k a;rw[aR a]at h;rcases MP g i with⟨b,e,f,j,_⟩|⟨b,e,f,_⟩;split<;>omega;omega;rw[aO a]at h;rcases MP g i with⟨b,e,f,j,_⟩|⟨b,e,f,_⟩<;>split<;>omega
def VM{r}{p}{c:Nat}(h:AE r)(m:r.hd)(d:A2 p)(i:C7 c r)(k:r.lev<=6)(g:∀l,r=.at 6 l->l.ref=none)(j:(r.put p).lev<=6):C7 (c+1) (r.put p):=by cases r with|none=>have a:=Mk (r:=.none) (p:=p) trivial d;have b:=G9 a.1;have f:=Lu p Ah.none.cont;rw[a.2]at b;have:Ah.none.cont.length=0:=rfl;unfold C7;omega|«at» n l=>let⟨a,b,f⟩:=h;let⟨q,t,s⟩:=IR n l p b d (by rw[a];exact Es _) (by rw[a];decide) oM;exact OG s (λw o=>(q.all w o).2) (Rv n l p m) i k (λe=>by subst e;exact g l rfl) j
def OF{r}{k}{c:Nat}(h:AE r)(t:r.hd)(f:C7 c r)(i:r.lf<=1400)(p:∀l,r=.at 6 l->l.ref=none):C7 (c+1) (r.del k)/\(r.del k).lf<=r.lf:=by have s:=JL h i;have a:=(Oq (k:=k) h).1;cases r with|none=>exact⟨zL _,lR⟩|«at» n l=>let⟨h1,h2,h3⟩:=h;unfold Ah.del at a |-;by_cases b:(cont n l.sub).any (λq=>decide (q.k=k))=true;simp only[b,gD]at a |-;(have j:∃q∈cont n l.sub,q.k=k:=by simpa using b);let⟨m,x,o⟩:=Hm n l k h2 (by rw[h1];exact Es _) (by rw[h1];decide) j h3;let⟨u,v⟩:=Rx n l k t h2 (by rw[h1];exact Es _) (by rw[h1];decide) j h3;(have g:(BA n<|A4 n l k).lf<=lf n l.sub:=by rcases MP o (λw d=>(m.all w d).2) with⟨_,_,_,_,h5⟩|⟨_,_,_,h5⟩<;>omega);exact⟨OG o (λw d=>(m.all w d).2) u f s (λe=>by subst e;exact p l rfl)<|JL a<|lT g i,g⟩;simp only[b];refine⟨?_,lR⟩;have:news n l<=12*c+(if n=6 then 1 else 0):=f;show news n l<=12*(c+1)+(if n=6 then 1 else 0);omega
def U1(a x n V:Nat)(t)(s)(D)(w)(c:w.heap[a]?=some (ϲ #[ϖ x] 32))(b:w.heap[x]?=some (Al t))(i:w.heap[t.St]?=some (ν 1 s))(E:RM w s.V s.M n D)(A:0<=t.nr)(B:t.nr<=1000000000)(l:s.M≠t.St)(u:x≠t.St)(r:x≠s.M)(o:a≠s.M)(P:s.M<w.heap.size)(H:t.on=some (ϰ V 0))(K:t.wrt=false):Ω 68 #[ϖ a] w λe g=>e=AK none/\g.heap[x]?=some (Al t.ended)/\g.heap[t.St]?=some (ν 1 (s.left t.nr))/\RM g s.V s.M n (D.del (Ad t.nr))/\Kp [t.St,x,s.M] w g:=by
 have:=U b;have:=U c;have:=U i;have q:a≠x:=JX c b dC;have p:a≠t.St:=JX c i dC;have:=ϻ c 0;have N:=ϻ b 4;have:=ϻ b 5;have:=ϻ b 6;have:=ϻ b 7;have:=ϻ b 8;rw[H]at N;have z:Hid (s.M≠t.St/\x≠t.St/\x≠s.M/\a≠s.M/\a≠x/\a≠t.St):=⟨l,u,r,o,q,p⟩;clear l u r o q p;go_enter func68,ntmps68;go_wp2_with fail;let⟨M,I,O,f,Q⟩:=Ja w (ϲ (ϟ V t.h) 89);rw[<-I];let⟨L,n2,n3,n4,n5,n6⟩:=z.out;refine mR (GL x n t s D M (f.hp b) (f.hp i) (E.kp f sM) A B L n2 n3) ?_;rintro d ⟨j,G,F,C⟩;have k:Kp [t.St,x,s.M] w d:=(f.mono sM).trans C (λ_ h _=>h);have m:=k.heap c (by simp;exact⟨n6,n5,n4⟩);have:=U m;have:=U j;have:=ϻ m 0;have v:=Y j 2;simp[Al,Tx.ended,zG,zH,zI]at v;rw[K]at v;have y:Hid (Ϙ d x (Al t.ended)/\Ϙ d t.St (ν 1 (s.left t.nr))/\RM d s.V s.M n (D.del (Ad t.nr))/\Kp [t.St,x,s.M] w d):=⟨j,G,F,k⟩;go_wp2
 go_end0
 exact⟨rfl,y⟩
def qE0(x n V:Nat)(t)(s)(D)(w)(j:w.heap[x]?=some (Al t))(C:t.over=false)(k:w.heap[t.St]?=some (ν 0 s))(F:s.po=false)(z:RM w s.V s.M n D)(r:0<=t.nr)(u:t.nr<=1000000000)(g:s.M≠t.St)(b:x≠t.St)(K:x≠s.M)(M:s.M<w.heap.size)(E:t.on=some (ϰ V 0))(I:t.wrt=false):Ω 31 #[ϖ x] w λe c=>e=ϱ .nilIface/\c.heap[x]?=some (Al t.ended)/\c.heap[t.St]?=some (ν 0 (s.left t.nr))/\RM c s.V s.M n (D.del (Ad t.nr))/\Kp [t.St,x,s.M] w c:=by
 have:=zM;have:=U j;have:=U k;go_enter func31,ntmps31;go_wp2_with fail;obtain⟨L,H,y,a,N⟩:=Ja w (ϲ #[ϖ x] 32);rw[<-H];refine(Jz none dC x t.St 68 t s (s.left t.nr) #[] #[ϖ w.heap.size] _ [x,s.M] (λW d=>Ϙ d x (Al t.ended)/\RM d s.V s.M n (D.del (Ad t.nr))) L (a.hp j) C rfl (a.hp k) F b (Oa _) (by intro i hi;simp at hi;omega) ?_).mono ?_
 .intro W hK A;have f:=(a.mono sM).trans hK (λ_ h _=>h);have B:w.heap.size≠t.St:=oM
  refine mR (U1 w.heap.size x n V t s D W (hK.heap y (by simp;exact B)) (f.heap j (by simp;exact b)) A (z.kp f (by simp;exact g)) r u g b K oM (oW f.size) E I) ?_;rintro d ⟨m,o,p,q⟩;exact⟨rfl,⟨m,p⟩,q,o⟩
 rintro e O ⟨v,rfl,hv,hSt2,hK2,W,d,Bb,⟨ha,hb⟩,hKW,hB1,hB2,hB3,hKB⟩;have G:v=.nilIface:=hv;subst G;have l:=zh (n4 (hKB.heap ha (by simp;exact⟨b,oM⟩)) hSt2 (hb.kp hKB (by simp;exact⟨g,oM⟩)) ((a.mono sM).trans hK2 (λ_ h _=>h)));go_wp2;go_ret;exact⟨rfl,l⟩
def qD9(x:Nat)(t)(s)(w)(d:w.heap[x]?=some (Al t))(k:s.po=true\/t.over=true)(i:w.heap[t.St]?=some (ν 0 s))(n:x≠t.St):Ω 31 #[ϖ x] w λe b=>∃v,e=ϱ v/\AD b v (some (BP s))/\b.heap[t.St]?=some (ν 0 s)/\Kp [t.St] w b:=by
 have:=zM;have:=U d;go_enter func31,ntmps31;go_wp2_with fail;let⟨o,m,p,a,q⟩:=BH w (ϲ #[ϖ x] 32);rw[<-m];refine(Gc x t.St 68 t s #[] #[ϖ w.heap.size] _ o (a.hp d) k rfl (a.hp i) n).mono ?_;rintro e c ⟨v,rfl,l,j,g⟩;have f:=ξ (show AD c v (some (BP s))/\Ϙ c t.St (ν 0 s)/\Kp [t.St] w c from⟨l,j,(a.mono sM).trans g (λ_ h _=>h)⟩);go_wp2;go_ret;exact⟨v,rfl,f⟩
