import Derived.Test.YtdohpenfkdckiaaGreatDoorJ06
import Derived.Carry
import Derived.LaidEql
import Derived.Stop.Asserts
import Derived.RowKitTokens
set_option linter.all false
set_option maxRecDepth 100000
set_option maxHeartbeats 20000000
namespace Go.Proofs.YtdohpenfkdckiaaGreatDoor
open Go.Proofs.Tryz
open Go.RowKit
variable {κ:Nat}
structure Sto where
 V:Nat
 M:Nat
 N:Int
 rb:Int
 rs:Int
 bl:Int
 po:Bool
 bg:Int
 wr:Int
def θ(lk:Int)(s:Sto):Obj:=
 .cells #[.int .i32 lk,.int .u32 0,.pointer (some ⟨s.V,0,none⟩),.int .u64 s.N,.int .i64 s.rb,.int .u64 s.rs,.int .i64 s.bl,.bool s.po,.int .u64 s.bg,.int .u64 s.wr,.map (some s.M)] 169
theorem zT9(V A n:Nat)(w)(a:w.heap[V]?=some (qE4 A n)):
  Calls prog 121 #[.pointer (some ⟨V,0,none⟩)] w λe c=>e=.returned (.int .i64 n)/\c=w:=by
 have b:=ξ a 1;simp at b;clear a;go_enter func121,ntmps121;go_wp2;go_ret;exact⟨rfl,rfl⟩
theorem kE8(D X A n C:Nat)(cache)(a b:Int)(w)(c:w.heap[D]?=some (.cells #[.iface 27 (.pointer (some ⟨A,0,none⟩))] 206))(h:w.heap[A]?=some (qA8 κ n C cache a b))(f:n<8\/400<n):
  Calls prog 143 #[.pointer (some ⟨D,0,none⟩),.pointer (some ⟨X,0,none⟩)] w λe g=>e=.panicked [{ v:=.iface 182 (.agg #[.iface 45 (.int .i64 10)]),recovered:=false }]/\Kp [] w g:=by
 have c0:=ξ c 0;simp at c0;go_enter func143,ntmps143;go_wp2_with fail;refine (xK6 A n C cache a b _ h f).mono ?_;rintro e w1 ⟨rfl,d⟩;go_wp2;exact⟨rfl,rfl,d⟩
variable {κ:Nat}
theorem jA5(args)(W):Sem.run prog (callFunc 143 args) W=.ok (.enter 143 args) W:=by
 simp[go_sem,func143]
end Go.Proofs.YtdohpenfkdckiaaGreatDoor
namespace Go.Proofs.YtdohpenfkdckiaaGreatDoor
open Go.Proofs.Tryz
open Go.RowKit Go.Extern.Stop Go.Stop Go.Extern
def qE9:Value:=.iface 220 (.agg #[.pointer (some ⟨5,38,none⟩)])
theorem xW2(t)(w):(ReflectliteValue.unpack (.iface 95 (.pointer (some t)))).run prog w
  = .ok (.agg #[.pointer (some ⟨5,95,none⟩),.pointer (some ⟨w.heap.size,0,none⟩),.int .u64 150]) (w.alloc (.cells #[.pointer (some t)] 95)):=kR
theorem xW0(a)(w):(ReflectliteValue.methodAny (ReflectliteValue.valueError "reflectlite.Value.Type" 0) (λt _ _ _=>ReflectliteType.toType t) #[.agg #[.pointer (some ⟨5,95,none⟩),.pointer (some a),.int .u64 150]]).run prog w
  = .ok (.iface 220 (.agg #[.pointer (some ⟨5,95,none⟩)])) w:=kR
theorem xV5(h)(w):(Go.method 513 220 (.agg #[h]) "Kind").run prog w=.ok (322,h) w:=kR
theorem xV1(w):((ReflectliteType.abiMethod λt=>Functor.map (λa:Nat=>Value.int .u8 (a:Int)) (Rtype.kind t)) #[.pointer (some ⟨5,95,none⟩)]).run prog w=.ok (.int .u8 22) w:=kR
theorem xV0(w):((ReflectliteType.abiMethod λt=>Functor.map (λa:Nat=>Value.int .u8 (a:Int)) (Rtype.kind t)) #[.pointer (some ⟨5,45,none⟩)]).run prog w=.ok (.int .u8 2) w:=kR
theorem zV8(a)(w):(ReflectliteValue.parts (.agg #[.pointer (some ⟨5,95,none⟩),.pointer (some a),.int .u64 150])).run prog w=.ok (some (95,a,150)) w:=kR
theorem xU9(a p)(W)(b:W.cell? a=some (.pointer (some p))):
  (ReflectliteValue.method (ReflectliteValue.valueError "reflectlite.Value.IsNil" 0) ReflectliteValue.isNil #[.agg #[.pointer (some ⟨5,95,none⟩),.pointer (some a),.int .u64 150]]).run prog W=.ok (.bool false) W:=by
 show Sem.run prog (Bind.bind (ReflectliteValue.parts (.agg #[.pointer (some ⟨5,95,none⟩),.pointer (some a),.int .u64 150])) _) W=_;simp only[Sem.run_bind,zV8,Result.andThen];simp[ReflectliteValue.isNil,loadVar,isAgg,underlying,underlying95,b,Result.andThen]
theorem xV3(h)(w):(Go.method 513 220 (.agg #[h]) "Elem").run prog w=.ok (344,.agg #[h]) w:=kR
theorem xV4(h)(w):(Go.method 513 220 (.agg #[h]) "Implements").run prog w=.ok (345,.agg #[h]) w:=kR
theorem xV2(h)(w):(Go.method 513 220 (.agg #[h]) "AssignableTo").run prog w=.ok (342,.agg #[h]) w:=kR
theorem zV7(p)(w):(Go.method 513 243 (.pointer (some p)) "Unwrap").run prog w=.ok (353,.pointer (some p)) w:=kR
theorem xU5(w):(ReflectliteType.method ReflectliteType.elem #[.agg #[.pointer (some ⟨5,95,none⟩)]]).run prog w=.ok (.iface 220 (.agg #[.pointer (some ⟨5,45,none⟩)])) w:=kR
theorem xU8(w):(ReflectliteType.relation "Implements" ReflectliteType.implements_ #[.agg #[.pointer (some ⟨5,45,none⟩)],.iface 220 (.agg #[.pointer (some ⟨5,38,none⟩)])]).run prog w=.ok (.bool true) w:=kR
theorem xW1(v)(w):(ReflectliteType.typeOf #[.iface 243 v]).run prog w=.ok (.iface 220 (.agg #[.pointer (some ⟨5,243,none⟩)])) w:=kR
theorem zV9(v)(w):(ReflectliteType.typeOf #[.iface 45 v]).run prog w=.ok (.iface 220 (.agg #[.pointer (some ⟨5,45,none⟩)])) w:=kR
theorem xU3(w):(ReflectliteType.relation "AssignableTo" ReflectliteType.assignableTo #[.agg #[.pointer (some ⟨5,243,none⟩)],.iface 220 (.agg #[.pointer (some ⟨5,45,none⟩)])]).run prog w=.ok (.bool false) w:=kR
theorem xU2(w):(ReflectliteType.relation "AssignableTo" ReflectliteType.assignableTo #[.agg #[.pointer (some ⟨5,45,none⟩)],.iface 220 (.agg #[.pointer (some ⟨5,45,none⟩)])]).run prog w=.ok (.bool true) w:=kR
theorem xW3(k:Int)(w):(ReflectliteValue.unpack (.iface 45 (.int .i64 k))).run prog w
  = .ok (.agg #[.pointer (some ⟨5,45,none⟩),.pointer (some ⟨w.heap.size,0,none⟩),.int .u64 130]) (w.alloc (.cells #[.int .i64 k] 45)):=kR
theorem xU6(w):(Rtype.elem? 95).run prog w=.ok (some 45) w:=kR
theorem xV6(p)(w):(ReflectliteValue.mk 45 p ReflectliteValue.flagAddr).run prog w=.ok (.agg #[.pointer (some ⟨5,45,none⟩),.pointer (some p),.int .u64 386]) w:=kR
theorem xU7(a p)(W)(b:W.cell? a=some (.pointer (some p))):
  (ReflectliteValue.method (ReflectliteValue.valueError "reflectlite.Value.Elem" 0) ReflectliteValue.elem #[.agg #[.pointer (some ⟨5,95,none⟩),.pointer (some a),.int .u64 150]]).run prog W
   = .ok (.agg #[.pointer (some ⟨5,45,none⟩),.pointer (some p),.int .u64 386]) W:=by
 show Sem.run prog (Bind.bind (ReflectliteValue.parts (.agg #[.pointer (some ⟨5,95,none⟩),.pointer (some a),.int .u64 150])) _) W=_;simp only[Sem.run_bind,zV8,Result.andThen];simp[ReflectliteValue.elem,loadVar,isAgg,underlying,underlying95,b,Result.andThen,xU6,xV6]
theorem xV7(a)(w):(ReflectliteValue.parts (.agg #[.pointer (some ⟨5,45,none⟩),.pointer (some a),.int .u64 386])).run prog w=.ok (some (45,a,386)) w:=kR
theorem xV8(a)(w):(ReflectliteValue.parts (.agg #[.pointer (some ⟨5,45,none⟩),.pointer (some a),.int .u64 130])).run prog w=.ok (some (45,a,130)) w:=kR
theorem xU4(w):(Rtype.directlyAssignable 45 45).run prog w=.ok true w:=kR
theorem xV9(ta b)(k:Int)(old)(W)(a:W.cell? b=some (.int .i64 k))(d:W.cell? ta=some old)(c:W.frozen? ta=false):
  (ReflectliteValue.set #[.agg #[.pointer (some ⟨5,45,none⟩),.pointer (some ta),.int .u64 386],.agg #[.pointer (some ⟨5,45,none⟩),.pointer (some b),.int .u64 130]]).run prog W
   = .ok (.tuple #[]) (W.setCell ta (.int .i64 k)):=by
 show Sem.run prog (Bind.bind (ReflectliteValue.parts (.agg #[.pointer (some ⟨5,45,none⟩),.pointer (some ta),.int .u64 386])) λq=>Bind.bind (ReflectliteValue.parts (.agg #[.pointer (some ⟨5,45,none⟩),.pointer (some b),.int .u64 130])) _) W=_;simp only[Sem.run_bind,xV7,xV8,Result.andThen];simp[ReflectliteValue.flagAddr,loadVar,isAgg,underlying,underlying45,a,Result.andThen,xU4,storeVar,Value.cells,storeCells,Addr.add];rw[run_store prog W ta _ _ (by rfl)];simp[d,c]
end Go.Proofs.YtdohpenfkdckiaaGreatDoor
namespace Go.Proofs.YtdohpenfkdckiaaGreatDoor
open Go.Proofs.Tryz
open Go.RowKit
theorem zS5(v)(ps)(p)(w)(hs:SPR w v ps)(hn:ps.length<=100000):
  Calls prog 193 #[.agg #[v],.string p.k,.string p.v] w λe w'=>∃ l,e=.returned (.agg #[l])/\SPR w' l (ins p ps)/\Kp [] w w':=by
 obtain⟨bs,cp,rfl⟩:=hs.form;have HS:=zh hs;have P:Hid ((if (ps.foldl (qE8 p) ([],false)).2 then (ps.foldl (qE8 p) ([],false)).1 else (ps.foldl (qE8 p) ([],false)).1++[p])=ins p ps):=by
  have:=xQ8 p ps [];show _=_;simpa using this
 clear hs;go_enter func193,ntmps193;go_wp2_with fail;obtain⟨w0,ak,ac,U,ad⟩:=alH w (.cells #[.slice bs ps.length cp] 126) (.cells #[.slice none 0 0] 126)
 rw[<-ak];clear ak;have am:=zh ac;have ab:=zh U;have N:=zh ad;have az:=ζ U;clear ac U ad
 go_loopw [7,8,9] (λo b i wr=>∃ (j:Nat) (l:Value),j<=ps.length/\i=.int .i64 j/\b=.bool ((ps.take j).foldl (qE8 p) ([],false)).2/\l=o/\OPR wr w0.heap.size l ((ps.take j).foldl (qE8 p) ([],false)).1/\Kp [] w0 wr) (λ_ _ i _=>ps.length-(intOf i).toNat)
 case atStart=>exact⟨0,_,zL _,rfl,rfl,rfl,OPR.nil _ _,Kp.refl _ _⟩
 case round=>
  obtain⟨j,l,hj,rfl,rfl,rfl,u,hK⟩:=hrel;have H:=hK.hp am.out;have ar:=ζ H;have a3:=hK.size;have b0:=ϻ H 0;have F:=xQ9 p (ps.take j) ([],false);simp only[lK,List.length_nil] at F;by_cases L:j<ps.length
  .have ao:(j:Int)<(ps.length:Int):=oM
   have V:=jO7 (qE8 p) ([],false) ps j L;obtain⟨x,B,E⟩:∃ x B,(ps.take j).foldl (qE8 p) ([],false)=(x,B):=⟨_,_,rfl⟩;rw[E] at V F u |-;simp only at F u;have r:=zh V;have f:=zh u;have A:=zh hK;obtain⟨g,al,cap,cur,fr,hv,aw,M,af⟩:=(HS.keep0 (N.tr hK)).at oM;obtain⟨c0,c1⟩:=af j L;simp only[vJ,true_and] at hv;obtain⟨rfl,rfl⟩:=hv;have a0:=ξ M (al+j*2);rw[c0] at a0;have a1:=ξ M (al+j*2+1);rw[c1] at a1;have ax:=ζ M;obtain⟨q,Z⟩:=eY (ps[j]);rw[Z] at a0 a1;have s:=zh Z;clear V E u hK af c0 c1 M H Z
   cases B with
   | true=>
    by_cases a:q.k=p.k
    .have K:(q.k.toList == p.k.toList)=true:=by rw[qM2];simp[a]
     go_wp2;refine⟨⟨j+1,l,oM,by go_num,?_,rfl,?_,A.alloc _⟩,by simp[intOf];omega⟩
     .rw[r.out,s.out];simp[qE8,a]
     .rw[r.out,s.out];simp only[qE8,a,Bool.not_true,Bool.false_and,Bool.false_eq_true,if_false,if_true];exact f.alloc _
    .have K:(q.k.toList == p.k.toList)=false:=by rw[qM2];simp[a]
     have y:=(f.alloc (.cells #[.string q.k,.string q.v] 284)).alloc (.cells #[.string q.k,.string q.v] 284);obtain⟨n,C,z,m,h⟩:=y.app (wr.heap.size+1) q 124 oM (by
      have e:=υ (wr.alloc (.cells #[.string q.k,.string q.v] 284)) (.cells #[.string q.k,.string q.v] 284);simpa using e) sO
     have d:=zh (n2 m (((A.alloc _).alloc _).grown h (λk a=>Or.inr (f.low k a))));clear y m h
     go_wp2_with (at_builtin;((with_reducible refine qL8 ?_ ?_ z ?_);rfl;rfl))
     refine⟨⟨j+1,n,oM,by go_num,?_,rfl,?_,d.2⟩,by simp[intOf];omega⟩
     .rw[r.out,s.out];simp[qE8,a]
     .rw[r.out,s.out];simp only[qE8,a,Bool.not_true,Bool.false_and,Bool.false_eq_true,if_false];exact d.1
   | false=>
    cases hl:kl q.k p.k with
    | true=>
     have ap:Op.bytesLess q.k.toList p.k.toList=true:=hl;have a:¬q.k=p.k:=qI9 hl;have K:(q.k.toList == p.k.toList)=false:=by rw[qM2];simp[a]
     have y:=(f.alloc (.cells #[.string q.k,.string q.v] 284)).alloc (.cells #[.string q.k,.string q.v] 284);obtain⟨n,C,z,m,h⟩:=y.app (wr.heap.size+1) q 124 oM (by
      have e:=υ (wr.alloc (.cells #[.string q.k,.string q.v] 284)) (.cells #[.string q.k,.string q.v] 284);simpa using e) sO
     have d:=zh (n2 m (((A.alloc _).alloc _).grown h (λk a=>Or.inr (f.low k a))));clear y m h
     go_wp2_with (at_builtin;((with_reducible refine qL8 ?_ ?_ z ?_);rfl;rfl))
     refine⟨⟨j+1,n,oM,by go_num,?_,rfl,?_,d.2⟩,by simp[intOf];omega⟩
     .rw[r.out,s.out];simp[qE8,a,hl]
     .rw[r.out,s.out];simp only[qE8,a,hl,Bool.not_true,Bool.not_false,Bool.and_false,Bool.false_eq_true,if_false];exact d.1
    | false=>
     have ap:Op.bytesLess q.k.toList p.k.toList=false:=hl;have y:=(f.alloc (.cells #[.string q.k,.string q.v] 284)).alloc (.cells #[.string p.k,.string p.v] 284);obtain⟨n,C,z,m,h⟩:=y.app (wr.heap.size+1) p 124 oM (by
      have e:=υ (wr.alloc (.cells #[.string q.k,.string q.v] 284)) (.cells #[.string p.k,.string p.v] 284);simpa using e) sO
     have d:=zh (n2 m (((A.alloc _).alloc _).grown h (λk a=>Or.inr (f.low k a))));have T:=(h.block wr.heap.size sO (λe=>by
      have h1:=(World.ownsRow.lt f _ e.symm).2;omega)).trans (ν _ (υ _ _))
     have a2:=d.out.2.size;have ay:=ζ T;have q0:=ξ T;clear y m h T;by_cases a:q.k=p.k
     .have K:(q.k.toList == p.k.toList)=true:=by rw[qM2];simp[a]
      have an:=zh a;clear a
      go_wp2_with (at_builtin;((with_reducible refine qL8 ?_ ?_ z ?_);rfl;rfl))
      have a:=an.out;refine⟨⟨j+1,n,oM,by go_num,?_,rfl,?_,d.2⟩,by simp[intOf];omega⟩
      .rw[r.out,s.out];simp[qE8,a,qL5]
      .rw[r.out,s.out];simp only[qE8,a,qL5,Bool.not_false,Bool.and_self,if_true];exact d.1
     .have K:(q.k.toList == p.k.toList)=false:=by rw[qM2];simp[a]
      obtain⟨v6,w6,aq,ae,ah⟩:=(d.1.alloc (.cells #[.string q.k,.string q.v] 284)).app C.heap.size q 124 sO (υ _ _) sO;have aa:=zh (n2 ae ((d.2.alloc _).grown ah (λk a=>Or.inr (d.1.low k a))));clear ae ah
      go_wp2_with (at_builtin;first | ((with_reducible refine qL8 ?_ ?_ z ?_);rfl;rfl) | ((with_reducible refine qL8 ?_ ?_ aq ?_);rfl;rfl))
      refine⟨⟨j+1,v6,oM,by go_num,?_,rfl,?_,aa.2⟩,by simp[intOf];omega⟩
      .rw[r.out,s.out];simp[qE8,a,hl]
      .rw[r.out,s.out];simp only[qE8,a,hl,Bool.not_false,Bool.and_self,if_true,if_false];exact aa.1
  .have ao:¬(j:Int)<(ps.length:Int):=oM
   have X:ps.take j=ps:=tL oM;rw[X] at u F |-;obtain⟨x,B,E⟩:∃ x B,ps.foldl (qE8 p) ([],false)=(x,B):=⟨_,_,rfl⟩;have G:=P.out;rw[E] at F u G |-;simp only at F u G;have f:=zh u;have A:=zh hK;have D:=hK.hp ab.out;have av:=ζ D
   cases B with
   | true=>
    have r0:=ϻ D 0;have f0:=φ D 0;clear X u hK E H P;have Q:Hid (x=ins p ps):=by show _=_;simpa using G
    clear G;obtain⟨ob,oc,rfl⟩:=f.out.form;obtain⟨l,ai⟩:=eX (Value.slice ob x.length oc);have O:=zh ai;clear ai;go_wp2;rw[<-O.out] at f |-;have I:Kp [w.heap.size+1] wr (wr.setCell ⟨w.heap.size+1,0,none⟩ l):=kF.sc _;have R:Apt wr [w.heap.size+1] [284]:=λk a c t fr e Y=>by
     rw[mS a,D] at e;cases e
     revert Y;decide
    refine bodyPost_ret (v:=.agg #[l]) ?_ rfl ⟨l,rfl,?_,?_⟩
    .exact results_cell_row results193 _ _ (w.heap.size+1) 126 #[l] (0,0) _ rfl (μ D 0 _) underlying126 rfl kR
    .rw[<-Q.out];exact (f.sp).keep I R
    .exact (N.tr A).trans I (by intro i W L;simp at W;omega)
   | false=>
    obtain⟨n,C,z,m,h⟩:=(f.alloc (.cells #[.string p.k,.string p.v] 284)).app wr.heap.size p 124 oM (υ _ _) sO;have S:=(A.alloc _).grown h (λk a=>Or.inr (f.low k a));have d:=zh (n2 m S);have J:=S.hp ab.out;have au:=ζ J;have r0:=ϻ J 0;have f0:=φ J 0;clear X u hK E H P m S h D;have Q:Hid (x++[p]=ins p ps):=by show _=_;simpa using G
    clear G;obtain⟨ob,oc,ag⟩:=d.out.1.form;rw[lA,List.length_singleton] at ag;subst ag;obtain⟨n,aj⟩:=eX (Value.slice ob (x.length+1) oc);have O:=zh aj;clear aj
    go_wp2_with (at_builtin;((with_reducible refine qL8 ?_ ?_ z ?_);rfl;rfl))
    rw[<-O.out] at d |-;have I:Kp [w.heap.size+1] C (C.setCell ⟨w.heap.size+1,0,none⟩ n):=kF.sc _;have R:Apt C [w.heap.size+1] [284]:=λk a c t fr e Y=>by
     rw[mS a,J] at e;cases e
     revert Y;decide
    refine bodyPost_ret (v:=.agg #[n]) ?_ rfl ⟨n,rfl,?_,?_⟩
    .exact results_cell_row results193 _ _ (w.heap.size+1) 126 #[n] (0,0) _ rfl (μ J 0 _) underlying126 rfl kR
    .rw[<-Q.out];exact (d.1.sp).keep I R
    .exact (N.tr d.2).trans I (by intro i W L;simp at W;omega)
end Go.Proofs.YtdohpenfkdckiaaGreatDoor
