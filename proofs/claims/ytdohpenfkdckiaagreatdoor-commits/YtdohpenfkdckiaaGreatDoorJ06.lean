import Derived.Test.YtdohpenfkdckiaaGreatDoorJ03
import Derived.Test.YtdohpenfkdckiaaGreatDoorJ05
import Derived.Defers
import Derived.Recover
import Derived.WalkSmall
set_option linter.all false
set_option maxRecDepth 100000
set_option maxHeartbeats 20000000
namespace Go.Proofs.YtdohpenfkdckiaaGreatDoor
open Go.Proofs.Tryz
open Go.RowKit
def qS3:List UInt8:=List.replicate 128 0
theorem qR1(xs:List Int):(toB xs).length=xs.length:=by simp[toB]
theorem qO9(a b:List Int):toB (a++b)=toB a++toB b:=by simp[toB]
theorem zL5{α:Type}(a b c:List α)(k n:Nat)(d:a.length=k)(e:b.length=n):((a++(b++c)).drop k).take n=b:=by
 subst d;subst e;simp
variable {κ:Nat}
theorem kT5:zeroCells288=enc qS3:=by
 have h:zeroCells288.toList=(enc qS3).toList:=kR
 have:=congrArg List.toArray h;simpa using this
def qD0(l:List UInt8)(i:Nat)(b:List UInt8):List UInt8:=l.take (i*128)++b++l.drop (i*128+b.length)
theorem jL4{P:Program}{a:Act}{w}{o:Oper}{s x:Operand}{t t' e}(q:o.op=.call { callee:=.builtin .copy,args:=#[s,x],argTypes:=#[t,t'] })(y:P.underlying t=some (.slice e))(u:(P.info? e).map (·.size)=some 1)
  (g f dLen dCap b c sLen sCap n:Nat) (j:a.eval s=.slice (some ⟨g,f,none⟩) dLen dCap) (z:a.eval x=.slice (some ⟨b,c,none⟩) sLen sCap) (p:n=Nat.min sLen dLen)
  {cur d} {tg tb} {fr} (l:w.heap[g]?=some (.cells cur tg)) (i:w.heap[b]?=some (.cells d tb fr)) (k:f+n<=cur.size) (m:c+n<=d.size)
  (h:∀ v∈(qA9 d c n).toList,v.oneCell'=true):
  Sem.run P (execOp a.eval o) w=.ok (.value (.int .i64 n)) (w.setRow g (qE2 cur f (qA9 d c n))):=by
 have r:=zB1 (P:=P) (w:=w) o.type (t:=t) (t':=t') y u (dLen:=dLen) (dCap:=dCap) (sLen:=sLen) (sCap:=sCap) n p l i k m h;unfold execOp;simp only[q,resolve,invoke,builtin,Sem.run_bind,Sem.run_pure,Result.andThen_ok,List.map_toArray,List.map_cons,List.map_nil,j,z,r]
variable {κ:Nat}
theorem jI0(p)(w):
  CallsD prog 246 #[.pointer (some p)] .returning w λe c d=>e=.returned (.tuple #[])/\c=.returning/\d=w:=by
 refine callsD_of_wpS func246 rfl λa cs b=>?_;apply wpS_seq;apply wpS_region;simp[wpOpsS,go_sem,recoverD,b,ntmps246,Exit.thenS];refine wpS_cond (t:=false) (by simp[Act.eval,Array.replicate]) ?_;simp only[Bool.false_eq_true,if_false];refine wpS_of_wp (wp_skip ?_);cases a
 simp_all [bodyPostS,results,results246]
theorem xQ7(A n C:Nat)(cache)(a b:Int)(w)(h:w.heap[A]?=some (qA8 κ n C cache a b)):
  Calls prog 204 #[.iface 27 (.pointer (some ⟨A,0,none⟩))] w λe c=>e=.returned (.int .i64 n)/\Kp [] w c:=by
 have g:=zM;have d:=ζ h
 go_enter_defers func204,ntmps204
 go_wp2_with fail;refine (xY3 A n C cache a b _ (ν _ h)).mono ?_;rintro e w1 ⟨rfl,rfl⟩;go_wp2;refine leaves_cons (f:=246) (args:=#[ϖ w.heap.size]) sM (by simp[go_sem]) ?_;refine (jI0 ⟨w.heap.size,0,none⟩ _).mono ?_;rintro e i j ⟨rfl,rfl,rfl⟩;simp[Leaves,settle,results,results204,go_sem];exact kF.alloc _
theorem zR1(A n C:Nat)(cache)(a d:Int)(w)(h:w.heap[A]?=some (qA8 κ n C cache a d))(i:8<=n)(g:n<=400):
  Calls prog 139 #[.iface 27 (.pointer (some ⟨A,0,none⟩))] w λe c=>∃ V,e=.returned (.pointer (some ⟨V,0,none⟩))/\w.heap.size<=V/\c.heap[V]?=some (qE4 A n)/\Kp [] w c:=by
 go_enter func139,ntmps139;go_wp2_with fail;refine (xQ7 A n C cache a d _ h).mono ?_;rintro e w1 ⟨rfl,b⟩;have j:decide ((n:Int)<8)=false:=sO
 have k:decide ((400:Int)<(n:Int))=false:=sO
 have f:=b.size;go_wp2;go_ret;exact⟨_,rfl,f,υ _ _,b.alloc _⟩
theorem xK6(A n C:Nat)(cache)(b d:Int)(w)(h:w.heap[A]?=some (qA8 κ n C cache b d))(a:n<8\/400<n):
  Calls prog 139 #[.iface 27 (.pointer (some ⟨A,0,none⟩))] w λe g=>e=.panicked [{ v:=.iface 182 (.agg #[.iface 45 (.int .i64 10)]),recovered:=false }]/\Kp [] w g:=by
 go_enter func139,ntmps139;go_wp2_with fail;refine (xQ7 A n C cache b d _ h).mono ?_;rintro e w1 ⟨rfl,c⟩;rcases a with a|a
 .have f:decide ((n:Int)<8)=true:=sO
  go_wp2;exact⟨rfl,rfl,rfl,c⟩
 .have f:decide ((n:Int)<8)=false:=sO
  have i:decide ((400:Int)<(n:Int))=true:=sO
  go_wp2;exact⟨rfl,rfl,rfl,c⟩
theorem kT4(k:Int)(w):
  Calls prog 168 #[.iface 182 (.agg #[.iface 45 (.int .i64 k)])] w λe a=>e=.returned (.iface 45 (.int .i64 k))/\Kp [] w a:=by
 have b:∀ W:World,Sem.run prog (Instr.typeAssert (.iface 182 (.agg #[.iface 45 (ϊ k)])) 20 182 true) W=.ok (.tuple #[.agg #[.iface 45 (ϊ k)],.bool true]) W:=λW=>by kernel_rfl
 go_enter func168,ntmps168;go_wp2;go_ret;exact⟨rfl,kF.alloc _⟩
theorem xZ7(p q)(w):
  CallsD prog 167 #[.pointer (some p),.pointer (some q)] .returning w λe c d=>e=.returned (.tuple #[])/\c=.returning/\d=w:=by
 refine callsD_of_wpS func167 rfl λa cs b=>?_;apply wpS_seq;apply wpS_region;simp[wpOpsS,go_sem,recoverD,b,ntmps167,Exit.thenS,Array.replicate];refine wpS_of_wp ?_;go_wp2;cases a
 simp_all [bodyPostS,results,results167]
theorem xZ8(B E:Nat)(k:Int)(call)(w)(b:w.heap[B]?=some (.cells #[.string call] 9))(p:B≠E)(q:w.heap[E]?=some (.cells #[.nilIface] 38)):
  CallsD prog 167 #[.pointer (some ⟨B,0,none⟩),.pointer (some ⟨E,0,none⟩)] (.panicking [{ v:=.iface 182 (.agg #[.iface 45 (.int .i64 k)]),recovered:=false }]) w λe u i=>
   e=.returned (.tuple #[])/\u=.panicking [{ v:=.iface 182 (.agg #[.iface 45 (.int .i64 k)]),recovered:=true }]/\∃ F,w.heap.size<=F/\i.heap[F]?=some (.cells #[.string call,.iface 45 (.int .i64 k)] 246)/\i.heap[E]?=some (.cells #[.iface 243 (.pointer (some ⟨F,0,none⟩))] 38)/\Kp [E] w i:=by
 refine callsD_of_wpS func167 rfl λx cs t=>?_;apply wpS_seq;apply wpS_region;simp[wpOpsS,go_sem,recoverD,t,ntmps167,Exit.thenS,Array.replicate];refine wpS_of_wp ?_;go_wp2_with fail;refine wp_region_held_drew (S:=λW=>Ϙ W B (.cells #[.string call] 9)) kR b (λ_=>?_);refine zV 1 (.iface 182 (.agg #[.iface 45 (ϊ k)])) rfl (λW h=>rfl) b ?_;refine zV 0 (.string call) rfl (λW h=>by have c:=ξ h 0;simp at c;clear h;go_simp) b ?_;refine zq 2 λK hK=>?_;go_simp;refine (kT4 k _).mono ?_;rintro e f ⟨rfl,a⟩;have d:=a.heap (k:=B) b sM;have j:=a.heap (k:=E) q sM;have m:=((Kp.refl [E] w).drew).tr a;have s:=m.size;clear a;refine zk hK d ?_
 refine zU 3 (.agg #[.string call,.iface 45 (ϊ k)]) d ?_;refine zq 4 λK hK=>?_;go_simp;refine hK.out _ _ (ν _ d) (λ_=>?_)
 try simp only[zZ]
 have n:=ν (.cells #[.string call,.iface 45 (ϊ k)] 246) d;have g:=ν (.cells #[.string call,.iface 45 (ϊ k)] 246) j;have l:=υ f (.cells #[.string call,.iface 45 (ϊ k)] 246);have r:=m.alloc (.cells #[.string call,.iface 45 (ϊ k)] 246);refine zU 5 (.iface 243 (ϖ f.heap.size)) n ?_;generalize f.alloc (.cells #[.string call,.iface 45 (ϊ k)] 246)=W3 at *;have A:=ζ l;have z:=ζ j;have o:=ξ g 0;simp at o;have y:=φ g 0;refine zq 6 λK hK=>?_;go_simp;refine hK.out _ _ ((qB1 p _ _).trans n) (λ_=>?_);refine zd ?_;exact⟨rfl,_,rfl,_,results_none results167 _ _ _,rfl,rfl,f.heap.size,s,(qB1 oM _ _).trans l,μ g 0 _,r.sc _⟩
theorem shr{α:Type}{R:α->Prop}{G:Prop}(h:∃ a,R a/\(R a->G)):G:=h.elim λ_ h=>h.2 h.1
theorem hid{p:Prop}(h:p):Hid p:=h
def xP7(k:Int):Value:=.iface 182 (.agg #[.iface 45 (.int .i64 k)])
def qB5:Option Int→Ending
 | none=>.returned (.tuple #[])
 | some k=>.panicked [{ v:=xP7 k,recovered:=false }]
def ErrV(w:World)(v:Value):Option Int→Prop
 | none=>v=.nilIface
 | some k=>∃ F call,v=.iface 243 (.pointer (some ⟨F,0,none⟩))∧w.heap[F]?=some (.cells #[.string call,.iface 45 (.int .i64 k)] 246)
theorem zX7(w:World)(a:ByteArray):((w.alloc (.cells #[.string a] 9)).alloc (.cells #[.nilIface] 38)).heap[w.heap.size+1]?=some (.cells #[.nilIface] 38)/\((w.alloc (.cells #[.string a] 9)).alloc (.cells #[.nilIface] 38)).heap[w.heap.size]?=some (.cells #[.string a] 9):=
 ⟨by simpa using υ (w.alloc (.cells #[.string a] 9)) (.cells #[.nilIface] 38),ν _ (υ _ _)⟩
theorem zL1(f:Nat)(cap)(call)(w)(R:Option Int->World->Prop)(S)(n:∀ i,i∈S->i<w.heap.size)(z:∀ W:World,Sem.run prog (callFunc f cap) W=.ok (.enter f cap) W)
  (o:Calls prog f cap ((w.alloc (.cells #[.string call] 9)).alloc (.cells #[.nilIface] 38)) λe c=>∃ k,e=qB5 k/\R k c/\Kp S ((w.alloc (.cells #[.string call] 9)).alloc (.cells #[.nilIface] 38)) c):
  Calls prog 107 #[.string call,.func (.func f) #[] cap] w λe c=>∃ k v w1,e=.returned v/\ErrV c v k/\(∀ F,v=.iface 243 (.pointer (some ⟨F,0,none⟩))->w.heap.size<=F)/\R k w1/\w1.heap[w.heap.size+1]?=some (.cells #[.nilIface] 38)/\Kp S w w1/\Kp [w.heap.size+1] w1 c:=by
 have A:=zM;have l:=zh o;have j:=zh n;clear o n
 go_enter_defers func107,ntmps107
 go_wp2_with fail;refine (show Calls _ _ _ _ _ from l).mono ?_;rintro e w1 ⟨k,rfl,m,hK⟩;have d:=hK.heap (zX7 w call).1 (λh=>by have:=j.out _ h;omega);have p:=hK.heap (zX7 w call).2 (λh=>by have:=j.out _ h;omega);have g:=(((Kp.refl S w).alloc _).alloc _).trans hK (λi h _=>h);have a:=zh (n3 m d g);have B:=g.size;clear m hK g l
 cases k with
 | none=>
  simp only[qB5];have b:=ξ d 0;simp at b;have x:=φ d 0;go_wp2;refine leaves_cons (f:=167) (args:=#[ϖ w.heap.size,ϖ (w.heap.size+1)]) sM (by simp[go_sem]) ?_;refine (xZ7 ⟨w.heap.size,0,none⟩ ⟨w.heap.size+1,0,none⟩ _).mono ?_;rintro e t C ⟨rfl,rfl,rfl⟩;refine⟨.nilIface,by simp[settle,results,results107,go_sem,b],none,.nilIface,w1,rfl,rfl,λF h=>(by cases h),a.1,a.2.1,a.2.2,kF.sc _⟩
 | some k=>
  simp only[qB5,xP7];go_wp2;refine leaves_cons (f:=167) (args:=#[ϖ w.heap.size,ϖ (w.heap.size+1)]) sM (by simp[go_sem]) ?_;refine (xZ8 w.heap.size (w.heap.size+1) k call _ p oM d).mono ?_;rintro e t D ⟨rfl,rfl,F,y,r,q,s⟩;have b:=ξ q 0;simp at b;refine⟨.iface 243 (ϖ F),by simp[settle,results,results107,go_sem,b],some k,.iface 243 (ϖ F),w1,rfl,⟨F,call,rfl,r⟩,λu h=>(by cases h;omega),a.1,a.2.1,a.2.2,s⟩
variable {κ:Nat}
theorem xY0(l)(i:Nat)(b)(a:b.length=128)(h:i*128+128<=l.length):qB3 (qD0 l i b) i=b:=by
 unfold qB3 qD0;rw[aA,List.drop_append_of_le_length sO,dL sO,nA,List.take_append_of_le_length oM,tL oM]
theorem jO8(D A n C:Nat)(cache)(a b:Int)(w)(c:w.heap[D]?=some (.cells #[.iface 27 (.pointer (some ⟨A,0,none⟩))] 206))(h:w.heap[A]?=some (qA8 κ n C cache a b))(f:n<8\/400<n):
  Calls prog 138 #[.pointer (some ⟨D,0,none⟩)] w λe g=>e=.panicked [{ v:=.iface 182 (.agg #[.iface 45 (.int .i64 10)]),recovered:=false }]/\Kp [] w g:=by
 have c0:=ξ c 0;simp at c0;go_enter func138,ntmps138;go_wp2_with fail;refine (xK6 A n C cache a b _ h f).mono ?_;rintro e w1 ⟨rfl,d⟩;go_wp2;exact⟨rfl,rfl,d⟩
theorem jA4(args)(W):Sem.run prog (callFunc 138 args) W=.ok (.enter 138 args) W:=by
 simp[go_sem,func138]
theorem jL0(d:Nat)(W):Sem.run prog (Op.equalIn (d+1) 85 (.pointer none) (.pointer none)) W=.ok true W:=by
 simp[Op.equalIn,run_underlying underlying85]
theorem jJ9(V:Nat)(w):
  Calls prog 92 #[.agg #[.pointer (some ⟨V,0,none⟩),.string ⟨#[]⟩,.int .i64 0,.int .u64 0,.pointer none]] w λe a=>e=.returned (.bool true)/\Kp [] w a:=by
 have b:∀ W:World,Sem.run prog (Op.equalIn 9999 85 (.pointer none) (.pointer none)) W=.ok true W:=λW=>jL0 9998 W;go_enter func92,ntmps92;go_wp2;go_ret;exact⟨rfl,kF.alloc _⟩
theorem jB7(V:Nat)(w):
  Calls prog 144 #[.agg #[.pointer (some ⟨V,0,none⟩),.string ⟨#[]⟩,.int .i64 0,.int .u64 0,.pointer none]] w λe f=>e=.returned (.int .i64 0)/\Kp [] w f:=by
 go_enter func144,ntmps144;go_wp2_with fail;refine (jJ9 V _).mono ?_;rintro e w1 ⟨rfl,a⟩;have d:w1.heap[w.heap.size+1]?=some (.cells #[ϖ V,ϊ 0,.string { data:=#[] }] 293):=a.heap (by
  have e:=υ (w.alloc (.cells #[ϖ V,.string { data:=#[] },ϊ 0,.int .u64 0,.pointer none] 89)) (.cells #[ϖ V,ϊ 0,.string { data:=#[] }] 293);simpa using e) sM
 have c:=(((Kp.refl [] w).alloc _).alloc _).tr a;clear a;have b:=ξ d 1;simp at b;go_wp2;go_ret;exact⟨rfl,c⟩
theorem qN1{W}{k:Nat}{a b c d e}(v0 v1 v2 v3 v4)(h:W.heap[k]?=some (.cells #[a,b,c,d,e] 89)):
  (((((W.setCell ⟨k,0,none⟩ v0).setCell ⟨k,1,none⟩ v1).setCell ⟨k,2,none⟩ v2).setCell ⟨k,3,none⟩ v3).setCell ⟨k,4,none⟩ v4).heap[k]?=some (.cells #[v0,v1,v2,v3,v4] 89)/\Kp [k] W (((((W.setCell ⟨k,0,none⟩ v0).setCell ⟨k,1,none⟩ v1).setCell ⟨k,2,none⟩ v2).setCell ⟨k,3,none⟩ v3).setCell ⟨k,4,none⟩ v4):=
 ⟨μ (μ (μ (μ (μ h 0 _) 1 _) 2 _) 3 _) 4 _,(((((Kp.refl _ W).sc _).sc _).sc _).sc _).sc _⟩
theorem Env.To.store'{E:Env}{w W a:World}{k:Nat}{c:Array Value}{t:TypeId}{d:Nat × Nat}(e:E.To w W)(j:w.heap.size<=k)(f:W.heap[k]?=some (.cells c t d))(h:t∈zF8)(hK:Kp [k] W a):E.To w a:=
 ⟨E.keep W a [k] e.dev hK (λi b=>by rw[mS b];exact⟨c,t,d,f,h⟩),e.kp.trans hK (λi b g=>by rw[mS b] at g;omega)⟩
theorem RN.obj2{O:qE5}{n:Nat}{w}{q:Nat}{t}(h:RN O n w q t):∃ v m x r f s,w.heap[q]?=some (ι (n:Int) (.slice v m x) (.slice r f s))/\m+f=cnt n t/\(n=0->f=0)/\(n≠0->f=cnt n t):=by
 cases n with
 | zero=>
  obtain⟨z,a,j⟩:=h;obtain⟨d,e,k⟩:∃ d e,z=.slice d (prs t).length e:=by
   rcases j.val with⟨i,b,c,a,_⟩|⟨g,u,cap,cur,o,a,_⟩
   .rw[i];exact⟨b,c,a⟩
   .exact⟨_,cap,a⟩
  rw[k] at a;exact⟨_,_,_,_,_,_,a,rfl,λ_=>rfl,λh=>absurd rfl h⟩
 | succ n=>
  obtain⟨y,a,p,j,l⟩:=h;obtain⟨d,e,k⟩:∃ d e,y=.slice d p.length e:=by
   rcases j.val with⟨i,b,c,a,_⟩|⟨g,u,cap,cur,o,a,_⟩
   .rw[i];exact⟨b,c,a⟩
   .exact⟨_,cap,a⟩
  rw[k] at a;refine⟨_,_,_,_,_,_,a,?_,λh=>(by cases h),λ_=>l.1⟩;rw[Nat.zero_add,l.1];rfl
theorem xQ4(E:Env)(n:Nat)(r:HL)(v:Value)(l:Lnk (Tn n))(w:World)(Q:E.Dev w)(hr:RLs E.O n w v [l])(af:l.ref=none)(O:min n 1<cnt n l.sub)(ak:cnt n l.sub<=10000):
  Calls prog 103 #[τ E.V r,v] w λe Z=>∃ h,e=.returned (τ E.V h)/\RL E.O n Z h l/\E.To w Z:=by
 obtain⟨u,W,o⟩:=hr;have R:u.length=1:=o.1;obtain⟨gb,f,cp,cur,fr,rfl,al,c,P⟩:=W.link oM;obtain⟨x,d⟩:∃ x,u=[x]:=by
  match u,R with
  | [x],_=>exact⟨x,rfl⟩
 subst d;obtain⟨c0,G,H,g⟩:=P 0 sM;have t:RL E.O n w x l:=o.2 0 sM sM;rcases t.new with⟨_,q,U,V⟩|⟨d,_⟩
 .have s:x.ptr=some ⟨q,0,none⟩:=by simp[HL.ptr,U]
  simp only[zF,Nat.zero_mul,Nat.add_zero] at c0 G H g;rw[s] at g;have ab:=zh t;have y:=zh Q;have z:=zh V;have aa:=zh s;have an:=ζ c;have B:=ξ c f;rw[c0] at B;have C:=ξ c (f+1);rw[G] at C;have D:=ξ c (f+2);rw[H] at D;have F:=ξ c (f+3);rw[g] at F;have am:¬((cnt n l.sub:Nat):Int)=0:=oM
  have ad:cnt n l.sub<=1000000:=oM
  have HC:=zh O;clear o W P t V Q s U R O;rw[τ];go_enter func103,ntmps103;go_wp2_with fail;obtain⟨w0,Y,J,L,K,j,aq⟩:=alD w (.cells (ϟ E.V r) 89) (.cells ϛ 89) (.cells #[.string x.key,ϊ x.b,.int .u64 x.s,ϖ q] 87)
  rw[<-Y];clear Y;refine (qU0 E.O n q l.sub w0 (RN.keep j (Apt.nil _ _) n q _ z) ad).mono ?_;rintro e w1 ⟨rfl,a⟩;have k:=j.tr a;have M:=Env.To.of0 y k;have i:=a.hp J;have b:=a.hp L;have m:=a.hp K;obtain⟨pb,pl,pc,lb,ll,lc,p,ae,S,T⟩:=(RN.keep k (Apt.nil _ _) n q _ z).obj2;have ao:¬((ll:Nat):Int)=1:=by
   have:=HC.out;by_cases I:n=0
   .have:=S I;omega
   .have:=T I;omega
  have ap:=ζ p;have ah:=ζ i;have aj:=ζ b;have ai:=ζ m;have o2:=ξ p 2;simp only[ι,zG,zH,zI] at o2;have b0:=ϻ i 0;have l0:=ξ m;have r0:=ξ b;have ag:=φ b;have A:=zh b;have ac:=zh M;clear i b m p a j J L K S T M k B C D F ae;go_wp2;have X:=qN1 (ϖ E.V) (.string x.key) (ϊ x.b) (.int .u64 x.s) (ϖ q) A.out;have N:=ac.out.store' oM A dC X.2;refine bodyPost_ret (results_cell_row results103 _ _ (w.heap.size+1) 89 #[ϖ E.V,.string x.key,ϊ x.b,.int .u64 x.s,ϖ q] (0,0) _ rfl X.1 underlying89 rfl kR) rfl ⟨x,?_,Env.RL ab y N,N⟩;rw[τ,aa.out]
 .rw[af] at d;cases d
theorem zP0{W}{k:Nat}{a b c d}(v0 v1 v2 v3)(h:W.heap[k]?=some (.cells #[a,b,c,d] 87)):
  ((((W.setCell ⟨k,0,none⟩ v0).setCell ⟨k,1,none⟩ v1).setCell ⟨k,2,none⟩ v2).setCell ⟨k,3,none⟩ v3).heap[k]?=some (.cells #[v0,v1,v2,v3] 87)/\Kp [k] W ((((W.setCell ⟨k,0,none⟩ v0).setCell ⟨k,1,none⟩ v1).setCell ⟨k,2,none⟩ v2).setCell ⟨k,3,none⟩ v3):=
 ⟨μ (μ (μ (μ h 0 _) 1 _) 2 _) 3 _,((((Kp.refl _ W).sc _).sc _).sc _).sc _⟩
theorem kQ6(E:Env)(r:HL)(v:Value)(l:Lnk (Tn 0))(w:World)(L:E.Dev w)(hr:RLs E.O 0 w v [l])(aa:l.ref=none)(I:cnt 0 l.sub=0):
  Calls prog 103 #[τ E.V r,v] w λe w'=>e=.returned (τ E.V ⟨⟨#[]⟩,0,0,none⟩)/\E.To w w':=by
 obtain⟨o,Q,k⟩:=hr;have M:o.length=1:=k.1;obtain⟨gb,h,cp,cur,fr,rfl,aj,d,K⟩:=Q.link oM;obtain⟨x,g⟩:∃ x,o=[x]:=by
  match o,M with
  | [x],_=>exact⟨x,rfl⟩
 subst g;obtain⟨c0,z,A,i⟩:=K 0 sM;have n:RL E.O 0 w x l:=k.2 0 sM sM;rcases n.new with⟨_,q,O,P⟩|⟨g,_⟩
 .have m:x.ptr=some ⟨q,0,none⟩:=by simp[HL.ptr,O]
  simp only[zF,Nat.zero_mul,Nat.add_zero] at c0 z A i;rw[m] at i;have ad:=zh n;have T:=zh L;have U:=zh P;have ac:=zh m;have ak:=ζ d;have s:=ξ d h;rw[c0] at s;have t:=ξ d (h+1);rw[z] at t;have u:=ξ d (h+2);rw[A] at u;have y:=ξ d (h+3);rw[i] at y;have Z:((cnt 0 l.sub:Nat):Int)=0:=oM
  have J:cnt 0 l.sub<=1000000:=oM
  clear k Q K n P L m O M;rw[τ];go_enter func103,ntmps103;go_wp2_with fail;obtain⟨w0,S,B,F,D,j,al⟩:=alD w (.cells (ϟ E.V r) 89) (.cells ϛ 89) (.cells #[.string x.key,ϊ x.b,.int .u64 x.s,ϖ q] 87)
  rw[<-S];clear S;refine (qU0 E.O 0 q l.sub w0 (RN.keep j (Apt.nil _ _) 0 q _ U) J).mono ?_;rintro e w1 ⟨rfl,a⟩;have C:=j.tr a;rw[I];clear I Z J;have H:=Env.To.of0 T C;have f:=a.hp B;have c:=a.hp F;have b:=a.hp D;have ag:=ζ f;have ai:=ζ c;have ah:=ζ b;have b0:=ϻ f 0;have l0:=ξ b;have ae:=φ b;have r0:=ξ c;have af:=φ c;have V:=zh c;have p:=zh b;have ab:=zh f;have W:=zh H;clear f c b a j B F D H C s t u y;go_wp2;have N:=zP0 (.string ⟨#[]⟩) (ϊ 0) (.int .u64 0) (.pointer none) p.out;have G:=N.2.hp V.out;have R:=qN1 (ϖ E.V) (.string ⟨#[]⟩) (ϊ 0) (.int .u64 0) (.pointer none) G;have X:=W.out.store' oM p dC N.2;have Y:=X.store' oM G dC R.2;exact bodyPost_ret (results_cell_row results103 _ _ (w.heap.size+1) 89 #[ϖ E.V,.string ⟨#[]⟩,ϊ 0,.int .u64 0,.pointer none] (0,0) _ rfl R.1 underlying89 rfl kR) rfl ⟨rfl,Y⟩
 .rw[aa] at g;cases g
theorem kQ7(E:Env)(n:Nat)(r:HL)(v:Value)(l:Lnk (Tn (n+1)))(m:Lnk (Tn n))(w:World)(Y:E.Dev w)(hr:RLs E.O (n+1) w v [l])(am:l.ref=none)(C:η l.sub=[m]):
  Calls prog 103 #[τ E.V r,v] w λe w'=>∃ h,e=.returned (τ E.V h)/\RL E.O n w' h m/\E.To w w':=by
 obtain⟨c,j,a⟩:=hr;have o:c.length=1:=a.1;obtain⟨gb,t,cp,cur,fr,rfl,a4,i,W⟩:=j.link oM;obtain⟨x,s⟩:∃ x,c=[x]:=by
  match c,o with
  | [x],_=>exact⟨x,rfl⟩
 subst s;obtain⟨c0,O,P,z⟩:=W 0 sM;have F:RL E.O (n+1) w x l:=a.2 0 sM sM;rcases F.new with⟨_,q,ac,ad⟩|⟨s,_⟩
 .have D:x.ptr=some ⟨q,0,none⟩:=by simp[HL.ptr,ac]
  simp only[zF,Nat.zero_mul,Nat.add_zero] at c0 O P z;rw[D] at z;have ap:=zh F;have H:=zh Y;have J:=zh ad;have ao:=zh D;have a6:=ζ i;have K:=ξ i t;rw[c0] at K;have L:=ξ i (t+1);rw[O] at L;have M:=ξ i (t+2);rw[P] at M;have N:=ξ i (t+3);rw[z] at N;have G:Hid (cnt (n+1) l.sub=1):=by show (η l.sub).length=1;rw[C];rfl
  have HM:=zh C;clear a j W F ad Y D ac o C;rw[τ];go_enter func103,ntmps103;go_wp2_with fail;obtain⟨w0,ah,Q,S,R,B,a9⟩:=alD w (.cells (ϟ E.V r) 89) (.cells ϛ 89) (.cells #[.string x.key,ϊ x.b,.int .u64 x.s,ϖ q] 87)
  rw[<-ah];clear ah;refine (qU0 E.O (n+1) q l.sub w0 (RN.keep B (Apt.nil _ _) (n+1) q _ J) (by rw[G.out];omega)).mono ?_;rintro e w1 ⟨rfl,d⟩;have k:=B.tr d;have U:=Env.To.of0 H k;have A:=d.hp Q;have g:=d.hp S;have f:=d.hp R;rw[G.out];obtain⟨vl,ab,c,j,a⟩:=J.out;have p:=k.hp ab;rw[HM.out] at a;obtain⟨y,hy⟩:∃ y,c=[y]:=by
   have o:c.length=1:=a.1
   match c,o with
   | [y],_=>exact⟨y,rfl⟩
  subst hy;obtain⟨gy,u,cy,ar,aw,rfl,a5,ae,X⟩:=j.link sM;have b:=k.hp ae;obtain⟨y0,y1,y2,y3⟩:=X 0 sM;simp only[zF,Nat.zero_mul,Nat.add_zero] at y0 y1 y2 y3;have af:RL E.O n w y m:=a.2 0 sM sM;have aj:=zh af;obtain⟨lv,aa⟩:∃ lv:Int,((n+1:Nat):Int)=lv:=⟨_,rfl⟩;rw[aa] at p;have a7:=ζ b;have s0:=ξ b u;rw[y0] at s0;have s1:=ξ b (u+1);rw[y1] at s1;have s2:=ξ b (u+2);rw[y2] at s2;have s3:=ξ b (u+3);rw[y3] at s3;clear j a X af aa ab ae;have a8:=ζ p;have ax:=ζ A;have az:=ζ g;have ay:=ζ f;have o2:=ξ p 2;simp only[ι,zG,zH,zI] at o2;have b0:=ϻ A 0;have l0:=ξ f;have au:=φ f;have r0:=ξ g;have av:=φ g;have ai:=zh g;have I:=zh f;have ak:=zh U;have an:=zh b;have aq:Hid (w.heap.size+3<=w1.heap.size):=by have:=d.size;show _<=_;omega
  clear A g f p d B Q S R U k K L M N b;go_wp2;have Z:=zP0 (.string y.key) (ϊ y.b) (.int .u64 y.s) (.pointer y.ptr) I.out;have T:=Z.2.hp ai.out;have ag:=qN1 (ϖ E.V) (.string y.key) (ϊ y.b) (.int .u64 y.s) (.pointer y.ptr) T;have al:=ak.out.store' oM I dC Z.2;have V:=al.store' oM T dC ag.2;exact bodyPost_ret (results_cell_row results103 _ _ (w.heap.size+1) 89 (ϟ E.V y) (0,0) _ rfl ag.1 underlying89 rfl kR) rfl ⟨y,rfl,Env.RL aj H V,V⟩
 .rw[am] at s;cases s
def qS8:(n:Nat)→Tn n→Prop
 | 0,_=>True
 | n+1,t=>2≤(η t).length∧∀ l∈η t,qS8 n l.sub
theorem zM7:∀ (n:Nat) (lo) (t),Good n lo t->min n 1<cnt n t->qS8 n t
 | 0,_,_,_,_=>trivial
 | n+1,lo,t,h,hc=>by
  have b:min (n+1) 1<(η t).length:=hc;exact⟨oM,λl a=>zM7 n l.key l.sub (h.all l a).1 (by have:=(h.all l a).2.1;omega)⟩
def zB8(w:World)(S:List Nat):Prop:=∀ k∈S,∀ c t fr,w.heap[k]?=some (.cells c t fr)→t ∉ qF5∨(t=87∧c.size≤4)
theorem kM8{S}{w w'}(hK:Kp S w w')(k:zB8 w S){v}{hs}(h:Slc w 87 4 v hs.length (qA7 hs))(o:2<=hs.length):Slc w' 87 4 v hs.length (qA7 hs):=by
 refine⟨h.len,?_⟩;rcases h.val with h|⟨g,m,cap,cur,e,f,_,j,a,b⟩
 .exact .inl h
 .refine .inr ⟨g,m,cap,cur,e,f,oM,j,hK.heap a (λl=>?_),b⟩;rcases k g l _ _ _ a with c|⟨_,c⟩
  .exact c dC
  .obtain⟨d,_⟩:=qV9 (ls:=hs) (i:=1) oM;have n:=(Array.getElem?_eq_some_iff.1 (b _ _ d)).1;omega
theorem RN.keepW{O:qE5}{S}{w w'}(hK:Kp S w w')(j:zB8 w S):∀ (n:Nat) (q:Nat) (t),qS8 n t->RN O n w q t->RN O n w' q t
 | 0,q,t,_,h=>by
  obtain⟨C,d,f⟩:=h;have p:∀ (k:Nat) (c:Array Value) (t:TypeId) (b:Nat × Nat),Ϙ w k (.cells c t b)->t∈qF5->t≠87->k ∉ S:=λk c t b e ht hne m=>by
   rcases j k m c t b e with a|⟨a,_⟩
   .exact a ht
   .exact hne a
  refine⟨C,hK.heap d (p q _ _ _ d dC dC),f.len,?_⟩;rcases f.val with h|⟨g,A,cap,cur,b,v,x,y,r,z⟩
  .exact .inl h
  .exact .inr ⟨g,A,cap,cur,b,v,x,y,hK.heap r (p g _ _ _ r dC dC),z⟩
 | n+1,q,t,hw,h=>by
  obtain⟨B,d,u,f,l⟩:=h;refine⟨B,hK.heap d (λm=>?_),u,kM8 hK j f (by rw[l.1];exact hw.1),l.1,λi s o=>(l.2 i s o).mono (λq hq=>RN.keepW hK j n q _ (hw.2 _ (gM o)) hq) (λ_ _ h=>h)⟩;rcases j q m _ _ _ d with a|⟨a,_⟩
  .exact a dC
  .cases a
theorem RL.keepW{O:qE5}{S}{w w'}{n:Nat}{h}{l}(c:RL O n w h l)(hK:Kp S w w')(a:zB8 w S)(d:qS8 n l.sub):RL O n w' h l:=c.mono (λq b=>RN.keepW hK a n q _ d b) (λ_ _ h=>h)
theorem kQ8(E:Env)(n:Nat)(r:HL)(v:Value)(l m:Lnk (Tn n))(w:World)(hd:E.Dev w)(hr:RLs E.O n w v [l,m])(hn:n<=100000)(bz:l.ref=none)(hk:l.key.size<=8/\m.key.size<=8)(b2:qS8 n l.sub)(b3:qS8 n m.sub):
  Calls prog 103 #[τ E.V r,v] w λe w'=>∃ h,e=.returned (τ E.V h)/\RL E.O (n+1) w' h ⟨⟨#[]⟩,none,[l,m]⟩/\E.To w w':=by
 have a4:meas qA2 [l,m]<=126:=by simp[meas,qA2];omega
 have ax:qC4 n ⟨#[]⟩ [l,m]=[⟨⟨#[]⟩,none,[l,m]⟩]:=by
  unfold qC4 qB7;rw[if_pos a4];rfl
 have a7:∀ x∈[l,m],qA2 x<=21:=by
  intro x d;simp only[mC,lN,or_false] at d;unfold qA2;rcases d with rfl|rfl<;>omega
 have bn:=zh hr;obtain⟨hs,be,T⟩:=hr;have D:hs.length=2:=T.1;obtain⟨gb,H,cp,cur,fr,rfl,ce,s,ay⟩:=be.link oM;obtain⟨x,J,d⟩:∃ x J,hs=[x,J]:=by
  match hs,D with
  | [x,J],_=>exact⟨x,J,rfl⟩
 subst d;obtain⟨c0,c1,c2,N⟩:=ay 0 sM;have bd:RL E.O n w x l:=T.2 0 sM sM;rcases bd.new with⟨_,q,bb,bc⟩|⟨d,_⟩
 .have a9:x.ptr=some ⟨q,0,none⟩:=by simp[HL.ptr,bb]
  simp only[zF,Nat.zero_mul,Nat.add_zero] at c0 c1 c2 N;rw[a9] at N;have K:=zh hd;have bj:=zh ax;have ae:Hid ((∀ x∈[l,m],qA2 x<=21)/\meas qA2 [l,m]<=210):=⟨a7,oM⟩;have HW:Hid (qS8 (n+1) [l,m]):=⟨by show 2<=2;omega,λz G=>by
   have G:z∈[l,m]:=G;simp only[mC,lN,or_false] at G;rcases G with rfl|rfl<;>assumption⟩
  obtain⟨pb,pl,pc,lb,ll,lc,F,_⟩:=bc.obj;obtain⟨a,a6⟩:∃ a:Int,(n:Int)=a:=⟨_,rfl⟩;rw[a6] at F;have ci:0<=a/\a<=100000:=oM
  have bk:Hid (a+1=((n+1:Nat):Int)):=by show _=_;omega
  have ck:=ζ F;have o0:∀ A B C:Obj,(((w.alloc A).alloc B).alloc C).cell? ⟨q,0,none⟩=some (ϊ a):=λA B C=>(ξ (ν _ (ν _ (ν _ F))) 0).trans sM;have cj:IntKind.i64.wrap (a+1)=a+1:=by rw[wK];omega
  have cg:=ζ s;have a0:=ξ s H;rw[c0] at a0;have a1:=ξ s (H+1);rw[c1] at a1;have a2:=ξ s (H+2);rw[c2] at a2;have a3:=ξ s (H+3);rw[N] at a3;clear T be ay bd bc hd a9 bb D a6 ax a7 a4 hk b2 b3;rw[τ];go_enter func103,ntmps103;go_wp2_with fail;obtain⟨w0,bg,ag,am,aj,Q,cm⟩:=alD w (.cells (ϟ E.V r) 89) (.cells ϛ 89) (.cells #[.string x.key,ϊ x.b,.int .u64 x.s,ϖ q] 87)
  rw[<-bg];clear bg;have ar:=Env.To.of0 K Q;refine (zD0 E.O n (a+1) bk ⟨#[]⟩ _ [l,m] w0 (Env.RLs bn K ar) sM ae.1 ae.2).mono ?_;rintro e w1 ⟨v1,rfl,an,j⟩;rw[bj.out] at an;obtain⟨ac,bf,V⟩:=an;obtain⟨y,hy⟩:∃ y,ac=[y]:=by
   have D:ac.length=1:=V.1
   match ac,D with
   | [y],_=>exact⟨y,rfl⟩
  subst hy;obtain⟨gy,I,cy,b6,b7,rfl,cf,g,az⟩:=bf.link sM;obtain⟨y0,y1,y2,y3⟩:=az 0 sM;simp only[zF,Nat.zero_mul,Nat.add_zero] at y0 y1 y2 y3;have aa:RL E.O (n+1) w1 y ⟨⟨#[]⟩,none,[l,m]⟩:=V.2 0 sM sM;obtain⟨X,b1⟩:=id aa;obtain⟨U,ab,q',Z,al⟩:=b1;have b4:y=⟨⟨#[]⟩,0,0,some q'⟩:=by
   obtain⟨ya,yb,yc,yd⟩:=y;simp only at X U ab Z;subst X U ab Z;rfl
  subst b4;have ba:HL.ptr ⟨⟨#[]⟩,0,0,some q'⟩=some ⟨q',0,none⟩:=rfl;rw[ba] at y3;simp only at y0 y1 y2;have ch:=ζ g;have s0:=ξ g I;rw[y0] at s0;have s1:=ξ g (I+1);rw[y1] at s1;have s2:=ξ g (I+2);rw[y2] at s2;have s3:=ξ g (I+3);rw[y3] at s3;have ai:=Q.tr j;have au:=Env.To.of0 K ai;have u:=j.hp ag;have o:=j.hp am;have k:=j.hp aj;have b8:=ζ u;have cc:=ζ o;have ca:=ζ k;have b0:=ϻ u 0;have l0:=ξ k;have bs:=φ k;have r0:=ξ o;have af:=φ o;have bo:=zh aa;have bl:=zh al;have bq:=zh au;have bm:=zh o;have L:=zh k;have bi:=zh u;clear bf V az aa al Z ba X U ab u o k au ai j ar Q ag am aj a0 a1 a2 a3 o0 F g;go_wp2_with fail;have a5:=zP0 (.string ⟨#[]⟩) (ϊ 0) (.int .u64 0) (ϖ q') L.out;obtain⟨w2,bh,ak,f⟩:=gE a5;rw[<-bh];clear bh a5 b0 l0 bs r0 af s0 s1 s2 s3;have O:zB8 w1 [w.heap.size+1+1]:=λi W c t bt e=>by
   rw[mS W,L.out] at e;cases e;exact .inr ⟨rfl,sM⟩
  have S:=RN.keepW f O (n+1) q' _ HW bl.out;have ao:=f.hp bm.out;have ah:=f.ho bi.out;have av:=bq.out.store' oM L dC f;have ap:=RL.keepW bo f O HW.out;refine (qU0 E.O (n+1) q' [l,m] w2 S (by show 2<=1000000;omega)).mono ?_;rintro e w3 ⟨rfl,b⟩;rw[show cnt (n+1) [l,m]=2 from rfl];obtain⟨cq,cs,cr,cn,b5,co,Y,bw,_,a8⟩:=(RN.keep b (Apt.nil _ _) (n+1) q' _ S).obj2;have bx:b5=2:=(a8 oM).trans rfl;have p:=b.hp ao;have P:=b.hp ah;have R:=b.hp ak;have aw:=av.tail b;have aq:=RL.keep ap b (Apt.nil _ _);subst bx;have cl:=ζ Y;have b9:=ζ P;have cd:=ζ p;have cb:=ζ R;have o2:=ξ Y 2;simp only[ι,zG,zH,zI] at o2;have b0:=ϻ P 0;have l0:=ξ R;have r0:=ξ p;have af:=φ p;have M:=zh p;have br:=zh aw;have bp:=zh aq;clear Y P R p aw aq ap av S ao ah ak f b O bw a8;go_wp2;have ad:=qN1 (ϖ E.V) (.string ⟨#[]⟩) (ϊ 0) (.int .u64 0) (ϖ q') M.out;have bv:=br.out.store' oM M dC ad.2;have bu:Apt w3 [w.heap.size+1] qF5:=λi W c t bt e=>by
   rw[mS W,M.out] at e;cases e;decide
  exact bodyPost_ret (results_cell_row results103 _ _ (w.heap.size+1) 89 #[ϖ E.V,.string ⟨#[]⟩,ϊ 0,.int .u64 0,ϖ q'] (0,0) _ rfl ad.1 underlying89 rfl kR) rfl ⟨⟨⟨#[]⟩,0,0,some q'⟩,rfl,RL.keep bp ad.2 bu,bv⟩
 .rw[bz] at d;cases d
theorem qL8{P:Program}{c:Array Oper}{d:List Oper}{b:Option Tmp}{ty}{k:String}{e:Array Edge}{a:Act}{w w'}{Q:Exit->Act->World->Prop}{s x:Operand}{t}{vs vx v'}(i:a.eval s=vs)(j:a.eval x=vx)
  (g:Sem.run P (Builtin.append_ #[t,t] ty #[vs,vx]) w=.ok v' w') (h:wpList P c Q d (a.put b v') w'):
  wpList P c Q (⟨b,.call { callee:=.builtin .append,args:=#[s,x],argTypes:=#[t,t] },ty,k,e,none⟩::d) a w:=by
 refine wpList_plain rfl λK hK=>?_;have f:=hK _ _ h;unfold Oper.wp execOp;simp only[resolve,invoke,builtin,Sem.run_bind,Sem.run_pure,Result.andThen_ok,List.map_toArray,List.map_cons,List.map_nil,i,j,g];exact f
def SPR(w:World)(v:Value)(ps:List KV):Prop:=Slc w 284 2 v ps.length (qA3 ps)
def OPR(w:World)(base:Nat)(v:Value)(ps:List KV):Prop:=w.ownsRow base 284 2 v ps.length (qA3 ps)
theorem jS4:(prog.info? 284).map (λi=>(i.zero,i.size,i.bytes))=some (some (.agg #[.string ⟨#[]⟩,.string ⟨#[]⟩]),2,32):=kR
theorem SPR.keep{w w'}{v}{ps}{S}(h:SPR w v ps)(hK:Kp S w w')(a:Apt w S [284]):SPR w' v ps:=Slc.keep h hK a
theorem SPR.keep0{w w'}{v}{ps}(h:SPR w v ps)(hK:Kp [] w w'):SPR w' v ps:=Slc.keep0 h hK
theorem SPR.nil(w):SPR w (.slice none 0 0) []:=⟨rfl,.inl ⟨rfl,none,0,rfl,λ_=>rfl⟩⟩
theorem OPR.nil(w)(base:Nat):OPR w base (.slice none 0 0) []:=wN _ _ _ _
theorem OPR.sp{w}{base:Nat}{v}{ps}(h:OPR w base v ps):SPR w v ps:=by
 refine⟨h.1,?_⟩;rcases h.2 with⟨d,a⟩|⟨g,cap,cur,a,l,e,f,m,n,i⟩
 .exact .inl ⟨a,none,0,by rw[d],λ_=>rfl⟩
 .by_cases c:ps.length=0
  .exact .inl ⟨c,some ⟨g,0,none⟩,cap,by rw[a,c],sM⟩
  .refine .inr ⟨g,0,cap,cur,(0,0),a,oM,f,e,λj u b=>?_⟩;have k:j<ps.length*2:=by
    have:=(gS b).1;rw[qQ9] at this;exact this
   rw[<-i,List.getElem?_take_of_lt k] at b;simpa using b
theorem OPR.alloc{w}{base:Nat}{v}{ps}(h:OPR w base v ps)(o):OPR (w.alloc o) base v ps:=World.ownsRow.alloc h o
theorem OPR.form{w}{base:Nat}{v}{ps}(h:OPR w base v ps):∃ b c,v=.slice b ps.length c:=by
 rcases h.2 with⟨d,a⟩|⟨g,cap,cur,a,e⟩
 .exact⟨none,0,by rw[d,a]⟩
 .exact⟨_,cap,a⟩
theorem SPR.form{w}{v}{ps}(h:SPR w v ps):∃ b c,v=.slice b ps.length c:=by
 rcases h.val with⟨d,b,c,a,_⟩|⟨g,f,cap,cur,e,a,_⟩
 .rw[d];exact⟨b,c,a⟩
 .exact⟨_,cap,a⟩
theorem SPR.at{w}{v}{ps}(h:SPR w v ps)(m:1<=ps.length):
  ∃ g a cap cur b,v=.slice (some ⟨g,a,none⟩) ps.length cap/\ps.length<=cap/\w.heap[g]?=some (.cells cur 284 b)/\∀ i (h:i<ps.length),cur[a+i*2]?=some (.string ps[i].k)/\cur[a+i*2+1]?=some (.string ps[i].v):=by
 rcases h.val with⟨k,_⟩|⟨g,a,cap,cur,b,e,l,f,j,c⟩
 .omega
 .exact⟨g,a,cap,cur,b,e,f,j,λi d=>⟨c _ _ (qR7 d).1,c _ _ (qR7 d).2⟩⟩
theorem kH8(ps)(p):qA3 (ps++[p])=qA3 ps++[.string p.k,.string p.v]:=by simp[qA3,pcs]
theorem OPR.app{w}{base:Nat}{v}{ps}(h:OPR w base v ps)(g:Nat)(p)(ty)(q:ps.length<=1000000)(d:w.heap[g]?=some (.cells #[.string p.k,.string p.v] 284))(c:base<=w.heap.size):
  ∃ b a,Sem.run prog (Builtin.append_ #[124,124] ty #[v,.slice (some ⟨g,0,none⟩) 1 1]) w=.ok b a/\OPR a base b (ps++[p])/\w.grownBy a v.ownBlock:=by
 obtain⟨m,e,i,k,l⟩:=info_parts jS4;obtain⟨b,a,f,n,o,r⟩:=run_append_own (P:=prog) w base 124 ty 284 m _ 2 32 underlying124 e i k l rfl dC v ps.length _ h ⟨g,0,none⟩ 1 1 [.string p.k,.string p.v] rfl (λj v hv=>by
  rw[qG4,ξ d];simpa using hv) (by simp[Value.oneCell']) (by unfold maxLen;omega) oM c
 refine⟨b,a,f,?_,o⟩;unfold OPR;rw[kH8,List.length_append];exact n
theorem OPR.low{w}{base:Nat}{v}{ps}(h:OPR w base v ps):∀ k,v.ownBlock=some k->base<=k:=λk hk=>(World.ownsRow.lt h k hk).1
def SPA(w:World)(v:Value)(ps:List KV):Prop:=Slc w 42 2 v ps.length (qA3 ps)
def OPA(w:World)(base:Nat)(v:Value)(ps:List KV):Prop:=w.ownsRow base 42 2 v ps.length (qA3 ps)
theorem zN2:(prog.info? 42).map (λi=>(i.zero,i.size,i.bytes))=some (some (.agg #[.string ⟨#[]⟩,.string ⟨#[]⟩]),2,32):=kR
theorem SPA.keep{w w'}{v}{ps}{S}(h:SPA w v ps)(hK:Kp S w w')(a:Apt w S [42]):SPA w' v ps:=Slc.keep h hK a
theorem SPA.keep0{w w'}{v}{ps}(h:SPA w v ps)(hK:Kp [] w w'):SPA w' v ps:=Slc.keep0 h hK
theorem SPA.nil(w):SPA w (.slice none 0 0) []:=⟨rfl,.inl ⟨rfl,none,0,rfl,λ_=>rfl⟩⟩
theorem OPA.nil(w)(base:Nat):OPA w base (.slice none 0 0) []:=wN _ _ _ _
theorem OPA.sp{w}{base:Nat}{v}{ps}(h:OPA w base v ps):SPA w v ps:=by
 refine⟨h.1,?_⟩;rcases h.2 with⟨d,a⟩|⟨g,cap,cur,a,l,e,f,m,n,i⟩
 .exact .inl ⟨a,none,0,by rw[d],λ_=>rfl⟩
 .by_cases c:ps.length=0
  .exact .inl ⟨c,some ⟨g,0,none⟩,cap,by rw[a,c],sM⟩
  .refine .inr ⟨g,0,cap,cur,(0,0),a,oM,f,e,λj u b=>?_⟩;have k:j<ps.length*2:=by
    have:=(gS b).1;rw[qQ9] at this;exact this
   rw[<-i,List.getElem?_take_of_lt k] at b;simpa using b
theorem OPA.alloc{w}{base:Nat}{v}{ps}(h:OPA w base v ps)(o):OPA (w.alloc o) base v ps:=World.ownsRow.alloc h o
theorem OPA.form{w}{base:Nat}{v}{ps}(h:OPA w base v ps):∃ b c,v=.slice b ps.length c:=by
 rcases h.2 with⟨d,a⟩|⟨g,cap,cur,a,e⟩
 .exact⟨none,0,by rw[d,a]⟩
 .exact⟨_,cap,a⟩
theorem SPA.form{w}{v}{ps}(h:SPA w v ps):∃ b c,v=.slice b ps.length c:=by
 rcases h.val with⟨d,b,c,a,_⟩|⟨g,f,cap,cur,e,a,_⟩
 .rw[d];exact⟨b,c,a⟩
 .exact⟨_,cap,a⟩
theorem SPA.at{w}{v}{ps}(h:SPA w v ps)(m:1<=ps.length):
  ∃ g a cap cur b,v=.slice (some ⟨g,a,none⟩) ps.length cap/\ps.length<=cap/\w.heap[g]?=some (.cells cur 42 b)/\∀ i (h:i<ps.length),cur[a+i*2]?=some (.string ps[i].k)/\cur[a+i*2+1]?=some (.string ps[i].v):=by
 rcases h.val with⟨k,_⟩|⟨g,a,cap,cur,b,e,l,f,j,c⟩
 .omega
 .exact⟨g,a,cap,cur,b,e,f,j,λi d=>⟨c _ _ (qR7 d).1,c _ _ (qR7 d).2⟩⟩
theorem kH7(ps)(p):qA3 (ps++[p])=qA3 ps++[.string p.k,.string p.v]:=by simp[qA3,pcs]
theorem OPA.low{w}{base:Nat}{v}{ps}(h:OPA w base v ps):∀ k,v.ownBlock=some k->base<=k:=λk hk=>(World.ownsRow.lt h k hk).1
def qE8(p:KV)(st:List KV × Bool)(q:KV):List KV × Bool:=
 let s1:=if !st.2 && !kl q.k p.k then (st.1++[p],true) else st
 if q.k=p.k then s1 else (s1.1++[q],s1.2)
theorem zI7(p:KV):∀ (l a:List KV),l.foldl (qE8 p) (a,true)=(a++l.filter (λq=>!decide (q.k=p.k)),true)
 | [],a=>by simp
 | q::l,a=>by
  rw[List.foldl_cons];by_cases h:q.k=p.k
  .simp[qE8,h,zI7 p l a]
  .simp[qE8,h,zI7 p l (a++[q])]
theorem xQ8(p:KV):∀ (l a:List KV),(if (l.foldl (qE8 p) (a,false)).2 then (l.foldl (qE8 p) (a,false)).1 else (l.foldl (qE8 p) (a,false)).1++[p])=a++ins p l
 | [],a=>by simp[ins]
 | q::l,a=>by
  rw[List.foldl_cons];by_cases h:kl q.k p.k=true
  .have d:=qI9 h;have e:qE8 p (a,false) q=(a++[q],false):=by simp[qE8,h,d]
   rw[e,xQ8 p l (a++[q])];simp[ins,h]
  .have b:kl q.k p.k=false:=by simpa using h
   by_cases c:q.k=p.k
   .have e:qE8 p (a,false) q=(a++[p],true):=by simp[qE8,b,c,qL5]
    rw[e,zI7];simp[ins,b,c,qL5]
   .have e:qE8 p (a,false) q=(a++[p]++[q],true):=by simp[qE8,b,c]
    rw[e,zI7];simp[ins,b,c]
theorem xQ9(p:KV):∀ (l:List KV) (a:List KV × Bool),(l.foldl (qE8 p) a).1.length<=a.1.length+2*l.length
 | [],a=>by simp
 | q::l,a=>by
  rw[List.foldl_cons];have b:=xQ9 p l (qE8 p a q);have c:(qE8 p a q).1.length<=a.1.length+2:=by
   unfold qE8;dsimp only;split<;>split<;>simp<;>omega
  simp only[lC];omega
theorem jO7{α a:Type}(f:a->α->a)(b:a)(l:List α)(j:Nat)(h:j<l.length):(l.take (j+1)).foldl f b=f ((l.take j).foldl f b) l[j]:=by
 rw[tA h,List.foldl_append];rfl
theorem qM2(a b:ByteArray):(a.toList == b.toList)=decide (a=b):=zH4 a b
end Go.Proofs.YtdohpenfkdckiaaGreatDoor
