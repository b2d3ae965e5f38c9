import Derived.Test.YtdohpenfkdckiaaGreatDoorJ03
import Derived.Test.YtdohpenfkdckiaaGreatDoorJ07
import Derived.Defers
import Derived.Recover
import Derived.WalkSmall
set_option linter.all false
set_option maxRecDepth 100000
set_option maxHeartbeats 20000000
namespace Go.Proofs.YtdohpenfkdckiaaGreatDoor
open Go.Proofs.Tryz
open Go.RowKit
def qT0:List UInt8:=List.replicate 128 0
theorem qN9(xs:List Int):(toB xs).length=xs.length:=by simp[toB]
theorem qI0(a b:List Int):toB (a++b)=toB a++toB b:=by simp[toB]
theorem zM7{α:Type}(a b c:List α)(k n:Nat)(d:a.length=k)(e:b.length=n):((a++(b++c)).drop k).take n=b:=by
 subst d;subst e;simp
variable {κ:Nat}
theorem kR7:zeroCells288=enc qT0:=by
 have h:zeroCells288.toList=(enc qT0).toList:=kR
 have:=congrArg List.toArray h;simpa using this
def qC7(l:List UInt8)(i:Nat)(b:List UInt8):List UInt8:=l.take (i*128)++b++l.drop (i*128+b.length)
theorem jH5{P:Program}{a:Act}{w}{o:Oper}{s x:Operand}{t t' e}(q:o.op=.call { callee:=.builtin .copy,args:=#[s,x],argTypes:=#[t,t'] })(y:P.underlying t=some (.slice e))(u:(P.info? e).map (·.size)=some 1)
  (g f dLen dCap b c sLen sCap n:Nat) (j:a.eval s=.slice (some ⟨g,f,none⟩) dLen dCap) (z:a.eval x=.slice (some ⟨b,c,none⟩) sLen sCap) (p:n=Nat.min sLen dLen)
  {cur d} {tg tb} {fr} (l:w.heap[g]?=some (.cells cur tg)) (i:w.heap[b]?=some (.cells d tb fr)) (k:f+n<=cur.size) (m:c+n<=d.size)
  (h:∀ v∈(qB0 d c n).toList,v.oneCell'=true):
  Sem.run P (execOp a.eval o) w=.ok (.value (.int .i64 n)) (w.setRow g (qI2 cur f (qB0 d c n))):=by
 have r:=zB5 (P:=P) (w:=w) o.type (t:=t) (t':=t') y u (dLen:=dLen) (dCap:=dCap) (sLen:=sLen) (sCap:=sCap) n p l i k m h;unfold execOp;simp only[q,resolve,invoke,builtin,Sem.run_bind,Sem.run_pure,Result.andThen_ok,List.map_toArray,List.map_cons,List.map_nil,j,z,r]
variable {κ:Nat}
theorem xA8(p)(w):
  CallsD prog 246 #[.pointer (some p)] .returning w λe c d=>e=.returned (.tuple #[])/\c=.returning/\d=w:=by
 refine callsD_of_wpS func246 rfl λa cs b=>?_;apply wpS_seq;apply wpS_region;simp[wpOpsS,go_sem,recoverD,b,ntmps246,Exit.thenS];refine wpS_cond (t:=false) (by simp[Act.eval,Array.replicate]) ?_;simp only[Bool.false_eq_true,if_false];refine wpS_of_wp (wp_skip ?_);cases a
 simp_all [bodyPostS,results,results246]
theorem kP1(A n C:Nat)(cache)(a b:Int)(w)(h:w.heap[A]?=some (qA6 κ n C cache a b)):
  Calls prog 204 #[.iface 27 (.pointer (some ⟨A,0,none⟩))] w λe c=>e=.returned (.int .i64 n)/\Kp [] w c:=by
 have g:=zM;have d:=ζ h
 go_enter_defers func204,ntmps204
 go_wp2_with fail;refine (xZ9 A n C cache a b _ (ρ _ h)).mono ?_;rintro e k ⟨rfl,rfl⟩;go_wp2;refine leaves_cons (f:=246) (args:=#[ϖ w.heap.size]) sM (by simp[go_sem]) ?_;refine (xA8 ⟨w.heap.size,0,none⟩ _).mono ?_;rintro e i j ⟨rfl,rfl,rfl⟩;simp[Leaves,settle,results,results204,go_sem];exact kF.alloc _
theorem zR7(A n C:Nat)(cache)(a d:Int)(w)(h:w.heap[A]?=some (qA6 κ n C cache a d))(i:8<=n)(g:n<=400):
  Calls prog 139 #[.iface 27 (.pointer (some ⟨A,0,none⟩))] w λe c=>∃ V,e=.returned (.pointer (some ⟨V,0,none⟩))/\w.heap.size<=V/\c.heap[V]?=some (qE4 A n)/\Kp [] w c:=by
 go_enter func139,ntmps139;go_wp2_with fail;refine (kP1 A n C cache a d _ h).mono ?_;rintro e l ⟨rfl,b⟩;have j:decide ((n:Int)<8)=false:=sO
 have k:decide ((400:Int)<(n:Int))=false:=sO
 have f:=b.size;go_wp2;go_ret;exact⟨_,rfl,f,υ _ _,b.alloc _⟩
theorem kR5(k:Int)(w):
  Calls prog 168 #[.iface 182 (.agg #[.iface 45 (.int .i64 k)])] w λe a=>e=.returned (.iface 45 (.int .i64 k))/\Kp [] w a:=by
 have b:∀ W:World,Sem.run prog (Instr.typeAssert (.iface 182 (.agg #[.iface 45 (ϊ k)])) 20 182 true) W=.ok (.tuple #[.agg #[.iface 45 (ϊ k)],.bool true]) W:=λW=>by kernel_rfl
 go_enter func168,ntmps168;go_wp2;go_ret;exact⟨rfl,kF.alloc _⟩
theorem jB2(p q)(w):
  CallsD prog 167 #[.pointer (some p),.pointer (some q)] .returning w λe c d=>e=.returned (.tuple #[])/\c=.returning/\d=w:=by
 refine callsD_of_wpS func167 rfl λa cs b=>?_;apply wpS_seq;apply wpS_region;simp[wpOpsS,go_sem,recoverD,b,ntmps167,Exit.thenS,Array.replicate];refine wpS_of_wp ?_;go_wp2;cases a
 simp_all [bodyPostS,results,results167]
theorem jB3(B E:Nat)(k:Int)(call)(w)(b:w.heap[B]?=some (.cells #[.string call] 9))(p:B≠E)(q:w.heap[E]?=some (.cells #[.nilIface] 38)):
  CallsD prog 167 #[.pointer (some ⟨B,0,none⟩),.pointer (some ⟨E,0,none⟩)] (.panicking [{ v:=.iface 182 (.agg #[.iface 45 (.int .i64 k)]),recovered:=false }]) w λe u i=>
   e=.returned (.tuple #[])/\u=.panicking [{ v:=.iface 182 (.agg #[.iface 45 (.int .i64 k)]),recovered:=true }]/\∃ F,w.heap.size<=F/\i.heap[F]?=some (.cells #[.string call,.iface 45 (.int .i64 k)] 246)/\i.heap[E]?=some (.cells #[.iface 243 (.pointer (some ⟨F,0,none⟩))] 38)/\Kp [E] w i:=by
 refine callsD_of_wpS func167 rfl λx cs t=>?_;apply wpS_seq;apply wpS_region;simp[wpOpsS,go_sem,recoverD,t,ntmps167,Exit.thenS,Array.replicate];refine wpS_of_wp ?_;go_wp2_with fail;refine wp_region_held_drew (S:=λW=>Ϙ W B (.cells #[.string call] 9)) kR b (λ_=>?_);refine zV 1 (.iface 182 (.agg #[.iface 45 (ϊ k)])) rfl (λW h=>rfl) b ?_;refine zV 0 (.string call) rfl (λW h=>by have c:=ξ h 0;simp at c;clear h;go_simp) b ?_;refine zq 2 λK hK=>?_;go_simp;refine (kR5 k _).mono ?_;rintro e f ⟨rfl,a⟩;have d:=a.heap (k:=B) b sM;have j:=a.heap (k:=E) q sM;have m:=((Kp.refl [E] w).drew).tr a;have s:=m.size;clear a;refine zk hK d ?_
 refine zU 3 (.agg #[.string call,.iface 45 (ϊ k)]) d ?_;refine zq 4 λK hK=>?_;go_simp;refine hK.out _ _ (ρ _ d) (λ_=>?_)
 try simp only[zZ]
 have n:=ρ (.cells #[.string call,.iface 45 (ϊ k)] 246) d;have g:=ρ (.cells #[.string call,.iface 45 (ϊ k)] 246) j;have l:=υ f (.cells #[.string call,.iface 45 (ϊ k)] 246);have r:=m.alloc (.cells #[.string call,.iface 45 (ϊ k)] 246);refine zU 5 (.iface 243 (ϖ f.heap.size)) n ?_;generalize f.alloc (.cells #[.string call,.iface 45 (ϊ k)] 246)=W3 at *;have A:=ζ l;have z:=ζ j;have o:=ξ g 0;simp at o;have y:=ψ g 0;refine zq 6 λK hK=>?_;go_simp;refine hK.out _ _ ((qB2 p _ _).trans n) (λ_=>?_);refine zd ?_;exact⟨rfl,_,rfl,_,results_none results167 _ _ _,rfl,rfl,f.heap.size,s,(qB2 oM _ _).trans l,μ g 0 _,r.sc _⟩
theorem shr{α:Type}{R:α->Prop}{G:Prop}(h:∃ a,R a/\(R a->G)):G:=h.elim λ_ h=>h.2 h.1
theorem hid{p:Prop}(h:p):Hid p:=h
def xR9(k:Int):Value:=.iface 182 (.agg #[.iface 45 (.int .i64 k)])
def qB7:Option Int→Ending
 | none=>.returned (.tuple #[])
 | some k=>.panicked [{ v:=xR9 k,recovered:=false }]
def ErrV(w:World)(v:Value):Option Int→Prop
 | none=>v=.nilIface
 | some k=>∃ F call,v=.iface 243 (.pointer (some ⟨F,0,none⟩))∧w.heap[F]?=some (.cells #[.string call,.iface 45 (.int .i64 k)] 246)
theorem zY9(w:World)(a:ByteArray):((w.alloc (.cells #[.string a] 9)).alloc (.cells #[.nilIface] 38)).heap[w.heap.size+1]?=some (.cells #[.nilIface] 38)/\((w.alloc (.cells #[.string a] 9)).alloc (.cells #[.nilIface] 38)).heap[w.heap.size]?=some (.cells #[.string a] 9):=
 ⟨by simpa using υ (w.alloc (.cells #[.string a] 9)) (.cells #[.nilIface] 38),ρ _ (υ _ _)⟩
theorem zM4(f:Nat)(cap)(call)(w)(R:Option Int->World->Prop)(S)(o:∀ i,i∈S->i<w.heap.size)(A:∀ W:World,Sem.run prog (callFunc f cap) W=.ok (.enter f cap) W)
  (p:Calls prog f cap ((w.alloc (.cells #[.string call] 9)).alloc (.cells #[.nilIface] 38)) λe d=>∃ k,e=qB7 k/\R k d/\Kp S ((w.alloc (.cells #[.string call] 9)).alloc (.cells #[.nilIface] 38)) d):
  Calls prog 107 #[.string call,.func (.func f) #[] cap] w λe d=>∃ k v a,e=.returned v/\ErrV d v k/\(∀ F,v=.iface 243 (.pointer (some ⟨F,0,none⟩))->w.heap.size<=F)/\R k a/\a.heap[w.heap.size+1]?=some (.cells #[.nilIface] 38)/\Kp S w a/\Kp [w.heap.size+1] a d:=by
 have B:=zM;have m:=zh p;have l:=zh o;clear p o
 go_enter_defers func107,ntmps107
 go_wp2_with fail;refine (show Calls _ _ _ _ _ from m).mono ?_;rintro e a ⟨k,rfl,n,hK⟩;have g:=hK.heap (zY9 w call).1 (λh=>by have:=l.out _ h;omega);have q:=hK.heap (zY9 w call).2 (λh=>by have:=l.out _ h;omega);have j:=(((Kp.refl S w).alloc _).alloc _).trans hK (λi h _=>h);have b:=zh (n3 n g j);have C:=j.size;clear n hK j m
 cases k with
 | none=>
  simp only[qB7];have c:=ξ g 0;simp at c;have y:=ψ g 0;go_wp2;refine leaves_cons (f:=167) (args:=#[ϖ w.heap.size,ϖ (w.heap.size+1)]) sM (by simp[go_sem]) ?_;refine (jB2 ⟨w.heap.size,0,none⟩ ⟨w.heap.size+1,0,none⟩ _).mono ?_;rintro e u D ⟨rfl,rfl,rfl⟩;refine⟨.nilIface,by simp[settle,results,results107,go_sem,c],none,.nilIface,a,rfl,rfl,λF h=>(by cases h),b.1,b.2.1,b.2.2,kF.sc _⟩
 | some k=>
  simp only[qB7,xR9];go_wp2;refine leaves_cons (f:=167) (args:=#[ϖ w.heap.size,ϖ (w.heap.size+1)]) sM (by simp[go_sem]) ?_;refine (jB3 w.heap.size (w.heap.size+1) k call _ q oM g).mono ?_;rintro e u E ⟨rfl,rfl,F,z,s,r,t⟩;have c:=ξ r 0;simp at c;refine⟨.iface 243 (ϖ F),by simp[settle,results,results107,go_sem,c],some k,.iface 243 (ϖ F),a,rfl,⟨F,call,rfl,s⟩,λx h=>(by cases h;omega),b.1,b.2.1,b.2.2,t⟩
variable {κ:Nat}
theorem xZ6(l)(i:Nat)(b)(a:b.length=128)(h:i*128+128<=l.length):ω (qC7 l i b) i=b:=by
 unfold ω qC7;rw[aA,List.drop_append_of_le_length sO,dL sO,nA,List.take_append_of_le_length oM,tL oM]
theorem jC0(args)(W):Sem.run prog (callFunc 138 args) W=.ok (.enter 138 args) W:=by
 simp[go_sem,func138]
theorem qM7{W}{k:Nat}{a b c d e}(v0 v1 v2 v3 v4)(h:W.heap[k]?=some (.cells #[a,b,c,d,e] 89)):
  (((((W.setCell ⟨k,0,none⟩ v0).setCell ⟨k,1,none⟩ v1).setCell ⟨k,2,none⟩ v2).setCell ⟨k,3,none⟩ v3).setCell ⟨k,4,none⟩ v4).heap[k]?=some (.cells #[v0,v1,v2,v3,v4] 89)/\Kp [k] W (((((W.setCell ⟨k,0,none⟩ v0).setCell ⟨k,1,none⟩ v1).setCell ⟨k,2,none⟩ v2).setCell ⟨k,3,none⟩ v3).setCell ⟨k,4,none⟩ v4):=
 ⟨μ (μ (μ (μ (μ h 0 _) 1 _) 2 _) 3 _) 4 _,(((((Kp.refl _ W).sc _).sc _).sc _).sc _).sc _⟩
theorem Env.To.store'{E:Env}{w W a:World}{k:Nat}{c:Array Value}{t:TypeId}{d:Nat × Nat}(e:E.To w W)(j:w.heap.size<=k)(f:W.heap[k]?=some (.cells c t d))(h:t∈zH2)(hK:Kp [k] W a):E.To w a:=
 ⟨E.keep W a [k] e.dev hK (λi b=>by rw[mS b];exact⟨c,t,d,f,h⟩),e.kp.trans hK (λi b g=>by rw[mS b] at g;omega)⟩
theorem RN.obj2{O:qE8}{n:Nat}{w}{q:Nat}{t}(h:RN O n w q t):∃ v m x r f s,w.heap[q]?=some (χ (n:Int) (.slice v m x) (.slice r f s))/\m+f=cnt n t/\(n=0->f=0)/\(n≠0->f=cnt n t):=by
 cases n with
 | zero=>
  obtain⟨z,a,j⟩:=h;obtain⟨d,e,k⟩:∃ d e,z=.slice d (prs t).length e:=by
   rcases j.val with⟨i,b,c,a,_⟩|⟨g,u,cap,cur,o,a,_⟩
   .rw[i];exact⟨b,c,a⟩
   .exact⟨_,cap,a⟩
  rw[k] at a;exact⟨_,_,_,_,_,_,a,rfl,λ_=>rfl,λh=>absurd rfl h⟩
 | succ n=>
  obtain⟨y,a,p,j,l⟩:=h;obtain⟨d,e,k⟩:∃ d e,y=.slice d p.length e:=by
   rcases j.val with⟨i,b,c,a,_⟩|⟨g,u,cap,cur,o,a,_⟩
   .rw[i];exact⟨b,c,a⟩
   .exact⟨_,cap,a⟩
  rw[k] at a;refine⟨_,_,_,_,_,_,a,?_,λh=>(by cases h),λ_=>l.1⟩;rw[Nat.zero_add,l.1];rfl
theorem xS7(E:Env)(n:Nat)(r:HL)(v:Value)(l:Lnk (Tn n))(w:World)(Q:E.Dev w)(hr:RLs E.O n w v [l])(af:l.ref=none)(O:min n 1<cnt n l.sub)(ak:cnt n l.sub<=10000):
  Calls prog 103 #[τ E.V r,v] w λe Z=>∃ h,e=.returned (τ E.V h)/\RL E.O n Z h l/\E.To w Z:=by
 obtain⟨u,W,o⟩:=hr;have R:u.length=1:=o.1;obtain⟨gb,f,cp,cur,fr,rfl,al,c,P⟩:=W.link oM;obtain⟨x,d⟩:∃ x,u=[x]:=by
  match u,R with
  | [x],_=>exact⟨x,rfl⟩
 subst d;obtain⟨c0,G,H,g⟩:=P 0 sM;have t:RL E.O n w x l:=o.2 0 sM sM;rcases t.new with⟨_,q,U,V⟩|⟨d,_⟩
 .have s:x.ptr=some ⟨q,0,none⟩:=by simp[HL.ptr,U]
  simp only[zF,Nat.zero_mul,Nat.add_zero] at c0 G H g;rw[s] at g;have ab:=zh t;have y:=zh Q;have z:=zh V;have aa:=zh s;have an:=ζ c;have B:=ξ c f;rw[c0] at B;have C:=ξ c (f+1);rw[G] at C;have D:=ξ c (f+2);rw[H] at D;have F:=ξ c (f+3);rw[g] at F;have am:¬((cnt n l.sub:Nat):Int)=0:=oM
  have ad:cnt n l.sub<=1000000:=oM
  have HC:=zh O;clear o W P t V Q s U R O;rw[τ];go_enter func103,ntmps103;go_wp2_with fail;obtain⟨w0,Y,J,L,K,j,aq⟩:=alD w (.cells (ϟ E.V r) 89) (.cells ϛ 89) (.cells #[.string x.key,ϊ x.b,.int .u64 x.s,ϖ q] 87)
  rw[<-Y];clear Y;refine (qU2 E.O n q l.sub w0 (RN.keep j (Apt.nil _ _) n q _ z) ad).mono ?_;rintro e w1 ⟨rfl,a⟩;have k:=j.tr a;have M:=Env.To.of0 y k;have i:=a.hp J;have b:=a.hp L;have m:=a.hp K;obtain⟨pb,pl,pc,lb,ll,lc,p,ae,S,T⟩:=(RN.keep k (Apt.nil _ _) n q _ z).obj2;have ao:¬((ll:Nat):Int)=1:=by
   have:=HC.out;by_cases I:n=0
   .have:=S I;omega
   .have:=T I;omega
  have ap:=ζ p;have ah:=ζ i;have aj:=ζ b;have ai:=ζ m;have o2:=ξ p 2;simp only[χ,zG,zH,zI] at o2;have b0:=ϻ i 0;have l0:=ξ m;have r0:=ξ b;have ag:=ψ b;have A:=zh b;have ac:=zh M;clear i b m p a j J L K S T M k B C D F ae;go_wp2;have X:=qM7 (ϖ E.V) (.string x.key) (ϊ x.b) (.int .u64 x.s) (ϖ q) A.out;have N:=ac.out.store' oM A dC X.2;refine bodyPost_ret (results_cell_row results103 _ _ (w.heap.size+1) 89 #[ϖ E.V,.string x.key,ϊ x.b,.int .u64 x.s,ϖ q] (0,0) _ rfl X.1 underlying89 rfl kR) rfl ⟨x,?_,Env.RL ab y N,N⟩;rw[τ,aa.out]
 .rw[af] at d;cases d
theorem zP9{W}{k:Nat}{a b c d}(v0 v1 v2 v3)(h:W.heap[k]?=some (.cells #[a,b,c,d] 87)):
  ((((W.setCell ⟨k,0,none⟩ v0).setCell ⟨k,1,none⟩ v1).setCell ⟨k,2,none⟩ v2).setCell ⟨k,3,none⟩ v3).heap[k]?=some (.cells #[v0,v1,v2,v3] 87)/\Kp [k] W ((((W.setCell ⟨k,0,none⟩ v0).setCell ⟨k,1,none⟩ v1).setCell ⟨k,2,none⟩ v2).setCell ⟨k,3,none⟩ v3):=
 ⟨μ (μ (μ (μ h 0 _) 1 _) 2 _) 3 _,((((Kp.refl _ W).sc _).sc _).sc _).sc _⟩
theorem kO3(E:Env)(r:HL)(v:Value)(l:Lnk (Tn 0))(w:World)(L:E.Dev w)(hr:RLs E.O 0 w v [l])(aa:l.ref=none)(I:cnt 0 l.sub=0):
  Calls prog 103 #[τ E.V r,v] w λe w'=>e=.returned (τ E.V ⟨⟨#[]⟩,0,0,none⟩)/\E.To w w':=by
 obtain⟨o,Q,k⟩:=hr;have M:o.length=1:=k.1;obtain⟨gb,h,cp,cur,fr,rfl,aj,d,K⟩:=Q.link oM;obtain⟨x,g⟩:∃ x,o=[x]:=by
  match o,M with
  | [x],_=>exact⟨x,rfl⟩
 subst g;obtain⟨c0,z,A,i⟩:=K 0 sM;have n:RL E.O 0 w x l:=k.2 0 sM sM;rcases n.new with⟨_,q,O,P⟩|⟨g,_⟩
 .have m:x.ptr=some ⟨q,0,none⟩:=by simp[HL.ptr,O]
  simp only[zF,Nat.zero_mul,Nat.add_zero] at c0 z A i;rw[m] at i;have ad:=zh n;have T:=zh L;have U:=zh P;have ac:=zh m;have ak:=ζ d;have s:=ξ d h;rw[c0] at s;have t:=ξ d (h+1);rw[z] at t;have u:=ξ d (h+2);rw[A] at u;have y:=ξ d (h+3);rw[i] at y;have Z:((cnt 0 l.sub:Nat):Int)=0:=oM
  have J:cnt 0 l.sub<=1000000:=oM
  clear k Q K n P L m O M;rw[τ];go_enter func103,ntmps103;go_wp2_with fail;obtain⟨w0,S,B,F,D,j,al⟩:=alD w (.cells (ϟ E.V r) 89) (.cells ϛ 89) (.cells #[.string x.key,ϊ x.b,.int .u64 x.s,ϖ q] 87)
  rw[<-S];clear S;refine (qU2 E.O 0 q l.sub w0 (RN.keep j (Apt.nil _ _) 0 q _ U) J).mono ?_;rintro e w1 ⟨rfl,a⟩;have C:=j.tr a;rw[I];clear I Z J;have H:=Env.To.of0 T C;have f:=a.hp B;have c:=a.hp F;have b:=a.hp D;have ag:=ζ f;have ai:=ζ c;have ah:=ζ b;have b0:=ϻ f 0;have l0:=ξ b;have ae:=ψ b;have r0:=ξ c;have af:=ψ c;have V:=zh c;have p:=zh b;have ab:=zh f;have W:=zh H;clear f c b a j B F D H C s t u y;go_wp2;have N:=zP9 (.string ⟨#[]⟩) (ϊ 0) (.int .u64 0) (.pointer none) p.out;have G:=N.2.hp V.out;have R:=qM7 (ϖ E.V) (.string ⟨#[]⟩) (ϊ 0) (.int .u64 0) (.pointer none) G;have X:=W.out.store' oM p dC N.2;have Y:=X.store' oM G dC R.2;exact bodyPost_ret (results_cell_row results103 _ _ (w.heap.size+1) 89 #[ϖ E.V,.string ⟨#[]⟩,ϊ 0,.int .u64 0,.pointer none] (0,0) _ rfl R.1 underlying89 rfl kR) rfl ⟨rfl,Y⟩
 .rw[aa] at g;cases g
theorem kO4(E:Env)(n:Nat)(r:HL)(v:Value)(l:Lnk (Tn (n+1)))(m:Lnk (Tn n))(w:World)(Y:E.Dev w)(hr:RLs E.O (n+1) w v [l])(am:l.ref=none)(C:η l.sub=[m]):
  Calls prog 103 #[τ E.V r,v] w λe w'=>∃ h,e=.returned (τ E.V h)/\RL E.O n w' h m/\E.To w w':=by
 obtain⟨c,j,a⟩:=hr;have o:c.length=1:=a.1;obtain⟨gb,t,cp,cur,fr,rfl,a4,i,W⟩:=j.link oM;obtain⟨x,s⟩:∃ x,c=[x]:=by
  match c,o with
  | [x],_=>exact⟨x,rfl⟩
 subst s;obtain⟨c0,O,P,z⟩:=W 0 sM;have F:RL E.O (n+1) w x l:=a.2 0 sM sM;rcases F.new with⟨_,q,ac,ad⟩|⟨s,_⟩
 .have D:x.ptr=some ⟨q,0,none⟩:=by simp[HL.ptr,ac]
  simp only[zF,Nat.zero_mul,Nat.add_zero] at c0 O P z;rw[D] at z;have ap:=zh F;have H:=zh Y;have J:=zh ad;have ao:=zh D;have a6:=ζ i;have K:=ξ i t;rw[c0] at K;have L:=ξ i (t+1);rw[O] at L;have M:=ξ i (t+2);rw[P] at M;have N:=ξ i (t+3);rw[z] at N;have G:Hid (cnt (n+1) l.sub=1):=by show (η l.sub).length=1;rw[C];rfl
  have HM:=zh C;clear a j W F ad Y D ac o C;rw[τ];go_enter func103,ntmps103;go_wp2_with fail;obtain⟨w0,ah,Q,S,R,B,a9⟩:=alD w (.cells (ϟ E.V r) 89) (.cells ϛ 89) (.cells #[.string x.key,ϊ x.b,.int .u64 x.s,ϖ q] 87)
  rw[<-ah];clear ah;refine (qU2 E.O (n+1) q l.sub w0 (RN.keep B (Apt.nil _ _) (n+1) q _ J) (by rw[G.out];omega)).mono ?_;rintro e w1 ⟨rfl,d⟩;have k:=B.tr d;have U:=Env.To.of0 H k;have A:=d.hp Q;have g:=d.hp S;have f:=d.hp R;rw[G.out];obtain⟨vl,ab,c,j,a⟩:=J.out;have p:=k.hp ab;rw[HM.out] at a;obtain⟨y,hy⟩:∃ y,c=[y]:=by
   have o:c.length=1:=a.1
   match c,o with
   | [y],_=>exact⟨y,rfl⟩
  subst hy;obtain⟨gy,u,cy,ar,aw,rfl,a5,ae,X⟩:=j.link sM;have b:=k.hp ae;obtain⟨y0,y1,y2,y3⟩:=X 0 sM;simp only[zF,Nat.zero_mul,Nat.add_zero] at y0 y1 y2 y3;have af:RL E.O n w y m:=a.2 0 sM sM;have aj:=zh af;obtain⟨lv,aa⟩:∃ lv:Int,((n+1:Nat):Int)=lv:=⟨_,rfl⟩;rw[aa] at p;have a7:=ζ b;have s0:=ξ b u;rw[y0] at s0;have s1:=ξ b (u+1);rw[y1] at s1;have s2:=ξ b (u+2);rw[y2] at s2;have s3:=ξ b (u+3);rw[y3] at s3;clear j a X af aa ab ae;have a8:=ζ p;have ax:=ζ A;have az:=ζ g;have ay:=ζ f;have o2:=ξ p 2;simp only[χ,zG,zH,zI] at o2;have b0:=ϻ A 0;have l0:=ξ f;have au:=ψ f;have r0:=ξ g;have av:=ψ g;have ai:=zh g;have I:=zh f;have ak:=zh U;have an:=zh b;have aq:Hid (w.heap.size+3<=w1.heap.size):=by have:=d.size;show _<=_;omega
  clear A g f p d B Q S R U k K L M N b;go_wp2;have Z:=zP9 (.string y.key) (ϊ y.b) (.int .u64 y.s) (.pointer y.ptr) I.out;have T:=Z.2.hp ai.out;have ag:=qM7 (ϖ E.V) (.string y.key) (ϊ y.b) (.int .u64 y.s) (.pointer y.ptr) T;have al:=ak.out.store' oM I dC Z.2;have V:=al.store' oM T dC ag.2;exact bodyPost_ret (results_cell_row results103 _ _ (w.heap.size+1) 89 (ϟ E.V y) (0,0) _ rfl ag.1 underlying89 rfl kR) rfl ⟨y,rfl,Env.RL aj H V,V⟩
 .rw[am] at s;cases s
theorem qL9{P:Program}{c:Array Oper}{d:List Oper}{b:Option Tmp}{ty}{k:String}{e:Array Edge}{a:Act}{w w'}{Q:Exit->Act->World->Prop}{s x:Operand}{t}{vs vx v'}(i:a.eval s=vs)(j:a.eval x=vx)
  (g:Sem.run P (Builtin.append_ #[t,t] ty #[vs,vx]) w=.ok v' w') (h:wpList P c Q d (a.put b v') w'):
  wpList P c Q (⟨b,.call { callee:=.builtin .append,args:=#[s,x],argTypes:=#[t,t] },ty,k,e,none⟩::d) a w:=by
 refine wpList_plain rfl λK hK=>?_;have f:=hK _ _ h;unfold Oper.wp execOp;simp only[resolve,invoke,builtin,Sem.run_bind,Sem.run_pure,Result.andThen_ok,List.map_toArray,List.map_cons,List.map_nil,i,j,g];exact f
def SPR(w:World)(v:Value)(ps:List KV):Prop:=Slc w 284 2 v ps.length (qA4 ps)
def OPR(w:World)(base:Nat)(v:Value)(ps:List KV):Prop:=w.ownsRow base 284 2 v ps.length (qA4 ps)
theorem jN9:(prog.info? 284).map (λi=>(i.zero,i.size,i.bytes))=some (some (.agg #[.string ⟨#[]⟩,.string ⟨#[]⟩]),2,32):=kR
theorem SPR.keep{w w'}{v}{ps}{S}(h:SPR w v ps)(hK:Kp S w w')(a:Apt w S [284]):SPR w' v ps:=Slc.keep h hK a
theorem SPR.keep0{w w'}{v}{ps}(h:SPR w v ps)(hK:Kp [] w w'):SPR w' v ps:=Slc.keep0 h hK
theorem SPR.nil(w):SPR w (.slice none 0 0) []:=⟨rfl,.inl ⟨rfl,none,0,rfl,λ_=>rfl⟩⟩
theorem OPR.nil(w)(base:Nat):OPR w base (.slice none 0 0) []:=wN _ _ _ _
theorem OPR.sp{w}{base:Nat}{v}{ps}(h:OPR w base v ps):SPR w v ps:=by
 refine⟨h.1,?_⟩;rcases h.2 with⟨d,a⟩|⟨g,cap,cur,a,l,e,f,m,n,i⟩
 .exact .inl ⟨a,none,0,by rw[d],λ_=>rfl⟩
 .by_cases c:ps.length=0
  .exact .inl ⟨c,some ⟨g,0,none⟩,cap,by rw[a,c],sM⟩
  .refine .inr ⟨g,0,cap,cur,(0,0),a,oM,f,e,λj u b=>?_⟩;have k:j<ps.length*2:=by
    have:=(gS b).1;rw[qR1] at this;exact this
   rw[<-i,List.getElem?_take_of_lt k] at b;simpa using b
theorem OPR.alloc{w}{base:Nat}{v}{ps}(h:OPR w base v ps)(o):OPR (w.alloc o) base v ps:=World.ownsRow.alloc h o
theorem OPR.form{w}{base:Nat}{v}{ps}(h:OPR w base v ps):∃ b c,v=.slice b ps.length c:=by
 rcases h.2 with⟨d,a⟩|⟨g,cap,cur,a,e⟩
 .exact⟨none,0,by rw[d,a]⟩
 .exact⟨_,cap,a⟩
theorem SPR.form{w}{v}{ps}(h:SPR w v ps):∃ b c,v=.slice b ps.length c:=by
 rcases h.val with⟨d,b,c,a,_⟩|⟨g,f,cap,cur,e,a,_⟩
 .rw[d];exact⟨b,c,a⟩
 .exact⟨_,cap,a⟩
theorem SPR.at{w}{v}{ps}(h:SPR w v ps)(m:1<=ps.length):
  ∃ g a cap cur b,v=.slice (some ⟨g,a,none⟩) ps.length cap/\ps.length<=cap/\w.heap[g]?=some (.cells cur 284 b)/\∀ i (h:i<ps.length),cur[a+i*2]?=some (.string ps[i].k)/\cur[a+i*2+1]?=some (.string ps[i].v):=by
 rcases h.val with⟨k,_⟩|⟨g,a,cap,cur,b,e,l,f,j,c⟩
 .omega
 .exact⟨g,a,cap,cur,b,e,f,j,λi d=>⟨c _ _ (qR7 d).1,c _ _ (qR7 d).2⟩⟩
theorem kB1(ps)(p):qA4 (ps++[p])=qA4 ps++[.string p.k,.string p.v]:=by simp[qA4,pcs]
theorem OPR.app{w}{base:Nat}{v}{ps}(h:OPR w base v ps)(g:Nat)(p)(ty)(q:ps.length<=1000000)(d:w.heap[g]?=some (.cells #[.string p.k,.string p.v] 284))(c:base<=w.heap.size):
  ∃ b a,Sem.run prog (Builtin.append_ #[124,124] ty #[v,.slice (some ⟨g,0,none⟩) 1 1]) w=.ok b a/\OPR a base b (ps++[p])/\w.grownBy a v.ownBlock:=by
 obtain⟨m,e,i,k,l⟩:=info_parts jN9;obtain⟨b,a,f,n,o,r⟩:=run_append_own (P:=prog) w base 124 ty 284 m _ 2 32 underlying124 e i k l rfl dC v ps.length _ h ⟨g,0,none⟩ 1 1 [.string p.k,.string p.v] rfl (λj v hv=>by
  rw[qH0,ξ d];simpa using hv) (by simp[Value.oneCell']) (by unfold maxLen;omega) oM c
 refine⟨b,a,f,?_,o⟩;unfold OPR;rw[kB1,List.length_append];exact n
theorem OPR.low{w}{base:Nat}{v}{ps}(h:OPR w base v ps):∀ k,v.ownBlock=some k->base<=k:=λk hk=>(World.ownsRow.lt h k hk).1
def SPA(w:World)(v:Value)(ps:List KV):Prop:=Slc w 42 2 v ps.length (qA4 ps)
def OPA(w:World)(base:Nat)(v:Value)(ps:List KV):Prop:=w.ownsRow base 42 2 v ps.length (qA4 ps)
theorem zO2:(prog.info? 42).map (λi=>(i.zero,i.size,i.bytes))=some (some (.agg #[.string ⟨#[]⟩,.string ⟨#[]⟩]),2,32):=kR
theorem SPA.keep{w w'}{v}{ps}{S}(h:SPA w v ps)(hK:Kp S w w')(a:Apt w S [42]):SPA w' v ps:=Slc.keep h hK a
theorem SPA.keep0{w w'}{v}{ps}(h:SPA w v ps)(hK:Kp [] w w'):SPA w' v ps:=Slc.keep0 h hK
theorem SPA.nil(w):SPA w (.slice none 0 0) []:=⟨rfl,.inl ⟨rfl,none,0,rfl,λ_=>rfl⟩⟩
theorem OPA.nil(w)(base:Nat):OPA w base (.slice none 0 0) []:=wN _ _ _ _
theorem OPA.sp{w}{base:Nat}{v}{ps}(h:OPA w base v ps):SPA w v ps:=by
 refine⟨h.1,?_⟩;rcases h.2 with⟨d,a⟩|⟨g,cap,cur,a,l,e,f,m,n,i⟩
 .exact .inl ⟨a,none,0,by rw[d],λ_=>rfl⟩
 .by_cases c:ps.length=0
  .exact .inl ⟨c,some ⟨g,0,none⟩,cap,by rw[a,c],sM⟩
  .refine .inr ⟨g,0,cap,cur,(0,0),a,oM,f,e,λj u b=>?_⟩;have k:j<ps.length*2:=by
    have:=(gS b).1;rw[qR1] at this;exact this
   rw[<-i,List.getElem?_take_of_lt k] at b;simpa using b
theorem OPA.alloc{w}{base:Nat}{v}{ps}(h:OPA w base v ps)(o):OPA (w.alloc o) base v ps:=World.ownsRow.alloc h o
theorem OPA.form{w}{base:Nat}{v}{ps}(h:OPA w base v ps):∃ b c,v=.slice b ps.length c:=by
 rcases h.2 with⟨d,a⟩|⟨g,cap,cur,a,e⟩
 .exact⟨none,0,by rw[d,a]⟩
 .exact⟨_,cap,a⟩
theorem SPA.form{w}{v}{ps}(h:SPA w v ps):∃ b c,v=.slice b ps.length c:=by
 rcases h.val with⟨d,b,c,a,_⟩|⟨g,f,cap,cur,e,a,_⟩
 .rw[d];exact⟨b,c,a⟩
 .exact⟨_,cap,a⟩
theorem SPA.at{w}{v}{ps}(h:SPA w v ps)(m:1<=ps.length):
  ∃ g a cap cur b,v=.slice (some ⟨g,a,none⟩) ps.length cap/\ps.length<=cap/\w.heap[g]?=some (.cells cur 42 b)/\∀ i (h:i<ps.length),cur[a+i*2]?=some (.string ps[i].k)/\cur[a+i*2+1]?=some (.string ps[i].v):=by
 rcases h.val with⟨k,_⟩|⟨g,a,cap,cur,b,e,l,f,j,c⟩
 .omega
 .exact⟨g,a,cap,cur,b,e,f,j,λi d=>⟨c _ _ (qR7 d).1,c _ _ (qR7 d).2⟩⟩
theorem kB0(ps)(p):qA4 (ps++[p])=qA4 ps++[.string p.k,.string p.v]:=by simp[qA4,pcs]
theorem OPA.low{w}{base:Nat}{v}{ps}(h:OPA w base v ps):∀ k,v.ownBlock=some k->base<=k:=λk hk=>(World.ownsRow.lt h k hk).1
def qF0(p:KV)(st:List KV × Bool)(q:KV):List KV × Bool:=
 let s1:=if !st.2 && !kl q.k p.k then (st.1++[p],true) else st
 if q.k=p.k then s1 else (s1.1++[q],s1.2)
theorem zK0(p:KV):∀ (l a:List KV),l.foldl (qF0 p) (a,true)=(a++l.filter (λq=>!decide (q.k=p.k)),true)
 | [],a=>by simp
 | q::l,a=>by
  rw[List.foldl_cons];by_cases h:q.k=p.k
  .simp[qF0,h,zK0 p l a]
  .simp[qF0,h,zK0 p l (a++[q])]
theorem xS8(p:KV):∀ (l a:List KV),(if (l.foldl (qF0 p) (a,false)).2 then (l.foldl (qF0 p) (a,false)).1 else (l.foldl (qF0 p) (a,false)).1++[p])=a++ins p l
 | [],a=>by simp[ins]
 | q::l,a=>by
  rw[List.foldl_cons];by_cases h:kl q.k p.k=true
  .have d:=qI8 h;have e:qF0 p (a,false) q=(a++[q],false):=by simp[qF0,h,d]
   rw[e,xS8 p l (a++[q])];simp[ins,h]
  .have b:kl q.k p.k=false:=by simpa using h
   by_cases c:q.k=p.k
   .have e:qF0 p (a,false) q=(a++[p],true):=by simp[qF0,b,c,qO5]
    rw[e,zK0];simp[ins,b,c,qO5]
   .have e:qF0 p (a,false) q=(a++[p]++[q],true):=by simp[qF0,b,c]
    rw[e,zK0];simp[ins,b,c]
theorem xS9(p:KV):∀ (l:List KV) (a:List KV × Bool),(l.foldl (qF0 p) a).1.length<=a.1.length+2*l.length
 | [],a=>by simp
 | q::l,a=>by
  rw[List.foldl_cons];have b:=xS9 p l (qF0 p a q);have c:(qF0 p a q).1.length<=a.1.length+2:=by
   unfold qF0;dsimp only;split<;>split<;>simp<;>omega
  simp only[lC];omega
theorem jK8{α a:Type}(f:a->α->a)(b:a)(l:List α)(j:Nat)(h:j<l.length):(l.take (j+1)).foldl f b=f ((l.take j).foldl f b) l[j]:=by
 rw[tA h,List.foldl_append];rfl
theorem qM2(a b:ByteArray):(a.toList == b.toList)=decide (a=b):=zB7 a b
theorem zT3(v)(ps)(p)(w)(hs:SPR w v ps)(hn:ps.length<=100000):
  Calls prog 193 #[.agg #[v],.string p.k,.string p.v] w λe w'=>∃ l,e=.returned (.agg #[l])/\SPR w' l (ins p ps)/\Kp [] w w':=by
 obtain⟨bs,cp,rfl⟩:=hs.form;have HS:=zh hs;have P:Hid ((if (ps.foldl (qF0 p) ([],false)).2 then (ps.foldl (qF0 p) ([],false)).1 else (ps.foldl (qF0 p) ([],false)).1++[p])=ins p ps):=by
  have:=xS8 p ps [];show _=_;simpa using this
 clear hs;go_enter func193,ntmps193;go_wp2_with fail;obtain⟨w0,ak,ac,U,ad⟩:=alH w (.cells #[.slice bs ps.length cp] 126) (.cells #[.slice none 0 0] 126)
 rw[<-ak];clear ak;have am:=zh ac;have ab:=zh U;have N:=zh ad;have az:=ζ U;clear ac U ad
 go_loopw [7,8,9] (λo b i wr=>∃ (j:Nat) (l:Value),j<=ps.length/\i=.int .i64 j/\b=.bool ((ps.take j).foldl (qF0 p) ([],false)).2/\l=o/\OPR wr w0.heap.size l ((ps.take j).foldl (qF0 p) ([],false)).1/\Kp [] w0 wr) (λ_ _ i _=>ps.length-(intOf i).toNat)
 case atStart=>exact⟨0,_,zL _,rfl,rfl,rfl,OPR.nil _ _,Kp.refl _ _⟩
 case round=>
  obtain⟨j,l,hj,rfl,rfl,rfl,u,hK⟩:=hrel;have H:=hK.hp am.out;have ar:=ζ H;have a3:=hK.size;have b0:=ϻ H 0;have F:=xS9 p (ps.take j) ([],false);simp only[lK,List.length_nil] at F;by_cases L:j<ps.length
  .have ao:(j:Int)<(ps.length:Int):=oM
   have V:=jK8 (qF0 p) ([],false) ps j L;obtain⟨x,B,E⟩:∃ x B,(ps.take j).foldl (qF0 p) ([],false)=(x,B):=⟨_,_,rfl⟩;rw[E] at V F u |-;simp only at F u;have r:=zh V;have f:=zh u;have A:=zh hK;obtain⟨g,al,cap,cur,fr,hv,aw,M,af⟩:=(HS.keep0 (N.tr hK)).at oM;obtain⟨c0,c1⟩:=af j L;simp only[vJ,true_and] at hv;obtain⟨rfl,rfl⟩:=hv;have a0:=ξ M (al+j*2);rw[c0] at a0;have a1:=ξ M (al+j*2+1);rw[c1] at a1;have ax:=ζ M;obtain⟨q,Z⟩:=eY (ps[j]);rw[Z] at a0 a1;have s:=zh Z;clear V E u hK af c0 c1 M H Z
   cases B with
   | true=>
    by_cases a:q.k=p.k
    .have K:(q.k.toList == p.k.toList)=true:=by rw[qM2];simp[a]
     go_wp2;refine⟨⟨j+1,l,oM,by go_num,?_,rfl,?_,A.alloc _⟩,by simp[intOf];omega⟩
     .rw[r.out,s.out];simp[qF0,a]
     .rw[r.out,s.out];simp only[qF0,a,Bool.not_true,Bool.false_and,Bool.false_eq_true,if_false,if_true];exact f.alloc _
    .have K:(q.k.toList == p.k.toList)=false:=by rw[qM2];simp[a]
     have y:=(f.alloc (.cells #[.string q.k,.string q.v] 284)).alloc (.cells #[.string q.k,.string q.v] 284);obtain⟨n,C,z,m,h⟩:=y.app (wr.heap.size+1) q 124 oM (by
      have e:=υ (wr.alloc (.cells #[.string q.k,.string q.v] 284)) (.cells #[.string q.k,.string q.v] 284);simpa using e) sO
     have d:=zh (n2 m (((A.alloc _).alloc _).grown h (λk a=>Or.inr (f.low k a))));clear y m h
     go_wp2_with (at_builtin;((with_reducible refine qL9 ?_ ?_ z ?_);rfl;rfl))
     refine⟨⟨j+1,n,oM,by go_num,?_,rfl,?_,d.2⟩,by simp[intOf];omega⟩
     .rw[r.out,s.out];simp[qF0,a]
     .rw[r.out,s.out];simp only[qF0,a,Bool.not_true,Bool.false_and,Bool.false_eq_true,if_false];exact d.1
   | false=>
    cases hl:kl q.k p.k with
    | true=>
     have ap:Op.bytesLess q.k.toList p.k.toList=true:=hl;have a:¬q.k=p.k:=qI8 hl;have K:(q.k.toList == p.k.toList)=false:=by rw[qM2];simp[a]
     have y:=(f.alloc (.cells #[.string q.k,.string q.v] 284)).alloc (.cells #[.string q.k,.string q.v] 284);obtain⟨n,C,z,m,h⟩:=y.app (wr.heap.size+1) q 124 oM (by
      have e:=υ (wr.alloc (.cells #[.string q.k,.string q.v] 284)) (.cells #[.string q.k,.string q.v] 284);simpa using e) sO
     have d:=zh (n2 m (((A.alloc _).alloc _).grown h (λk a=>Or.inr (f.low k a))));clear y m h
     go_wp2_with (at_builtin;((with_reducible refine qL9 ?_ ?_ z ?_);rfl;rfl))
     refine⟨⟨j+1,n,oM,by go_num,?_,rfl,?_,d.2⟩,by simp[intOf];omega⟩
     .rw[r.out,s.out];simp[qF0,a,hl]
     .rw[r.out,s.out];simp only[qF0,a,hl,Bool.not_true,Bool.not_false,Bool.and_false,Bool.false_eq_true,if_false];exact d.1
    | false=>
     have ap:Op.bytesLess q.k.toList p.k.toList=false:=hl;have y:=(f.alloc (.cells #[.string q.k,.string q.v] 284)).alloc (.cells #[.string p.k,.string p.v] 284);obtain⟨n,C,z,m,h⟩:=y.app (wr.heap.size+1) p 124 oM (by
      have e:=υ (wr.alloc (.cells #[.string q.k,.string q.v] 284)) (.cells #[.string p.k,.string p.v] 284);simpa using e) sO
     have d:=zh (n2 m (((A.alloc _).alloc _).grown h (λk a=>Or.inr (f.low k a))));have T:=(h.block wr.heap.size sO (λe=>by
      have h1:=(World.ownsRow.lt f _ e.symm).2;omega)).trans (ρ _ (υ _ _))
     have a2:=d.out.2.size;have ay:=ζ T;have q0:=ξ T;clear y m h T;by_cases a:q.k=p.k
     .have K:(q.k.toList == p.k.toList)=true:=by rw[qM2];simp[a]
      have an:=zh a;clear a
      go_wp2_with (at_builtin;((with_reducible refine qL9 ?_ ?_ z ?_);rfl;rfl))
      have a:=an.out;refine⟨⟨j+1,n,oM,by go_num,?_,rfl,?_,d.2⟩,by simp[intOf];omega⟩
      .rw[r.out,s.out];simp[qF0,a,qO5]
      .rw[r.out,s.out];simp only[qF0,a,qO5,Bool.not_false,Bool.and_self,if_true];exact d.1
     .have K:(q.k.toList == p.k.toList)=false:=by rw[qM2];simp[a]
      obtain⟨v6,w6,aq,ae,ah⟩:=(d.1.alloc (.cells #[.string q.k,.string q.v] 284)).app C.heap.size q 124 sO (υ _ _) sO;have aa:=zh (n2 ae ((d.2.alloc _).grown ah (λk a=>Or.inr (d.1.low k a))));clear ae ah
      go_wp2_with (at_builtin;first | ((with_reducible refine qL9 ?_ ?_ z ?_);rfl;rfl) | ((with_reducible refine qL9 ?_ ?_ aq ?_);rfl;rfl))
      refine⟨⟨j+1,v6,oM,by go_num,?_,rfl,?_,aa.2⟩,by simp[intOf];omega⟩
      .rw[r.out,s.out];simp[qF0,a,hl]
      .rw[r.out,s.out];simp only[qF0,a,hl,Bool.not_false,Bool.and_self,if_true,if_false];exact aa.1
  .have ao:¬(j:Int)<(ps.length:Int):=oM
   have X:ps.take j=ps:=tL oM;rw[X] at u F |-;obtain⟨x,B,E⟩:∃ x B,ps.foldl (qF0 p) ([],false)=(x,B):=⟨_,_,rfl⟩;have G:=P.out;rw[E] at F u G |-;simp only at F u G;have f:=zh u;have A:=zh hK;have D:=hK.hp ab.out;have av:=ζ D
   cases B with
   | true=>
    have r0:=ϻ D 0;have f0:=ψ D 0;clear X u hK E H P;have Q:Hid (x=ins p ps):=by show _=_;simpa using G
    clear G;obtain⟨ob,oc,rfl⟩:=f.out.form;obtain⟨l,ai⟩:=eX (Value.slice ob x.length oc);have O:=zh ai;clear ai;go_wp2;rw[<-O.out] at f |-;have I:Kp [w.heap.size+1] wr (wr.setCell ⟨w.heap.size+1,0,none⟩ l):=kF.sc _;have R:Apt wr [w.heap.size+1] [284]:=λk a c t fr e Y=>by
     rw[mS a,D] at e;cases e
     revert Y;decide
    refine bodyPost_ret (v:=.agg #[l]) ?_ rfl ⟨l,rfl,?_,?_⟩
    .exact results_cell_row results193 _ _ (w.heap.size+1) 126 #[l] (0,0) _ rfl (μ D 0 _) underlying126 rfl kR
    .rw[<-Q.out];exact (f.sp).keep I R
    .exact (N.tr A).trans I (by intro i W L;simp at W;omega)
   | false=>
    obtain⟨n,C,z,m,h⟩:=(f.alloc (.cells #[.string p.k,.string p.v] 284)).app wr.heap.size p 124 oM (υ _ _) sO;have S:=(A.alloc _).grown h (λk a=>Or.inr (f.low k a));have d:=zh (n2 m S);have J:=S.hp ab.out;have au:=ζ J;have r0:=ϻ J 0;have f0:=ψ J 0;clear X u hK E H P m S h D;have Q:Hid (x++[p]=ins p ps):=by show _=_;simpa using G
    clear G;obtain⟨ob,oc,ag⟩:=d.out.1.form;rw[lA,List.length_singleton] at ag;subst ag;obtain⟨n,aj⟩:=eX (Value.slice ob (x.length+1) oc);have O:=zh aj;clear aj
    go_wp2_with (at_builtin;((with_reducible refine qL9 ?_ ?_ z ?_);rfl;rfl))
    rw[<-O.out] at d |-;have I:Kp [w.heap.size+1] C (C.setCell ⟨w.heap.size+1,0,none⟩ n):=kF.sc _;have R:Apt C [w.heap.size+1] [284]:=λk a c t fr e Y=>by
     rw[mS a,J] at e;cases e
     revert Y;decide
    refine bodyPost_ret (v:=.agg #[n]) ?_ rfl ⟨n,rfl,?_,?_⟩
    .exact results_cell_row results193 _ _ (w.heap.size+1) 126 #[n] (0,0) _ rfl (μ J 0 _) underlying126 rfl kR
    .rw[<-Q.out];exact (d.1.sp).keep I R
    .exact (N.tr d.2).trans I (by intro i W L;simp at W;omega)
end Go.Proofs.YtdohpenfkdckiaaGreatDoor
