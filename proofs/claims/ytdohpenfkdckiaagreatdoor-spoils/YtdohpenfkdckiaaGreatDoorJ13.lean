import Derived.Test.YtdohpenfkdckiaaGreatDoorJ10
import Derived.Test.YtdohpenfkdckiaaGreatDoorJ12
import Derived.Maps.OwnSet
import Derived.Lib.AppendStr
set_option linter.all false
set_option maxRecDepth 100000
set_option maxHeartbeats 20000000
namespace Go.Proofs.YtdohpenfkdckiaaGreatDoor
open Go.Proofs.Tryz
open Go.RowKit
theorem kM5(E)(r)(h)(g:Nat)(cap)(f:ByteArray->Bool)(w)(hd:E.Dev w)(X:RR E w h r)(hg:RGood r)(ad:Up f)(ha:Asks E w g cap f)
  (ao:∀ (args) (W),Sem.run prog (callFunc g args) W=.ok (.enter g args) W):
  Calls prog 49 #[τ E.V h,.func (.func g) #[] cap] w λe O=>e=.returned (qI1 (r.cont.find? λq=>f q.k))/\E.To w O:=by
 have d:=zh hd;have R:=zh X;have HG:=zh hg;have HA:=zh ha;have ak:=zh ad;clear hd X hg ha ad;rw[τ];go_enter func49,ntmps49;go_wp2_with fail;obtain⟨D,ae,F,A,G,ap⟩:=alC w (.cells (ϟ E.V h) 89) (.cells ϝ 42)
 rw[<-ae];clear ae;have u:=Env.To.of0 d G
 cases r with
 | none=>
  have hh:h=⟨⟨#[]⟩,0,0,none⟩:=R.out;have ab:Ω 92 #[τ E.V h] D λe O=>e=ϱ (.bool true)/\Kp [] D O:=by rw[hh];exact zE6 E.V D
  have ag:=zh ab;clear hh ab;refine (show Calls _ _ _ _ _ from ag).mono ?_;rintro e w1 ⟨rfl,b⟩;have B:=u.tail b;have c:=b.hp A;have am:=ζ c;have z0:=ξ c;have T:=ψ c;have Q:=zh c;clear c F A G b u;go_wp2;have m:=qR6 (.string ⟨#[]⟩) (.string ⟨#[]⟩) Q.out;have C:=B.store' oM Q dC m.2;have x:=ξ m.1 0;have y:=ξ m.1 1;simp only[zG,zH,zI] at x y;refine bodyPost_ret (v:=qI1 none) ?_ rfl ⟨rfl,C⟩;simp[results,results49,go_sem,x,y,qI1]
 | «at» n l=>
  have I:RL E.O n w h l:=R.out;obtain⟨g1,U,g3⟩:=HG.out;refine (qZ0 E n h l D (Env.RL I d u) g1).mono ?_;rintro e w1 ⟨rfl,b⟩;have B:=u.tail b;have V:=b.hp F;have c:=b.hp A;have ai:=zh (Env.RL I d B);have ah:=zh U;have an:1<=cnt n l.sub:=oM
  obtain⟨o,s,z,ac⟩:∃ o s z,qI1 ((cont n l.sub).find? λq=>f q.k)=.tuple #[.agg #[.string o,.string s],.bool z]:=by
   cases (cont n l.sub).find? λq=>f q.k with
   | none=>exact⟨_,_,_,rfl⟩
   | some p=>exact⟨_,_,_,rfl⟩
  have P:=zh ac;clear F A G u b ac I U;go_wp2_with fail;have j:=V;refine wp_region_held_drew (S:=λW=>Ϙ W w.heap.size (.cells (ϟ E.V h) 89)) kR j (λ_=>?_);refine zW 0 (.agg (ϟ E.V h)) j id ?_;refine zW 1 (.agg (ϟ E.V h)) j id ?_;refine zU 3 (.func (.func g) #[] cap) j ?_;refine zq 2 λK hK=>?_;go_simp;have N:=B.tail (kF.drew);refine (zC0 E n h l w1.drew N.dev (RL.keep ai ((Kp.refl [] _).drew) (Apt.nil _ _))).mono ?_;rintro e w2 ⟨q,rfl,al,a⟩;have M:=N.trans a;have J:=a.new (k:=w.heap.size) d oM j;have Y:=a.new (k:=w.heap.size+1) d oM c;refine zk hK J ?_
  clear a N j c V;refine zq 4 λK hK=>?_;go_simp;refine (jJ3 E g cap f ak ao n h l q w2 M.dev al ah an (HA.to M)).mono ?_;rintro e w3 ⟨rfl,a⟩;rw[P.out];have C:=M.trans a;have t:=a.new (k:=w.heap.size) d oM J;have i:=a.new (k:=w.heap.size+1) d oM Y;refine zk hK t ?_
  clear a J Y;refine zU 5 (.agg #[.string o,.string s]) t ?_;refine zU 6 (.bool z) t ?_;have am:=ζ i;have z0:=ξ i;have T:=ψ i;refine zq 7 λK hK=>?_;go_simp;have m:=qR6 (.string o) (.string s) i;obtain⟨w4,af,Z,H⟩:=gE m;rw[<-af];clear af m z0 T;have aa:=C.store' oM i dC H;have L:=H.hp t;refine zk hK L ?_
  refine zq 8 λK hK=>?_;go_simp;refine zk hK L ?_
  refine zd ?_;have aj:=zh aa;clear L t aa C H i;go_wp2;have x:=ξ Z 0;have y:=ξ Z 1;simp only[zG,zH,zI] at x y;refine bodyPost_ret (v:=.tuple #[.agg #[.string o,.string s],.bool z]) ?_ rfl ⟨?_,aj⟩
  .simp[results,results49,go_sem,x,y]
  .rw[show (Root.at n l).cont=cont n l.sub from rfl,P.out]
structure Tx where
 St:Nat
 nr:Int
 wrt:Bool
 over:Bool
 on:Option Addr
 h:HL
 ch:Int
def qA5(t:Tx):Obj:=
 .cells #[.pointer (some ⟨t.St,0,none⟩),.int .u64 t.nr,.bool t.wrt,.bool t.over,.pointer t.on,.string t.h.key,.int .i64 t.h.b,.int .u64 t.h.s,.pointer t.h.ptr,.int .u64 t.ch] 99
theorem jB9(args)(W):Sem.run prog (callFunc 90 args) W=.ok (.enter 90 args) W:=by
 simp[go_sem,func90]
theorem jM6(S F x f:Nat)(t)(first cap)(w)(R:Option Int->World->Prop)(d:w.heap[S]?=some (.cells #[.pointer (some ⟨x,0,none⟩)] 32))(b:w.heap[F]?=some (.cells #[.func (.func f) first cap] 1))(h:w.heap[x]?=some (qA5 t))(l:t.over=false)
  (o:∀ W:World,Sem.run prog (callFunc f (first++cap)) W=.ok (.enter f (first++cap)) W)
  (g:Calls prog f (first++cap) w λe a=>∃ k,e=qB7 k/\R k a):
  Calls prog 90 #[.pointer (some ⟨S,0,none⟩),.pointer (some ⟨F,0,none⟩)] w λe a=>∃ k,e=qB7 k/\R k a:=by
 have n:=ξ d 0;have j:=ξ b 0;have m:=ξ h 3;simp[l] at n j m;clear d b h;have i:=zh g;clear g;go_enter func90,ntmps90;go_wp2_with fail;refine (show Calls _ _ _ _ _ from i).mono ?_;rintro e p ⟨k,rfl,c⟩
 cases k with
 | none=>
  simp only[qB7];go_wp2
  go_end0
  exact⟨none,rfl,c⟩
 | some k=>
  simp only[qB7];go_wp2;exact⟨rfl,some k,rfl,c⟩
theorem jM7(S F x:Nat)(t)(w)(a:w.heap[S]?=some (.cells #[.pointer (some ⟨x,0,none⟩)] 32))(b:w.heap[x]?=some (qA5 t))(c:t.over=true):
  Calls prog 90 #[.pointer (some ⟨S,0,none⟩),.pointer (some ⟨F,0,none⟩)] w λe g=>e=qB7 (some 5)/\g=w:=by
 have f:=ξ a 0;have d:=ξ b 3;simp[c] at f d;clear a b;go_enter func90,ntmps90;go_wp2;exact⟨rfl,rfl,rfl,rfl⟩
theorem xE5(x St f:Nat)(t)(s)(first cap)(call)(X)(Q:Option Int->Sto->World->World->Prop)(w)(C:w.heap[x]?=some (qA5 t))(P:t.St=St)(o:w.heap[St]?=some (ν 0 s))(u:s.po=false)(r:∀ i,i∈X->i<w.heap.size)
  (A:∀ W:World,Kp [St] w W->W.heap[St]?=some (ν 1 s)->W.heap[w.heap.size]?=some (.cells #[.pointer (some ⟨x,0,none⟩)] 32)->W.heap[w.heap.size+1]?=some (.cells #[.func (.func f) first cap] 1)->Calls prog 90 #[.pointer (some ⟨w.heap.size,0,none⟩),.pointer (some ⟨w.heap.size+1,0,none⟩)] W λe a=>∃ k b,k≠some 8/\e=qB7 k/\Q k b W a/\Kp (St::X) W a/\a.heap[St]?=some (ν 1 b)):
  Calls prog 45 #[.pointer (some ⟨x,0,none⟩),.string call,.func (.func f) first cap] w λe g=>∃ k b v,e=.returned v/\ErrV g v k/\g.heap[St]?=some (ν 0 b)/\Kp (St::X) w g/\∃ W a B,Q k b W a/\Kp [St] w W/\w.heap.size<=B/\B<W.heap.size/\a.heap[B]?=some (.cells #[.nilIface] 38)/\Kp [St,B] a g/\a.heap[St]?=some (ν 1 b):=by
 have T:=zM;have F:=zh u;clear u;have S:=ζ o;have V:=ζ C;subst P;have G:=ξ (ρ (.cells #[.func (Fn.func f) first cap] 1) (ρ (.cells #[ϖ x] 32) C)) 0;simp only[zG,zH] at G;obtain⟨c,q,d,U,H,K⟩:∃ c,c=(w.alloc (.cells #[ϖ x] 32)).alloc (.cells #[.func (Fn.func f) first cap] 1)/\Kp [] w c/\c.heap.size=w.heap.size+2/\Ϙ c w.heap.size (.cells #[ϖ x] 32)/\c.heap[w.heap.size+1]?=some (.cells #[.func (Fn.func f) first cap] 1):=by
  refine⟨_,rfl,(kF.alloc _).alloc _,sM,ρ _ (υ _ _),?_⟩;have e:=υ (w.alloc (.cells #[ϖ x] 32)) (.cells #[.func (Fn.func f) first cap] 1);simpa using e
 have l:Hid (Ω 64 #[ϖ t.St,.string call,.func (.func 90) #[] #[ϖ w.heap.size,ϖ (w.heap.size+1)]] c _):=zW4 t.St 90 s #[] #[ϖ w.heap.size,ϖ (w.heap.size+1)] call X Q c (d.hp o) F (jB9 _) (λi O=>by have:=r i O;omega) λW hK N=>
  A W ((d.mono (S':=[t.St]) sM).trans hK (λ_ h _=>h)) N (hK.ho H) (hK.ho K)
 clear A r;go_enter func45,ntmps45;go_wp2_with fail;rw[<-q];clear q;refine (show Calls _ _ _ _ _ from l).mono ?_;rintro e j ⟨k,b,v,rfl,z,p,L,W,a,B,n,M,R,I,J,m,y⟩;have E:Hid (∃ k b D,Ending.returned v=ϱ D/\ErrV j D k/\Ϙ j t.St (ν 0 b)/\Kp (t.St::X) w j/\∃ W a B,Q k b W a/\Kp [t.St] w W/\w.heap.size<=B/\B<W.heap.size/\Ϙ a B (.cells #[.nilIface] 38)/\Kp [t.St,B] a j/\Ϙ a t.St (ν 1 b)):=
  ⟨k,b,v,rfl,z,p,(d.mono (S':=t.St::X) sM).trans L (λ_ h _=>h),W,a,B,n,(d.mono (S':=[t.St]) sM).trans M (λ_ h _=>h),oM,I,J,m,y⟩
 clear z n m p y l;go_wp2;go_ret;exact E
theorem xE6(x St f:Nat)(t)(s)(first cap)(call)(X)(Q:Option Int->Sto->World->World->Prop)(w)(j:w.heap[x]?=some (qA5 t))(u:t.over=false)(z:t.St=St)(o:w.heap[St]?=some (ν 0 s))(y:s.po=false)(r:x≠St)
  (q:∀ W:World,Sem.run prog (callFunc f (first++cap)) W=.ok (.enter f (first++cap)) W) (p:∀ i,i∈X->i<w.heap.size)
  (A:∀ W:World,Kp [St] w W->W.heap[St]?=some (ν 1 s)->Calls prog f (first++cap) W λe a=>∃ k b,k≠some 8/\e=qB7 k/\Q k b W a/\Kp (St::X) W a/\a.heap[St]?=some (ν 1 b)):
  Calls prog 45 #[.pointer (some ⟨x,0,none⟩),.string call,.func (.func f) first cap] w λe c=>∃ k b v,e=.returned v/\ErrV c v k/\c.heap[St]?=some (ν 0 b)/\Kp (St::X) w c/\∃ W a B,Q k b W a/\Kp [St] w W/\w.heap.size<=B/\B<W.heap.size/\a.heap[B]?=some (.cells #[.nilIface] 38)/\Kp [St,B] a c/\a.heap[St]?=some (ν 1 b):=
 xE5 x St f t s first cap call X Q w j z o y p λW hK n l m=>
  (jM6 _ _ x f t first cap W (λk a=>∃ b,k≠some 8/\Q k b W a/\Kp (St::X) W a/\Ϙ a St (ν 1 b)) l m (hK.heap j (by simp;exact r)) u q ((A W hK n).mono λe a ⟨k,b,d,g,h⟩=>⟨k,g,b,d,h⟩)).mono λe a ⟨k,g,b,d,h⟩=>⟨k,b,d,g,h⟩
theorem qT4(k:Option Int)(n:k≠some 8)(x St f:Nat)(t)(s s')(first cap)(call)(X)(Q:World->World->Prop)(w)(y:w.heap[x]?=some (qA5 t))(p:t.over=false)(r:t.St=St)(j:w.heap[St]?=some (ν 0 s))(q:s.po=false)(o:x≠St)
  (m:∀ W:World,Sem.run prog (callFunc f (first++cap)) W=.ok (.enter f (first++cap)) W) (l:∀ i,i∈X->i<w.heap.size)
  (u:∀ W:World,Kp [St] w W->W.heap[St]?=some (ν 1 s)->Calls prog f (first++cap) W λe a=>e=qB7 k/\Q W a/\Kp (St::X) W a/\a.heap[St]?=some (ν 1 s')):
  Calls prog 45 #[.pointer (some ⟨x,0,none⟩),.string call,.func (.func f) first cap] w λe b=>∃ v,e=.returned v/\ErrV b v k/\b.heap[St]?=some (ν 0 s')/\Kp (St::X) w b/\∃ W a B,Q W a/\Kp [St] w W/\w.heap.size<=B/\B<W.heap.size/\a.heap[B]?=some (.cells #[.nilIface] 38)/\Kp [St,B] a b:=by
 refine (xE6 x St f t s first cap call X (λz t W a=>z=k/\t=s'/\Q W a) w y p r j q o m l λW h1 h2=>(u W h1 h2).mono ?_).mono ?_
 .rintro e a ⟨c,d,g,h⟩;exact⟨k,s',n,c,⟨rfl,rfl,d⟩,g,h⟩
 .rintro e b ⟨_,_,v,c,d,g,h,W,a,B,⟨rfl,rfl,e5⟩,e6,e7,e8,e9,e10,_⟩;exact⟨v,c,d,g,h,W,a,B,e5,e6,e7,e8,e9,e10⟩
theorem qZ6(x St f:Nat)(t)(s)(first cap)(call)(w)(b:w.heap[x]?=some (qA5 t))(i:t.over=true)(l:t.St=St)(d:w.heap[St]?=some (ν 0 s))(j:s.po=false)(g:x≠St):
  Calls prog 45 #[.pointer (some ⟨x,0,none⟩),.string call,.func (.func f) first cap] w λe a=>∃ v,e=.returned v/\ErrV a v (some 5)/\a.heap[St]?=some (ν 0 s)/\Kp [St] w a:=
 (xE5 x St f t s first cap call [] (λk c _ _=>k=some 5/\c=s) w b l d j sM λW hK hS hB hF=>
  (jM7 _ _ x t W hB (hK.heap b (by simp;exact g)) i).mono λe m h=>⟨some 5,s,dC,h.1,⟨rfl,rfl⟩,by rw[h.2];exact Kp.refl _ _,by rw[h.2];exact hS⟩).mono λe a ⟨k,c,v,h1,h2,h3,h4,_,_,_,⟨e1,e2⟩,_⟩=>⟨v,h1,by rw[<-e1];exact h2,by rw[<-e2];exact h3,h4⟩
open Go.Maps (Keyed)
open Go.ChangeMaps
theorem zW9(V:Nat)(b s:Int)(w):
  Calls prog 110 #[.pointer (some ⟨V,0,none⟩),.agg #[.int .i64 b,.int .u64 s]] w λe a=>e=.returned (τ V ⟨⟨#[]⟩,b,s,none⟩)/\Kp [] w a:=by
 go_enter func110,ntmps110;go_wp2;refine bodyPost_ret (results_cell_row results110 _ _ (w.heap.size+1) 89 #[ϖ V,.string ⟨#[]⟩,ϊ b,.int .u64 s,.pointer none] (0,0) _ rfl ?_ underlying89 rfl kR) rfl ⟨rfl,(kF.alloc _).alloc _⟩;have e:=υ (w.alloc (.cells #[ϊ b,.int .u64 s] 84)) (.cells #[ϖ V,.string ⟨#[]⟩,ϊ b,.int .u64 s,.pointer none] 89);simpa using e
theorem zA8(St:Nat)(u:Int)(s)(w)(l:w.heap[St]?=some (ν u s)):
  Calls prog 66 #[.pointer (some ⟨St,0,none⟩)] w λe D=>e=.returned (τ s.V ⟨⟨#[]⟩,s.rb,s.rs,none⟩)/\Kp [] w D:=by
 have G:=ζ l;have x:=zh l;clear l;go_enter func66,ntmps66;go_wp2_with fail;obtain⟨m,r,o,h⟩:=alA w (.cells ϛ 89);rw[<-r];clear r;have a:=h.hp x.out;refine wp_region_held_drew (S:=λW=>Ϙ W St (ν u s)) kR a (λ_=>?_);refine zP 0 St 0 a ?_;refine zP 1 St 0 a ?_;refine zP 2 St 2 a ?_;refine zV 3 (ϖ s.V) rfl (λW b=>by have c:=ξ b 2;simp only[ν,zG,zH,zI] at c;clear b;go_simp) a ?_;refine zP 4 St 0 a ?_;refine zP 5 St 0 a ?_;refine zP 6 St 3 a ?_;refine zP 7 St 4 a ?_;refine zV 8 (.agg #[ϊ s.rb,.int .u64 s.rs]) rfl (λW b=>by have c:=ξ b 4;have d:=ξ b 5;simp only[ν,zG,zH,zI] at c d;clear b;go_simp) a ?_;refine zq 9 λK hK=>?_;go_simp;refine (zW9 s.V s.rb s.rs m.drew).mono ?_;rintro e E ⟨rfl,n⟩;have g:Kp [] m E:=((Kp.refl _ m).drew).tr n;have k:=g.hp a;have f:=g.hp o;have F:=ζ f;refine hK.out _ _ k (λ_=>?_);clear hK K n
 try simp only[zZ]
 have C:=ξ f;have y:=ψ f;refine zq 10 λK hK=>?_;rw[τ];go_simp;have q:=qM7 (ϖ s.V) (.string ⟨#[]⟩) (ϊ s.rb) (.int .u64 s.rs) (.pointer none) f;obtain⟨I,t,z,j⟩:=gE q;have B:HL.ptr ⟨⟨#[]⟩,s.rb,s.rs,none⟩=none:=rfl
 try simp only[B]
 rw[<-t];clear t q C y;have p:=j.ho k;refine hK.out _ _ p (λ_=>?_);refine zd ?_;have v:=zh ((h.tr g).trans j (by intro i A H;simp at A;omega));clear p k a f j g h o;go_wp2;exact bodyPost_ret (results_cell_row results66 _ _ (w.heap.size) 89 #[ϖ s.V,.string ⟨#[]⟩,ϊ s.rb,.int .u64 s.rs,.pointer none] (0,0) _ rfl z underlying89 rfl kR) rfl ⟨rfl,v⟩
def qV1(V:Nat):Value→Option (DataW Unit × List MemPlace)
 | .agg c=>match c.toList with
  | [.pointer (some a),.string k,.int .i64 x,.int .u64 y,.pointer none]=>if a.block=V∧a.off=0∧a.spot=none then some (.agg [.lit (.string k.data.toList),.lit (.int .i64 x),.lit (.int .u64 y)],[]) else none
  | _=>none
 | _=>none
def RM(w:World)(V M n:Nat)(D:DataW Unit):Prop:=w.ownsMap prog 78 (qV1 V) M n D
theorem qM3:Keyed prog 78:=Maps.int_keyed underlying78
theorem RM.kp{S}{w w'}{V M n:Nat}{D}(h:RM w V M n D)(hK:Kp S w w')(c:M ∉ S):RM w' V M n D:=by
 obtain⟨b,a,d,e⟩:=h;exact⟨b,a,hK.heap d c,e⟩
theorem Kp.turned{w w'}{M:Nat}(h:w.mapTurned w' M):Kp [M] w w':=
 (Kp.refl [M] w).grown h.grown (λk a=>by cases a;exact .inl sM)
theorem zA5:prog.underlying 167=some (.map 78 89):=underlying167
def ι(n:Int):Lit:=.int .u64 n
theorem xG2{n:Int}(a:0<=n)(b:n<=1000000000):keyOf prog 78 (.int .u64 n)=some (ι n):=
 Maps.keyOf_int_mk underlying78 (by simp[Lit.wf,IntKind.min,IntKind.max,IntKind.signed,IntKind.bits];omega)
theorem RM.len{w}{V M n:Nat}{D}(h:RM w V M n D)(ty):(Builtin.len_ #[167] ty #[.map (some M)]).run prog w=.ok (.int .i64 (Maps.size D)) w:=
 World.ownsMap.len h zA5 ty
theorem RM.drop{w}{V M n:Nat}{D}(h:RM w V M n D){x:Int}(c:0<=x)(b:x<=1000000000)(ty):
  ∃ a,(Builtin.delete_ #[167,78] ty #[.map (some M),.int .u64 x]).run prog w=.ok (.tuple #[]) a/\RM a V M n (D.del (ι x))/\Kp [M] w a:=by
 obtain⟨a,b,d,e⟩:=World.ownsMap.drop h qM3 zA5 (xG2 c b) ty;exact⟨a,b,d,Kp.turned e⟩
def qG2(h:HL):DataW Unit:=.agg [.lit (.string h.key.data.toList),.lit (.int .i64 h.b),.lit (.int .u64 h.s)]
theorem RM.store{w}{V M n:Nat}{D}(h:RM w V M n D){x:Int}(c:0<=x)(b:x<=1000000000)(j:n<=1000000000)(r)(g:r.p=none):
  ∃ a,(Instr.mapUpdate 167 (.map (some M)) (.int .u64 x) (τ V r)).run prog w=.ok () a/\RM a V M (n+1) (D.put (ι x) (qG2 r))/\Kp [M] w a:=by
 have i:qV1 V (τ V r)=some (qG2 r,[]):=by
  have f:r.ptr=none:=by simp[HL.ptr,g]
  rw[τ,f];simp[qV1,qG2]
 obtain⟨a,b,d,e⟩:=World.ownsMap.store h qM3 zA5 (by simp[maxLen];omega) (xG2 c b) i;exact⟨a,b,d,Kp.turned e⟩
def Sto.wrote(s:Sto):Sto:={ s with bg:=s.bg+1,wr:=s.bg+1 }
def Sto.read(s:Sto):Sto:={ s with bg:=s.bg+1 }
def Sto.left(s:Sto)(nr:Int):Sto:={ s with wr:=if nr=s.wr then 0 else s.wr }
theorem jH0(St:Nat)(s)(w)(a:w.heap[St]?=some (ν 1 s))(f:s.wr=0)(i:0<=s.bg)(j:s.bg<=100000000):
  Calls prog 67 #[.pointer (some ⟨St,0,none⟩),.bool true] w λe c=>e=.returned (.int .u64 (s.bg+1))/\c.heap[St]?=some (ν 1 s.wrote)/\Kp [St] w c:=by
 have k:=ζ a;have g:=ξ a 8;have b:=ξ a 9;simp only[ν,zG,zH,zI] at g b;have h:=ψ a;rw[f] at b;have d:=zh a;clear a;go_enter func67,ntmps67;go_wp2;go_ret;exact⟨rfl,μ (μ d 8 _) 9 _,(kF.sc _).sc _⟩
theorem jG8(St:Nat)(s)(w)(a:w.heap[St]?=some (ν 1 s))(f:s.wr≠0):
  Calls prog 67 #[.pointer (some ⟨St,0,none⟩),.bool true] w λe c=>e=qB7 (some 4)/\c=w:=by
 have d:=ζ a;have b:=ξ a 9;simp only[ν,zG,zH,zI] at b;clear a;go_enter func67,ntmps67;go_wp2;exact⟨rfl,rfl,rfl,rfl⟩
theorem jG7(St n:Nat)(s)(D)(w)(a:w.heap[St]?=some (ν 1 s))(c:RM w s.V s.M n D)(b:Maps.size D=4):
  Calls prog 67 #[.pointer (some ⟨St,0,none⟩),.bool false] w λe g=>e=qB7 (some 4)/\g=w:=by
 have h:=ζ a;have f:=ξ a 10;simp only[ν,zG,zH,zI] at f;have d:=c.len 3;rw[b] at d;clear a c b;go_enter func67,ntmps67;go_wp2;exact⟨rfl,rfl,rfl,rfl⟩
theorem jG9(St n:Nat)(s)(D)(w)(d:w.heap[St]?=some (ν 1 s))(l:RM w s.V s.M n D)(F:Maps.size D<4)(V:n<=100000000)(O:0<=s.bg)(P:s.bg<=100000000)(y:s.M≠St):
  Calls prog 67 #[.pointer (some ⟨St,0,none⟩),.bool false] w λe p=>e=.returned (.int .u64 (s.bg+1))/\p.heap[St]?=some (ν 1 s.read)/\RM p s.V s.M (n+1) (D.put (ι (s.bg+1)) (qG2 ⟨⟨#[]⟩,s.rb,s.rs,none⟩))/\Kp [St,s.M] w p:=by
 have T:=ζ d;have J:=ξ d 8;have I:=ξ d 10;simp only[ν,zG,zH,zI] at J I;have N:=ψ d 8;have U:=l.len 3;have Q:¬((Maps.size D:Nat):Int)=4:=oM
 have B:=zh l;have q:=zh y;have C:=zh d;clear d l F y;go_enter func67,ntmps67;go_wp2_with fail;obtain⟨b,A,a,j⟩:∃ b,b=w.setCell ⟨St,8,none⟩ (.int .u64 (s.bg+1))/\Ϙ b St (ν 1 s.read)/\Kp [St] w b:=⟨_,rfl,μ C 8 _,kF.sc _⟩;rw[<-A];clear A;have m:=B.out.kp j (by simp;exact q);have G:=m;refine wp_region_held_drew (S:=λW=>Ϙ W St (ν 1 s.read)) kR a (λ_=>?_);refine zP 0 St 0 a ?_;refine zP 1 St 0 a ?_;refine zP 2 St 10 a ?_;refine zV 3 (.map (some s.M)) rfl (λW f=>by have c:=ξ f 10;simp only[ν,Sto.read,zG,zH,zI] at c;clear f;go_simp) a ?_;refine zP 4 St 0 a ?_;refine zP 5 St 0 a ?_;refine zP 6 St 8 a ?_;refine zV 7 (.int .u64 (s.bg+1)) rfl (λW f=>by have c:=ξ f 8;simp only[ν,Sto.read,zG,zH,zI] at c;clear f;go_simp) a ?_;refine zP 8 St 0 a ?_;refine zq 9 λK hK=>?_;go_simp;refine (zA8 St 1 s.read b.drew a).mono ?_;rintro e M ⟨rfl,t⟩;have i:Kp [] b M:=((Kp.refl _ b).drew).tr t;have o:=i.hp a;have u:=m.kp i sM;refine hK.out _ _ o (λ_=>?_);clear hK K t
 try simp only[zZ]
 obtain⟨X,z,v,k⟩:=u.store (x:=s.bg+1) oM oM oM ⟨⟨#[]⟩,s.rb,s.rs,none⟩ rfl;have g:=k.heap o (by simp;exact λh=>q h.symm);refine zq 10 λK hK=>?_;have H:τ s.read.V ⟨⟨#[]⟩,s.read.rb,s.read.rs,none⟩=τ s.V ⟨⟨#[]⟩,s.rb,s.rs,none⟩:=rfl;rw[H];rw[τ] at z |-;go_simp;refine hK.out _ _ g (λ_=>?_);refine zd ?_;have r:=zh (n2 v (((j.mono (S':=[St,s.M]) (by simp +contextual)).tr i).trans k (by simp +contextual)));have E:=zh g;have R:=ζ g;have L:=ξ g 8;simp only[ν,Sto.read,zG,zH,zI] at L;clear g o a v u m G k i j z;go_wp2;go_ret;exact⟨rfl,E,r.1,r.2⟩
theorem jS5(St n:Nat)(s)(a:Int)(D)(w)(b:w.heap[St]?=some (ν 1 s))(j:RM w s.V s.M n D)(t:0<=a)(u:a<=1000000000)(g:s.M≠St):
  Calls prog 111 #[.pointer (some ⟨St,0,none⟩),.int .u64 a] w λe r=>e=.returned (.tuple #[])/\r.heap[St]?=some (ν 1 (s.left a))/\RM r s.V s.M n (D.del (ι a))/\Kp [St,s.M] w r:=by
 have B:=ζ b;by_cases i:a=s.wr
 .obtain⟨l,y,p,o⟩:∃ l,l=w.setCell ⟨St,9,none⟩ (.int .u64 0)/\Ϙ l St (ν 1 (s.left a))/\Kp [St] w l:=⟨_,rfl,by rw[Sto.left,if_pos i];exact μ b 9 _,kF.sc _⟩;have v:=j.kp o (by simp;exact g);obtain⟨d,x,f,c⟩:=v.drop t u 0;have m:Hid (Ϙ d St (ν 1 (s.left a))/\RM d s.V s.M n (D.del (ι a))/\Kp [St,s.M] w d):=⟨c.heap p (by simp;exact λh=>g h.symm),f,(o.mono (by simp +contextual)).trans c (by simp +contextual)⟩;have k:=ξ b 9;have q:=ξ b 10;simp only[ν,zG,zH,zI] at k q;have z:=ξ p 10;simp only[ν,Sto.left,zG,zH,zI] at z;have A:=ψ b 9;rw[y] at z x;rw[<-i] at k;clear b j p v f o c g y i;go_enter func111,ntmps111;go_wp2
  go_end0
  exact⟨rfl,m⟩
 .obtain⟨d,x,f,c⟩:=j.drop t u 0;have m:Hid (Ϙ d St (ν 1 (s.left a))/\RM d s.V s.M n (D.del (ι a))/\Kp [St,s.M] w d):=⟨by rw[Sto.left,if_neg i];exact c.heap b (by simp;exact λh=>g h.symm),f,c.mono (by simp +contextual)⟩;have k:=ξ b 9;have q:=ξ b 10;simp only[ν,zG,zH,zI] at k q;have C:(a == s.wr)=false:=by simp[i]
  clear b j f c g;go_enter func111,ntmps111;go_wp2
  go_end0
  exact⟨rfl,m⟩
theorem xY6(X B T g St:Nat)(j:Bool)(s s')(u:Int)(L)(R:World->Prop)(w)(Z:w.heap[X]?=some (.cells #[.pointer (some ⟨g,0,none⟩)] 28))(E:w.heap[B]?=some (.cells #[.bool j] 4))(Q:w.heap[T]?=some (.cells #[.pointer none] 32))
  (F:w.heap[g]?=some (.cells #[.pointer (some ⟨St,0,none⟩)] 102)) (O:w.heap[St]?=some (ν 1 s))
  (I:X ∉ St::L/\B ∉ St::L/\g ∉ St::L/\T ∉ St::L) (aa:T≠X/\T≠B/\T≠g/\T≠St)
  (G:∀ W:World,Kp [] w W->Calls prog 67 #[.pointer (some ⟨St,0,none⟩),.bool j] W λe l=>e=.returned (.int .u64 u)/\l.heap[St]?=some (ν 1 s')/\R l/\Kp (St::L) W l)
  (J:∀ a b:World,R a->Kp [T] a b->R b):
  Calls prog 65 #[.pointer (some ⟨X,0,none⟩),.pointer (some ⟨B,0,none⟩),.pointer (some ⟨T,0,none⟩)] w λe l=>e=qB7 none/\(∃ x,w.heap.size<=x/\l.heap[x]?=some (qA5 ⟨St,u,j,false,some ⟨s.V,0,none⟩,⟨⟨#[]⟩,s.rb,s.rs,none⟩,0⟩)/\l.heap[T]?=some (.cells #[.pointer (some ⟨x,0,none⟩)] 32))/\R l/\Kp (St::T::L) w l/\l.heap[St]?=some (ν 1 s'):=by
 have C:=zh aa;have HL:=zh I;have HE:=zh G;have D:=zh J;clear aa I G J;have af:=ζ Q;go_enter func65,ntmps65;go_wp2_with fail;have f:=n3 Z E F;refine wp_region_held_drew (S:=λW=>Ϙ W X (.cells #[ϖ g] 28)/\Ϙ W B (.cells #[.bool j] 4)/\Ϙ W g (.cells #[ϖ St] 102)) kR f (λ_=>?_);refine zV 0 (ϖ g) rfl (λW d=>by have c:=ξ d.1 0;simp at c;clear d;go_simp) f ?_;refine zP 1 g 0 f ?_;refine zP 2 g 0 f ?_;refine zV 3 (ϖ St) rfl (λW d=>by have c:=ξ d.2.2 0;simp at c;clear d;go_simp) f ?_;refine zV 4 (.bool j) rfl (λW d=>by have c:=ξ d.2.1 0;simp at c;clear d;go_simp) f ?_;refine zV 5 (ϖ g) rfl (λW d=>by have c:=ξ d.1 0;simp at c;clear d;go_simp) f ?_;refine zP 6 g 0 f ?_;refine zP 7 g 0 f ?_;refine zV 8 (ϖ St) rfl (λW d=>by have c:=ξ d.2.2 0;simp at c;clear d;go_simp) f ?_;refine zV 10 (ϖ g) rfl (λW d=>by have c:=ξ d.1 0;simp at c;clear d;go_simp) f ?_;refine zP 11 g 0 f ?_;refine zP 12 g 0 f ?_;refine zV 13 (ϖ St) rfl (λW d=>by have c:=ξ d.2.2 0;simp at c;clear d;go_simp) f ?_;refine zV 14 (.bool j) rfl (λW d=>by have c:=ξ d.2.1 0;simp at c;clear d;go_simp) f ?_;refine zq 9 λK hK=>?_;go_simp;refine (zA8 St 1 s w.drew O).mono ?_;rintro e w1 ⟨rfl,H⟩;have k:Kp [] w w1:=((Kp.refl _ w).drew).tr H;have v:=And.intro (k.hp Z) (And.intro (k.hp E) (k.hp F));have ae:=k.hp O;have U:=k.hp Q;refine hK.out _ _ v (λ_=>?_);clear hK K H
 try simp only[zZ]
 refine zq 15 λK hK=>?_;go_simp;refine (HE w1 k).mono ?_;rintro e q ⟨rfl,P,M,p⟩;have t:=And.intro (p.heap v.1 HL.1) (And.intro (p.heap v.2.1 HL.2.1) (p.heap v.2.2 HL.2.2.1));have V:=p.heap U HL.2.2.2;refine hK.out _ _ t (λ_=>?_);clear hK K v U ae f
 try simp only[zZ]
 refine zV 16 (.agg #[ϖ St,.int .u64 u,.bool j,.bool false,ϖ s.V,.string ⟨#[]⟩,ϊ s.rb,.int .u64 s.rs,.pointer none,.int .u64 0]) rfl (λW d=>by clear d;rw[τ];go_simp;rfl) t ?_;refine zq 17 λK hK=>?_;go_simp;obtain⟨r,ab,ad,n,aj⟩:∃ r,r=q.alloc (.cells #[ϖ St,.int .u64 u,.bool j,.bool false,ϖ s.V,.string ⟨#[]⟩,ϊ s.rb,.int .u64 s.rs,.pointer none,.int .u64 0] 99)/\Ϙ r q.heap.size (qA5 ⟨St,u,j,false,some ⟨s.V,0,none⟩,⟨⟨#[]⟩,s.rb,s.rs,none⟩,0⟩)/\Kp [] q r/\r.heap.size=q.heap.size+1:=
  ⟨_,rfl,υ _ _,kF.alloc _,sM⟩
 rw[<-ab];clear ab;have y:=And.intro (n.hp t.1) (And.intro (n.hp t.2.1) (n.hp t.2.2));have z:=n.hp V;refine hK.out _ _ y (λ_=>?_);clear hK K t V
 try simp only[zZ]
 refine zq 18 λK hK=>?_;have t0:=ϻ z 0;have f0:=ψ z 0;have ag:=ζ z;go_simp;obtain⟨m,ac,Y,o⟩:∃ m,m=r.setCell ⟨T,0,none⟩ (ϖ q.heap.size)/\Ϙ m T (.cells #[ϖ q.heap.size] 32)/\Kp [T] r m:=⟨_,rfl,μ z 0 _,kF.sc _⟩;rw[<-ac];clear ac;have N:=And.intro (o.heap y.1 (by simp;exact λh=>C.1 h.symm)) (And.intro (o.heap y.2.1 (by simp;exact λh=>C.2.1 h.symm)) (o.heap y.2.2 (by simp;exact λh=>C.2.2.1 h.symm)));refine hK.out _ _ N (λ_=>?_);refine zd ?_;have ai:=p.size;have ah:=k.size;have HF:Hid ((∃ x,w.heap.size<=x/\Ϙ m x (qA5 ⟨St,u,j,false,some ⟨s.V,0,none⟩,⟨⟨#[]⟩,s.rb,s.rs,none⟩,0⟩)/\Ϙ m T (.cells #[ϖ x] 32))/\R m/\Kp (St::T::L) w m/\Ϙ m St (ν 1 s')):=
  ⟨⟨q.heap.size,oM,o.ho ad,Y⟩,D _ _ (D _ _ M (n.mono sM)) o,
   (((k.mono (S':=St::T::L) sM).trans p (by intro i A _;simp at A |-;rcases A with h | h<;>simp[h])).tr n).trans o (by intro i A _;simp at A;simp[A]),
   o.heap (n.hp P) (by simp;exact λh=>C.2.2.2 h.symm)⟩
 clear N y Y z ad o n p k M P t0 f0;go_wp2
 go_end0
 exact⟨rfl,HF⟩
theorem xY5(X B T d St:Nat)(g:Bool)(s)(w)(n:w.heap[X]?=some (.cells #[.pointer (some ⟨d,0,none⟩)] 28))(i:w.heap[B]?=some (.cells #[.bool g] 4))(r:w.heap[T]?=some (.cells #[.pointer none] 32))
  (j:w.heap[d]?=some (.cells #[.pointer (some ⟨St,0,none⟩)] 102)) (m:w.heap[St]?=some (ν 1 s))
  (k:∀ W:World,Kp [] w W->Calls prog 67 #[.pointer (some ⟨St,0,none⟩),.bool g] W λe h=>e=qB7 (some 4)/\h=W):
  Calls prog 65 #[.pointer (some ⟨X,0,none⟩),.pointer (some ⟨B,0,none⟩),.pointer (some ⟨T,0,none⟩)] w λe h=>e=qB7 (some 4)/\Kp [] w h:=by
 have p:=zh k;clear k;go_enter func65,ntmps65;go_wp2_with fail;have b:=n3 n i j;refine wp_region_held_drew (S:=λW=>Ϙ W X (.cells #[ϖ d] 28)/\Ϙ W B (.cells #[.bool g] 4)/\Ϙ W d (.cells #[ϖ St] 102)) kR b (λ_=>?_);refine zV 0 (ϖ d) rfl (λW a=>by have c:=ξ a.1 0;simp at c;clear a;go_simp) b ?_;refine zP 1 d 0 b ?_;refine zP 2 d 0 b ?_;refine zV 3 (ϖ St) rfl (λW a=>by have c:=ξ a.2.2 0;simp at c;clear a;go_simp) b ?_;refine zV 4 (.bool g) rfl (λW a=>by have c:=ξ a.2.1 0;simp at c;clear a;go_simp) b ?_;refine zV 5 (ϖ d) rfl (λW a=>by have c:=ξ a.1 0;simp at c;clear a;go_simp) b ?_;refine zP 6 d 0 b ?_;refine zP 7 d 0 b ?_;refine zV 8 (ϖ St) rfl (λW a=>by have c:=ξ a.2.2 0;simp at c;clear a;go_simp) b ?_;refine zV 10 (ϖ d) rfl (λW a=>by have c:=ξ a.1 0;simp at c;clear a;go_simp) b ?_;refine zP 11 d 0 b ?_;refine zP 12 d 0 b ?_;refine zV 13 (ϖ St) rfl (λW a=>by have c:=ξ a.2.2 0;simp at c;clear a;go_simp) b ?_;refine zV 14 (.bool g) rfl (λW a=>by have c:=ξ a.2.1 0;simp at c;clear a;go_simp) b ?_;refine zq 9 λK hK=>?_;go_simp;refine (zA8 St 1 s w.drew m).mono ?_;rintro e o ⟨rfl,l⟩;have f:Kp [] w o:=((Kp.refl _ w).drew).tr l;have q:=And.intro (f.hp n) (And.intro (f.hp i) (f.hp j));have t:=f.hp m;have u:=f.hp r;refine hK.out _ _ q (λ_=>?_);clear hK K l
 try simp only[zZ]
 refine zq 15 λK hK=>?_;go_simp;refine (p o f).mono ?_;rintro e v ⟨rfl,rfl⟩;simp only[qB7];clear hK;go_wp2;exact⟨rfl,rfl,f⟩
theorem zZ1(args)(W):Sem.run prog (callFunc 65 args) W=.ok (.enter 65 args) W:=by
 simp[go_sem,func65]
theorem zX2(a St:Nat)(c:Bool)(s)(w)(g:w.heap[a]?=some (.cells #[.pointer (some ⟨St,0,none⟩)] 102))(q:w.heap[St]?=some (ν 0 s))(x:s.po=false)(u:a≠St)
  (o:∀ W:World,Kp [St] w W->W.heap[St]?=some (ν 1 s)->Calls prog 67 #[.pointer (some ⟨St,0,none⟩),.bool c] W λe d=>e=qB7 (some 4)/\d=W):
  Calls prog 29 #[.pointer (some ⟨a,0,none⟩),.bool c] w λe d=>∃ v,e=.returned (.tuple #[.pointer none,v])/\ErrV d v (some 4)/\d.heap[St]?=some (ν 0 s)/\Kp [St] w d:=by
 have z:=zh o;have B:=zh u;have C:=zh x;clear o u x;have Z:=zM;have V:=ζ g;have X:=ζ q;have F:=ξ (ρ (.cells #[.pointer none] 32) (ρ (.cells #[.bool c] 4) (ρ (.cells #[ϖ a] 28) g))) 0;simp only[zG,zH] at F;go_enter func29,ntmps29;go_wp2_with fail;obtain⟨b,t,f,aa,R,H,r⟩:∃ b,b=((w.alloc (.cells #[ϖ a] 28)).alloc (.cells #[.bool c] 4)).alloc (.cells #[.pointer none] 32)/\Kp [] w b/\b.heap.size=w.heap.size+3/\Ϙ b w.heap.size (.cells #[ϖ a] 28)/\b.heap[w.heap.size+1]?=some (.cells #[.bool c] 4)/\b.heap[w.heap.size+2]?=some (.cells #[.pointer none] 32):=by
  refine⟨_,rfl,((kF.alloc _).alloc _).alloc _,sM,ρ _ (ρ _ (υ _ _)),ρ _ ?_,?_⟩
  .have e:=υ (w.alloc (.cells #[ϖ a] 28)) (.cells #[.bool c] 4);simpa using e
  .have e:=υ ((w.alloc (.cells #[ϖ a] 28)).alloc (.cells #[.bool c] 4)) (.cells #[.pointer none] 32);simpa using e
 rw[<-t];clear t;have J:=f.hp g;have N:=f.hp q;refine (zW3 (some 4) dC St 65 s s #[] _ _ [] (λW n=>Kp [] W n) b N C (zZ1 _) sM ?_).mono ?_
 .intro W hK k;have Q:=hK.ho R;have G:=hK.ho H;have P:=hK.ho r;have K:=hK.heap J (by simp;exact B);have j:=(f.mono (S':=[St]) sM).trans hK (λ_ h _=>h);refine (xY5 w.heap.size (w.heap.size+1) (w.heap.size+2) a St c s W Q G P K k (λE p=>z E (j.tr p) (p.hp k))).mono ?_;rintro e n ⟨rfl,m⟩;exact⟨rfl,m,m.mono sM,m.hp k⟩
 rintro e w2 ⟨v,rfl,y,O,i,W,n,S,M,j,T,U,I,L⟩;have l:=i.ho r;have Y:=ζ l;have t0:=ϻ l 0;have D:=zh y;have A:=zh ((f.mono (S':=[St]) sM).trans i (λ_ h _=>h));clear y M j I L i l;go_wp2
 go_ret2
 exact⟨v,rfl,D,O,A⟩
theorem zX3(d St:Nat)(c:Bool)(s s')(p:Int)(L)(R:World->Prop)(w)(r:w.heap[d]?=some (.cells #[.pointer (some ⟨St,0,none⟩)] 102))(G:w.heap[St]?=some (ν 0 s))(J:s.po=false)(I:d ∉ St::L)(D:∀ i∈L,i<w.heap.size)
  (B:∀ W:World,Kp [St] w W->W.heap[St]?=some (ν 1 s)->Calls prog 67 #[.pointer (some ⟨St,0,none⟩),.bool c] W λe g=>e=.returned (.int .u64 p)/\g.heap[St]?=some (ν 1 s')/\R g/\Kp (St::L) W g)
  (E:∀ (a b) (k),(∀ i∈k,i=St\/w.heap.size<=i)->R a->Kp k a b->R b):
  Calls prog 29 #[.pointer (some ⟨d,0,none⟩),.bool c] w λe g=>∃ x,e=.returned (.tuple #[.pointer (some ⟨x,0,none⟩),.nilIface])/\w.heap.size<=x/\g.heap[x]?=some (qA5 ⟨St,p,c,false,some ⟨s.V,0,none⟩,⟨⟨#[]⟩,s.rb,s.rs,none⟩,0⟩)/\g.heap[St]?=some (ν 0 s')/\R g/\Kp (St::L) w g:=by
 have M:=zh B;have z:=zh I;have y:=zh D;have A:=zh E;have N:=zh J;clear B I D E J;have ai:=zM;have ae:=ζ r;have af:=ζ G;have P:=ξ (ρ (.cells #[.pointer none] 32) (ρ (.cells #[.bool c] 4) (ρ (.cells #[ϖ d] 28) r))) 0;simp only[zG,zH] at P;go_enter func29,ntmps29;go_wp2_with fail;obtain⟨f,H,m,aj,aa,S,Y⟩:∃ f,f=((w.alloc (.cells #[ϖ d] 28)).alloc (.cells #[.bool c] 4)).alloc (.cells #[.pointer none] 32)/\Kp [] w f/\f.heap.size=w.heap.size+3/\Ϙ f w.heap.size (.cells #[ϖ d] 28)/\f.heap[w.heap.size+1]?=some (.cells #[.bool c] 4)/\f.heap[w.heap.size+2]?=some (.cells #[.pointer none] 32):=by
  refine⟨_,rfl,((kF.alloc _).alloc _).alloc _,sM,ρ _ (ρ _ (υ _ _)),ρ _ ?_,?_⟩
  .have e:=υ (w.alloc (.cells #[ϖ d] 28)) (.cells #[.bool c] 4);simpa using e
  .have e:=υ ((w.alloc (.cells #[ϖ d] 28)).alloc (.cells #[.bool c] 4)) (.cells #[.pointer none] 32);simpa using e
 rw[<-H];clear H;have T:=m.hp r;have V:=m.hp G;have u:∀ i,w.heap.size<=i->i ∉ St::L:=λi j hm=>by
  rcases List.mem_cons.1 hm with h|h
  .omega
  .have:=y.out _ h;omega
 refine (zW3 none dC St 65 s s' #[] _ _ ((w.heap.size+2)::L) (λW l=>R l/\∃ x,W.heap.size<=x/\Ϙ l x (qA5 ⟨St,p,c,false,some ⟨s.V,0,none⟩,⟨⟨#[]⟩,s.rb,s.rs,none⟩,0⟩)/\l.heap[w.heap.size+2]?=some (.cells #[ϖ x] 32)) f V N (zZ1 _) (by intro i j;rcases List.mem_cons.1 j with h | h;omega;have:=y.out _ h;omega) ?_).mono ?_
 .intro W hK F;have Z:=hK.ho aa;have Q:=hK.ho S;have X:=hK.ho Y;have U:=hK.heap T (by simp;exact λh=>z (by simp[h]));have n:=(m.mono (S':=[St]) sM).trans hK (λ_ h _=>h);refine (xY6 w.heap.size (w.heap.size+1) (w.heap.size+2) d St c s s' p L R W Z Q X U F ⟨u _ oM,u _ oM,z,u _ oM⟩ ⟨oM,oM,oM,oM⟩ (λO C=>M O (n.tr C) (C.hp F)) (λa b ha hab=>A a b [w.heap.size+2] sM ha hab)).mono ?_;rintro e l ⟨rfl,hx,o,hk,ab⟩;exact⟨rfl,⟨o,hx⟩,hk,ab⟩
 rintro e w2 ⟨v,rfl,hv,hSt2,hK2,W,l,Bb,⟨o,x,hx1,hx2,hx3⟩,n,hB1,hB2,hB3,hKB⟩;have ac:v=.nilIface:=hv;subst ac;have t:=hKB.ho hx3;have K:=hKB.ho hx2;have ag:=ζ t;have t0:=ϻ t 0;have q:=zh (n3 K (A _ _ [St,Bb] sO o hKB) ((m.mono (S':=St::L) sM).trans hK2 (by intro i j ah;simp at j |-;rcases j with h | h | h;simp[h];omega;simp[h])));have ad:w.heap.size<=x:=by have:=n.size;omega
 clear hv o hx2 hx3 n hB3 hKB hK2 t K;go_wp2
 go_ret2
 exact⟨x,rfl,ad,q.1,hSt2,q.2.1,q.2.2⟩
theorem xZ0(f St n:Nat)(s)(D)(w)(l:w.heap[f]?=some (.cells #[.pointer (some ⟨St,0,none⟩)] 102))(q:w.heap[St]?=some (ν 0 s))(o:RM w s.V s.M n D)(v:s.po=false)(m:f≠St)(g:s.M≠St)(z:s.M<w.heap.size)(y:s.wr=0)(i:0<=s.bg)(j:s.bg<=100000000):
  Calls prog 29 #[.pointer (some ⟨f,0,none⟩),.bool true] w λe d=>∃ x,e=.returned (.tuple #[.pointer (some ⟨x,0,none⟩),.nilIface])/\w.heap.size<=x/\d.heap[x]?=some (qA5 ⟨St,s.bg+1,true,false,some ⟨s.V,0,none⟩,⟨⟨#[]⟩,s.rb,s.rs,none⟩,0⟩)/\d.heap[St]?=some (ν 0 s.wrote)/\RM d s.V s.M n D/\Kp [St] w d:=
 zX3 f St true s s.wrote (s.bg+1) [] (λd=>RM d s.V s.M n D) w l q v (by simp;exact m) sM
  (λW hK p=>(jH0 St s W p y i j).mono λe d ⟨a,b,c⟩=>⟨a,b,(o.kp hK (by simp;exact g)).kp c (by simp;exact g),c⟩)
  (λa b k u r t=>r.kp t (λhm=>by rcases u _ hm with h | h;exact g h;omega))
theorem xY9(g St n:Nat)(s)(D)(w)(o:w.heap[g]?=some (.cells #[.pointer (some ⟨St,0,none⟩)] 102))(v:w.heap[St]?=some (ν 0 s))(q:RM w s.V s.M n D)(C:s.po=false)(p:g≠St)(i:s.M≠St)(r:g≠s.M)(t:s.M<w.heap.size)(m:Maps.size D<4)(B:n<=100000000)(j:0<=s.bg)(l:s.bg<=100000000):
  Calls prog 29 #[.pointer (some ⟨g,0,none⟩),.bool false] w λe f=>∃ x,e=.returned (.tuple #[.pointer (some ⟨x,0,none⟩),.nilIface])/\w.heap.size<=x/\f.heap[x]?=some (qA5 ⟨St,s.bg+1,false,false,some ⟨s.V,0,none⟩,⟨⟨#[]⟩,s.rb,s.rs,none⟩,0⟩)/\f.heap[St]?=some (ν 0 s.read)/\RM f s.V s.M (n+1) (D.put (ι (s.bg+1)) (qG2 ⟨⟨#[]⟩,s.rb,s.rs,none⟩))/\Kp [St,s.M] w f:=
 zX3 g St false s s.read (s.bg+1) [s.M] (λf=>RM f s.V s.M (n+1) (D.put (ι (s.bg+1)) (qG2 ⟨⟨#[]⟩,s.rb,s.rs,none⟩))) w o v C (by simp;exact⟨p,r⟩) (by simp;exact t)
  (λW hK u=>(jG9 St n s D W u (q.kp hK (by simp;exact i)) m B j l i).mono λe f ⟨a,b,c,d⟩=>⟨a,b,c,d⟩)
  (λa b k A y z=>y.kp z (λhm=>by rcases A _ hm with h | h;exact i h;omega))
theorem xY8(a St:Nat)(s)(w)(c:w.heap[a]?=some (.cells #[.pointer (some ⟨St,0,none⟩)] 102))(f:w.heap[St]?=some (ν 0 s))(h:s.po=false)(g:a≠St)(i:s.wr≠0):
  Calls prog 29 #[.pointer (some ⟨a,0,none⟩),.bool true] w λe b=>∃ v,e=.returned (.tuple #[.pointer none,v])/\ErrV b v (some 4)/\b.heap[St]?=some (ν 0 s)/\Kp [St] w b:=
 zX2 a St true s w c f h g λW hK d=>jG8 St s W d i
theorem xY7(a St n:Nat)(s)(D)(w)(d:w.heap[a]?=some (.cells #[.pointer (some ⟨St,0,none⟩)] 102))(i:w.heap[St]?=some (ν 0 s))(f:RM w s.V s.M n D)(k:s.po=false)(j:a≠St)(g:s.M≠St)(c:Maps.size D=4):
  Calls prog 29 #[.pointer (some ⟨a,0,none⟩),.bool false] w λe b=>∃ v,e=.returned (.tuple #[.pointer none,v])/\ErrV b v (some 4)/\b.heap[St]?=some (ν 0 s)/\Kp [St] w b:=
 zX2 a St false s w d i k j λW hK h=>jG7 St n s D W h (f.kp hK (by simp;exact g)) c
def Tx.ended(t:Tx):Tx:={ t with over:=true,on:=none,h:=⟨⟨#[]⟩,0,0,none⟩ }
theorem qV6(x n:Nat)(t)(s)(D)(w)(f:w.heap[x]?=some (qA5 t))(A:w.heap[t.St]?=some (ν 1 s))(v:RM w s.V s.M n D)(M:0<=t.nr)(N:t.nr<=1000000000)(z:s.M≠t.St)(p:x≠t.St)(o:x≠s.M):
  Calls prog 69 #[.pointer (some ⟨x,0,none⟩)] w λe j=>e=.returned (.tuple #[])/\j.heap[x]?=some (qA5 t.ended)/\j.heap[t.St]?=some (ν 1 (s.left t.nr))/\RM j s.V s.M n (D.del (ι t.nr))/\Kp [t.St,x,s.M] w j:=by
 have Q:=ζ f;have F:=ξ f;simp only[qA5,zG,zH,zI] at F;have L:=ψ f;obtain⟨b,C,E,g⟩:∃ b,b=(((((w.setCell ⟨x,3,none⟩ (.bool true)).setCell ⟨x,4,none⟩ (.pointer none)).setCell ⟨x,5,none⟩ (.string ⟨#[]⟩)).setCell ⟨x,6,none⟩ (ϊ 0)).setCell ⟨x,7,none⟩ (.int .u64 0)).setCell ⟨x,8,none⟩ (.pointer none)/\Ϙ b x (qA5 t.ended)/\Kp [x] w b:=
  ⟨_,rfl,μ (μ (μ (μ (μ (μ f 3 _) 4 _) 5 _) 6 _) 7 _) 8 _,(((((kF.sc _).sc _).sc _).sc _).sc _).sc _⟩
 have r:=zh E;have J:=zh (g.heap A (by simp;exact λh=>p h.symm));have I:=zh (v.kp g (by simp;exact λh=>o h.symm));have H:=zh g;have q:=zh (n3 z p o);clear f A v z p o E g;go_enter func69,ntmps69;go_wp2_with fail;rw[<-C];clear C F L;have P:=ζ r.out;have a:=r.out;refine wp_region_held_drew (S:=λW=>Ϙ W x (qA5 t.ended)) kR a (λ_=>?_);refine zP 0 x 0 a ?_;refine zP 1 x 0 a ?_;refine zP 2 x 0 a ?_;refine zV 3 (ϖ t.St) rfl (λW d=>by have c:=ξ d 0;simp only[qA5,Tx.ended,zG,zH,zI] at c;clear d;go_simp) a ?_;refine zP 4 x 0 a ?_;refine zP 5 x 0 a ?_;refine zP 6 x 1 a ?_;refine zV 7 (.int .u64 t.nr) rfl (λW d=>by have c:=ξ d 1;simp only[qA5,Tx.ended,zG,zH,zI] at c;clear d;go_simp) a ?_;refine zq 8 λK hK=>?_;go_simp;refine (jS5 t.St n s t.nr D b.drew J (I.kp ((Kp.refl [] b).drew) sM) M N q.1).mono ?_;rintro e k ⟨rfl,B,y,u⟩;have l:=((Kp.refl _ b).drew).trans u (λ_ h _=>h);have m:=l.heap a (by simp;exact q.2);refine hK.out _ _ m (λ_=>?_);clear hK K u;refine zd ?_;have G:Hid (Ϙ k x (qA5 t.ended)/\Ϙ k t.St (ν 1 (s.left t.nr))/\RM k s.V s.M n (D.del (ι t.nr))/\Kp [t.St,x,s.M] w k):=⟨m,B,y,(H.mono sM).trans l (by intro i O _;simp at O |-;omega)⟩;clear m a B y l;go_wp2
 go_end0
 exact⟨rfl,G⟩
theorem jC8(args)(W):Sem.run prog (callFunc 69 args) W=.ok (.enter 69 args) W:=by
 simp[go_sem,func69]
theorem xU5(x n:Nat)(t)(s)(D)(w)(h:w.heap[x]?=some (qA5 t))(y:t.over=false)(q:w.heap[t.St]?=some (ν 0 s))(z:s.po=false)(o:RM w s.V s.M n D)(l:0<=t.nr)(m:t.nr<=1000000000)(b:s.M≠t.St)(a:x≠t.St)(j:x≠s.M)(B:s.M<w.heap.size):
  Calls prog 36 #[.pointer (some ⟨x,0,none⟩)] w λe f=>e=.returned .nilIface/\f.heap[x]?=some (qA5 t.ended)/\f.heap[t.St]?=some (ν 0 (s.left t.nr))/\RM f s.V s.M n (D.del (ι t.nr))/\Kp [t.St,x,s.M] w f:=by
 have C:=zM;have E:=ζ h;go_enter func36,ntmps36;go_wp2_with fail;refine (qT4 none dC x t.St 69 t s (s.left t.nr) #[ϖ x] #[] _ [x,s.M] (λW g=>Ϙ g x (qA5 t.ended)/\RM g s.V s.M n (D.del (ι t.nr))) w h y rfl q z a (jC8 _) (by intro i hi;simp at hi;omega) ?_).mono ?_
 .intro W hK p;refine (qV6 x n t s D W (hK.heap h (by simp;exact a)) p (o.kp hK (by simp;exact b)) l m b a j).mono ?_;rintro e g ⟨rfl,c,d,r,u⟩;exact⟨rfl,⟨c,r⟩,u,d⟩
 rintro e F ⟨v,rfl,hv,hSt2,hK2,W,g,Bb,⟨c,d⟩,hKW,hB1,hB2,hB3,hKB⟩;have A:v=.nilIface:=hv;subst A;have k:=zh (n4 (hKB.heap c (by simp;exact⟨a,oM⟩)) hSt2 (d.kp hKB (by simp;exact⟨b,oM⟩)) hK2);clear hv c d hSt2 hK2 hKW hKB hB3 b a j;go_wp2;go_ret;exact⟨rfl,k⟩
theorem xU6(x:Nat)(t)(s)(w)(f:w.heap[x]?=some (qA5 t))(j:t.over=true)(i:w.heap[t.St]?=some (ν 0 s))(k:s.po=false)(g:x≠t.St):
  Calls prog 36 #[.pointer (some ⟨x,0,none⟩)] w λe a=>∃ v,e=.returned v/\ErrV a v (some 5)/\a.heap[t.St]?=some (ν 0 s)/\Kp [t.St] w a:=by
 have l:=zM;have m:=ζ f;go_enter func36,ntmps36;go_wp2_with fail;refine (qZ6 x t.St 69 t s #[ϖ x] #[] _ w f j rfl i k g).mono ?_;rintro e n ⟨v,rfl,d,c,b⟩;have h:=zh (n3 d c b);clear d c b g;go_wp2;go_ret;exact⟨v,rfl,h⟩
def qO2:List TypeId:=[114,263,115,117]
def OffD(w:World)(L:List Nat):Prop:=∀ k∈L,∀ c t fr,w.heap[k]?=some (.cells c t fr)→t ∉ qO2
structure SEnv extends Env where
 keepX:∀ w w' L,Dev w→Kp L w w'→OffD w L→Dev w'
 offS:∀ w,Dev w→∀ k∈S,∃ c t fr,w.heap[k]?=some (.cells c t fr)∧t∈qO2
theorem SEnv.nin(E:SEnv){w:World}(e:E.Dev w){k:Nat}{c:Array Value}{t:TypeId}{b:Nat × Nat}(h:w.heap[k]?=some (.cells c t b))(g:t ∉ qO2):k ∉ E.S:=λf=>by
 obtain⟨i,t',j,a,d⟩:=E.offS w e k f;rw[h] at a;cases a;exact g d
theorem SEnv.ninM(E:SEnv){w:World}(d:E.Dev w){k:Nat}{b:Array MapEntry}{c:Nat}(h:w.heap[k]?=some (.map b c)):k ∉ E.S:=λe=>by
 obtain⟨f,t',g,a,i⟩:=E.offS w d k e;rw[h] at a;cases a
theorem SEnv.stay(E:SEnv){w b:World}(e:E.Dev w)(d:E.To w b){k:Nat}{c:Array Value}{t:TypeId}{a:Nat × Nat}(h:w.heap[k]?=some (.cells c t a))(f:t ∉ qO2):b.heap[k]?=some (.cells c t a):=
 d.kp.heap h (E.nin e h f)
theorem OffD.one{w}{k:Nat}{c}{t}{fr}(h:w.heap[k]?=some (.cells c t fr))(b:t ∉ qO2):OffD w [k]:=λi a d t' f e=>by
 rw[mS a,h] at e;cases e;exact b
theorem OffD.cons{w}{k:Nat}{L}(h:OffD w [k])(b:OffD w L):OffD w (k::L):=λi a=>by
 rcases List.mem_cons.1 a with a|a
 .exact h i (by simp[a])
 .exact b i a
theorem Apt.one{w}{k:Nat}{c}{t}{fr}{Ts:List TypeId}(h:w.heap[k]?=some (.cells c t fr))(b:t ∉ Ts):Apt w [k] Ts:=λi a d t' f e=>by
 rw[mS a,h] at e;cases e;exact b
theorem Apt.cons{w}{k:Nat}{S}{Ts:List TypeId}(h:Apt w [k] Ts)(b:Apt w S Ts):Apt w (k::S) Ts:=λi a=>by
 rcases List.mem_cons.1 a with a|a
 .exact h i (by simp[a])
 .exact b i a
theorem zM6(k)(w)(b:1<=k.size)(c:k.size<=8):
  Calls prog 101 #[.string k] w λe a=>e=qB7 none/\a=w:=by
 have d:¬(k.size:Int)<1:=oM
 have f:¬(8:Int)<(k.size:Int):=oM
 go_enter func101,ntmps101;go_wp2
 go_end0
 exact⟨rfl,rfl⟩
theorem xA3(k)(w)(h:k.size<1\/8<k.size):
  Calls prog 101 #[.string k] w λe b=>e=qB7 (some 1)/\b=w:=by
 by_cases c:k.size<1
 .have a:(k.size:Int)<1:=oM
  clear h;go_enter func101,ntmps101;go_wp2;exact⟨rfl,rfl,rfl,rfl⟩
 .have a:¬(k.size:Int)<1:=oM
  have d:(8:Int)<(k.size:Int):=oM
  clear h;go_enter func101,ntmps101;go_wp2;exact⟨rfl,rfl,rfl,rfl⟩
theorem kC8(St A n:Nat)(g:Int)(s)(w)(f:w.heap[St]?=some (ν g s))(d:w.heap[s.V]?=some (qE4 A n))(p:n<=1000000)(k:0<=s.bl)(l:s.bl<=1000000):
  Calls prog 77 #[.pointer (some ⟨St,0,none⟩)] w λe j=>e=.returned (.int .i64 ((n:Int)-2-s.bl))/\Kp [] w j:=by
 have m:=ζ f;have o:=ζ d;go_enter func77,ntmps77;go_wp2_with fail;have a:=n2 f d;refine wp_region_held_drew (S:=λW=>Ϙ W St (ν g s)/\Ϙ W s.V (qE4 A n)) kR a (λ_=>?_);refine zP 0 St 0 a ?_;refine zP 1 St 0 a ?_;refine zP 2 St 2 a ?_;refine zV 3 (ϖ s.V) rfl (λW b=>by have c:=ξ b.1 2;simp only[ν,zG,zH,zI] at c;clear b;go_simp) a ?_;refine zP 6 St 0 a ?_;refine zP 7 St 0 a ?_;refine zP 8 St 6 a ?_;refine zV 9 (ϊ s.bl) rfl (λW b=>by have c:=ξ b.1 6;simp only[ν,zG,zH,zI] at c;clear b;go_simp) a ?_;refine zq 4 λK hK=>?_;go_simp;refine (zC2 s.V A n w.drew d).mono ?_;rintro e q ⟨rfl,rfl⟩;refine zk hK a ?_
 have h:IntKind.i64.wrap ((n:Int)-2)=(n:Int)-2:=by rw[wK];omega
 have i:IntKind.i64.wrap ((n:Int)-2-s.bl)=(n:Int)-2-s.bl:=by rw[wK];omega
 refine zU 5 (ϊ ((n:Int)-2)) a ?_;refine zU 10 (ϊ ((n:Int)-2-s.bl)) a ?_;refine zU 11 (ϊ ((n:Int)-2-s.bl)) a ?_;refine zd ?_;clear h i;go_wp2;go_ret;exact⟨rfl,kF.drew⟩
theorem RGood.slim{n:Nat}{l}(h:RGood (.at n l))(b:(cont n l.sub).length<=1000000):qX9 n l.sub/\qB1 n l.sub<=1000000:=by
 obtain⟨_,a,_⟩:=h;have:=zA7 n _ _ a;exact⟨qK8 n _ _ a,oM⟩
theorem xO6(E)(r)(h)(w)(c:RR E w h r)(j:RGood r)(o:r.cont.length<=1000000):
  Calls prog 76 #[τ E.V h] w λe a=>e=.returned (.int .i64 (r.news:Nat))/\Kp [] w a:=by
 cases r with
 | none=>
  have k:h=⟨⟨#[]⟩,0,0,none⟩:=c;subst k;have b:∀ W:World,Ω 120 #[.agg #[.string ⟨#[]⟩,ϊ 0,.int .u64 0,.pointer none]] W λe a=>e=ϱ (ϊ 0)/\Kp [] W a:=by
   intro W;go_enter func120,ntmps120;go_wp2;go_ret;exact⟨rfl,kF.alloc _⟩
  have f:=zh b;clear b;have m:HL.ptr ⟨⟨#[]⟩,0,0,none⟩=none:=rfl;rw[τ,m];go_enter func76,ntmps76;go_wp2_with fail;refine (f _).mono ?_;rintro e p ⟨rfl,g⟩;have i:Kp [] w p:=(kF.alloc _).tr g;go_wp2;go_ret;exact⟨rfl,i⟩
 | «at» n l=>
  have d:=RGood.slim j o;exact kN1 E.O E.V n h l w c d.1 d.2
def qM4(s:ByteArray):List Int:=s.data.toList.map (fun b=>(b.toNat:Int))
theorem qS2(s):(qM4 s).length=s.size:=by
 unfold qM4;rw[List.length_map];exact Array.length_toList
theorem zT7(s):∀ x∈qM4 s,0<=x/\x<256:=by
 intro x a;simp only[qM4,List.mem_map] at a;obtain⟨b,_,rfl⟩:=a;have:=b.toNat_lt;omega
theorem zU1(s):Lib.strCells s=u8s (qM4 s):=by
 unfold Lib.strCells u8s qM4;rw[List.map_map];rfl
def qD7(p:KV):List Int:=[(p.k.size:Int)*16+p.v.size]++qM4 p.k++qM4 p.v
theorem qU6(p):(qD7 p).length=θ p:=by
 simp only[qD7,lA,lC,List.length_nil,qS2,θ]
theorem kO2(a b:List Int):u8s (a++b)=u8s a++u8s b:=by simp[u8s]
theorem xS6(a:List Int):(u8s a).length=a.length:=by simp[u8s]
theorem qT5{w f:World}{base:Nat}{T:TypeId}{sz:Nat}{v:Value}{n:Nat}{xs:List Value}{k:Nat}{c:Array Value}{t:TypeId}{d:Nat × Nat}(h:w.ownsRow base T sz v n xs)(i:w.grownBy f v.ownBlock)(b:w.heap[k]?=some (.cells c t d))(j:t≠T):f.heap[k]?=some (.cells c t d):=by
 refine (i.block k (ζ b) ?_).trans b;rcases h.2 with⟨rfl,_⟩|⟨g,cap,cur,rfl,_,a,_⟩
 .simp[Value.ownBlock]
 .intro e;simp only[Value.ownBlock,Option.some.injEq] at e;subst e;rw[b] at a;simp only[Option.some.injEq,Obj.cells.injEq] at a;exact j a.2.1
def St(w w':World):Prop:=∀ (k:Nat) (c:Array Value) (t:TypeId) (fr:Nat × Nat),w.heap[k]?=some (.cells c t fr)→t≠5→w'.heap[k]?=some (.cells c t fr)
theorem St.refl(w):St w w:=λ_ _ _ _ h _=>h
theorem St.trans{a b c}(h:St a b)(k:St b c):St a c:=λq x t d e f=>k q x t d (h q x t d e f) f
theorem St.alloc{a b}(h:St a b)(o):St a (b.alloc o):=λq x t c e d=>ρ o (h q x t c e d)
theorem St.grown{a w w'}{base:Nat}{sz:Nat}{v}{n:Nat}{xs:List Value}(s:St a w)(h:w.ownsRow base 5 sz v n xs)(d:w.grownBy w' v.ownBlock):St a w':=λq x t c e b=>qT5 h d (s q x t c e b) b
theorem jY1:∀ k<9,∀ v<13,bits BinOp.or .i64 (((k:Nat):Int)*16) ((v:Nat):Int)=((k:Nat):Int)*16+((v:Nat):Int):=dC
theorem kA4(p)(v)(base k:Nat)(xs:List Int)(w)(N:k<=1000)(hp:qC3 p)(I:base<=w.heap.size)
  (O:w.ownsRow base 5 1 v k (u8s xs)):
  Calls prog 338 #[.agg #[.string p.k,.string p.v],v] w λe E=>∃ v',e=.returned v'/\E.ownsRow base 5 1 v' (k+θ p) (u8s (xs++qD7 p))/\Below base w E/\St w E:=by
 obtain⟨D,s,A,B,C⟩:=info_parts Tryz.info5;obtain⟨ac,R,S⟩:=hp;have ab:=jY1 p.k.size oM p.v.size oM;obtain⟨x,z⟩:∃ x:Int,x=(p.k.size:Int)*16+p.v.size:=⟨_,rfl⟩;rw[<-z] at ab;have ae:x % 256=x:=oM
 have hw:wrap64 ((p.k.size:Int)*16)=(p.k.size:Int)*16:=by simp only[wrap64];omega
 have HX:=zh z;have a:=zh I;have g:=zh (n2 R S);have b:=zh N;have d:=zh O;clear z ac R S I N O;go_enter func338,ntmps338
 go_wp2_with (at_builtin;refine wpList_append_own _ rfl _ _ 118 rfl base 5 D (.int .u8 0) 1 1 underlying118 s A B C rfl dC _ _ _ rfl ((d.alloc _).alloc _) ⟨w.heap.size+1,0,none⟩ 1 1 [.int .u8 x] rfl rfl ?_ (by simp[Value.oneCell']) (by have:=b.out;unfold maxLen;omega) (by have:=b.out;omega) (by have:=a.out;simp;omega) ?_)
 .intro j u y
  cases j with
  | zero=>
   simp only[zH,Option.some.injEq] at y;subst y;have h:=ξ (υ (w.alloc (.cells #[.string p.k,.string p.v] 185)) (.cells #[.int .u8 x] 5)) 0;simp[Addr.add]
  | succ j=>simp at y
 intro v1 w1 P c _;have M:=ρ (.cells #[.int .u8 x] 5) (υ w (.cells #[.string p.k,.string p.v] 185));have o:=qT5 ((d.alloc _).alloc _) c M dC;have ad:=c.size;have J:=(((Below.refl base w).alloc a _).alloc (by have:=a.out;simp;omega) _).grown c (by have:=a.out;simp;omega) (qI4 d);have T:=(((St.refl w).alloc _).alloc _).grown ((d.alloc _).alloc _) c;have Y:=zh T;have c0:=ξ o;have f:=zh P;have l:=zh J;have V:=zh o;clear P c M o J ad T
 go_wp2_with (at_builtin;refine Lib.wpList_append_own_string _ rfl _ _ 118 9 rfl base 5 D underlying118 underlying9 s A B C _ _ _ rfl f p.k rfl (by have:=b.out;have:=g.out;unfold maxLen;omega) (by have:=b.out;have:=g.out;omega) (by have:=l.out.size;have:=a.out;omega) ?_)
 intro v2 w2 Q i _;have q:=qT5 f i V dC;have K:=l.out.grown i (by have:=l.out.size;have:=a.out;omega) (qI4 f);have c0:=ξ q 0;have F:=ξ q 1;simp only[zG,zH,zI] at c0 F;have n:Hid (w2.ownsRow base 5 1 v2 (k+1+p.k.size) (u8s xs++[.int .u8 x]++Lib.strCells p.k)):=by show World.ownsRow _ _ _ _ _ _ _;rw[List.append_assoc];exact Q
 have m:=zh K;have Z:=zh (Y.grown f i);clear Q i q K c0
 go_wp2_with (at_builtin;refine Lib.wpList_append_own_string _ rfl _ _ 118 9 rfl base 5 D underlying118 underlying9 s A B C _ _ _ rfl n p.v rfl (by have:=b.out;have:=g.out;unfold maxLen;omega) (by have:=b.out;have:=g.out;omega) (by have:=m.out.size;have:=a.out;omega) ?_)
 intro U w3 t r _;have L:=m.out.grown r (by have:=m.out.size;have:=a.out;omega) (qI4 n);have G:u8s (xs++qD7 p)=u8s xs++[.int .u8 x]++Lib.strCells p.k++Lib.strCells p.v:=by
  rw[zU1,zU1,qD7,HX.out];simp[u8s]
 have H:k+θ p=k+1+p.k.size+p.v.size:=by unfold θ;omega
 have W:Hid (w3.ownsRow base 5 1 U (k+θ p) (u8s (xs++qD7 p))):=by show World.ownsRow _ _ _ _ _ _ _;rw[G,H];simp only[List.append_assoc,List.singleton_append,List.cons_append,List.nil_append] at t |-;exact t
 have X:=zh L;have aa:=zh (Z.grown n r);clear t r L G H F;go_wp2;go_ret;exact⟨U,rfl,W,X,aa⟩
theorem zW5(v)(base k:Nat)(xs:List Int)(n:Int)(m:Nat)(w)(J:k<=1000)(G:m<=100)(t:0<=n)
  (D:base<=w.heap.size) (u:w.ownsRow base 5 1 v k (u8s xs)):
  Calls prog 250 #[v,.int .u64 n,.int .i64 m] w λe f=>∃ b,e=.returned b/\f.ownsRow base 5 1 b (k+m) (u8s (xs++qB5 m n))/\Below base w f/\St w f:=by
 obtain⟨B,r,y,z,A⟩:=info_parts Tryz.info5;go_enter func250,ntmps250;go_wp2
 go_loopw [0,1,8] (λs q i wr=>∃ (j:Nat) (b:Value) (a:Int),j<=m/\i=.int .i64 j/\q=.int .u64 a/\a=n / (256:Int) ^ j/\0<=a/\a<=n/\s=b/\wr.ownsRow base 5 1 b (k+j) (u8s (xs++qB5 j n))/\Below base w wr/\Hid (St w wr)) (λ_ _ i _=>m-(intOf i).toNat)
 case atStart=>exact⟨0,v,n,Nat.zero_le _,rfl,rfl,sM,t,Int.le_refl _,rfl,by simpa [qB5] using u,Below.refl _ _,St.refl _⟩
 case round=>
  obtain⟨j,b,a,E,rfl,rfl,o,H,I,rfl,d,c,h⟩:=hrel;have g:=zh o;clear o;by_cases F:j<m
  .go_wp2_with (at_builtin;refine wpList_append_own _ rfl _ _ 118 rfl base 5 B (.int .u8 0) 1 1 underlying118 r y z A rfl dC _ _ _ rfl (d.alloc _) ⟨wr.heap.size,0,none⟩ 1 1 [.int .u8 (a % 256)] rfl rfl (cell_one_new _ _ _) (by simp[Value.oneCell']) (by unfold maxLen;omega) oM (by have:=c.size;simp;omega) ?_;intro C K x l _)
   refine⟨⟨j+1,C,a / 256,oM,by go_num,rfl,?_,oM,oM,rfl,?_,?_,(h.alloc _).grown (d.alloc _) l⟩,by simp[intOf];omega⟩
   .rw[g.out,Int.ediv_ediv_of_nonneg (by exact Int.pow_nonneg dC),Int.pow_succ]
   .have p:u8s (xs++qB5 (j+1) n)=u8s (xs++qB5 j n)++[.int .u8 (a % 256)]:=by rw[zQ1,<-g.out];simp[u8s]
    rw[p];exact x
   .exact (c.alloc (by have:=c.size;omega) _).grown l (by have:=c.size;simp;omega) (qI4 d)
  .go_wp2;go_ret;have e:j=m:=oM
   subst e;exact⟨_,rfl,d,c,h⟩
def qD9(h:HL):List Int:=qB5 2 h.b++qB5 8 h.s++[(h.key.size:Int)]++qM4 h.key
theorem qT9(h):(qD9 h).length=11+h.key.size:=by
 simp only[qD9,lA,lC,List.length_nil,qS2,qH9]
theorem jR6(h)(v)(base k:Nat)(xs:List Int)(w)(J:k<=900)(K:h.key.size<=8)(F:0<=h.b)(af:h.b<=1000000)(P:0<=h.s)(E:base<=w.heap.size)
  (L:w.ownsRow base 5 1 v k (u8s xs)):
  Calls prog 332 #[qC1 h,v] w λe s=>∃ v',e=.returned v'/\s.ownsRow base 5 1 v' (k+(11+h.key.size)) (u8s (xs++qD9 h))/\Below base w s/\St w s:=by
 obtain⟨U,I,R,S,T⟩:=info_parts Tryz.info5;obtain⟨x,Q⟩:∃ x:Int,x=(h.key.size:Int):=⟨_,rfl⟩;have ai:(h.key.size:Int) % 256=x:=oM
 have ag:IntKind.u64.wrap h.b=h.b:=by rw[IntKind.wrap_u64];omega
 have HX:=zh Q;have a:=zh E;have t:=zh K;have b:=zh J;have z:=zh (n2 F P);have HO:=zh L;clear Q K E J L F P af;rw[qC1];go_enter func332,ntmps332;go_wp2_with fail;have C:=υ w (.cells (ϡ h) 87);refine (zW5 v base k xs h.b 2 (w.alloc (.cells (ϡ h) 87)) (by have:=b.out;omega) oM z.1 (by have:=a.out;simp;omega) (HO.alloc _)).mono ?_;rintro e w1 ⟨v1,rfl,M,G,p⟩;have m:=p _ _ _ _ C dC;have aa:=zh M;have y:=zh (((Below.refl base w).alloc a _).trans G);have ab:=zh (((St.refl w).alloc _).trans p);have W:=zh m;have c2:=ϻ m 2;clear M G p C m ag;go_wp2_with fail;refine (zW5 v1 base (k+2) (xs++qB5 2 h.b) h.s 8 w1 (by have:=b.out;omega) oM z.2 (by have:=y.out.size;have:=a.out;omega) aa).mono ?_;rintro e w2 ⟨v2,rfl,N,H,q⟩;have f:=q _ _ _ _ W dC;have d:=zh N;have c:=zh (y.trans H);have ac:=zh (ab.trans q);have X:=zh f;have ah:=ζ f;have c0:=ϻ f 0;clear N H q f c2
 go_wp2_with (at_builtin;refine wpList_append_own _ rfl _ _ 118 rfl base 5 U (.int .u8 0) 1 1 underlying118 I R S T rfl dC _ _ _ rfl (d.alloc _) ⟨w2.heap.size,0,none⟩ 1 1 [.int .u8 x] rfl rfl ?_ (by simp[Value.oneCell']) (by have:=b.out;unfold maxLen;omega) (by have:=b.out;omega) (by have:=c.out.size;have:=a.out;simp;omega) ?_)
 .intro j u r
  cases j with
  | zero=>
   simp only[zH,Option.some.injEq] at r;subst r;simp[Addr.add]
  | succ j=>simp at r
 intro v3 w3 O g _;have D:=qT5 (d.alloc _) g (ρ (.cells #[.int .u8 x] 5) X) dC;have i:=zh ((c.alloc (by have:=c.out.size;have:=a.out;omega) _).grown g (by have:=c.out.size;have:=a.out;simp;omega) (qI4 d));have ad:=zh ((ac.alloc _).grown (d.alloc _) g);have l:Hid (w3.ownsRow base 5 1 v3 (k+2+8+1) (u8s (xs++qB5 2 h.b++qB5 8 h.s)++[.int .u8 x])):=by show World.ownsRow _ _ _ _ _ _ _;rw[List.append_assoc xs];exact O
 have c0:=ϻ D 0;clear O g D
 go_wp2_with (at_builtin;refine Lib.wpList_append_own_string _ rfl _ _ 118 9 rfl base 5 U underlying118 underlying9 I R S T _ _ _ rfl l h.key rfl (by have:=b.out;have:=t.out;unfold maxLen;omega) (by have:=b.out;have:=t.out;omega) (by have:=i.out.size;have:=a.out;omega) ?_)
 intro V w4 o n _;have Z:=zh (i.grown n (by have:=i.out.size;have:=a.out;omega) (qI4 l));have ae:=zh (ad.grown l n);have A:u8s (xs++qD9 h)=u8s (xs++qB5 2 h.b++qB5 8 h.s)++[.int .u8 x]++Lib.strCells h.key:=by
  rw[zU1,qD9,HX.out];simp[u8s]
 have B:k+(11+h.key.size)=k+2+8+1+h.key.size:=oM
 have Y:Hid (w4.ownsRow base 5 1 V (k+(11+h.key.size)) (u8s (xs++qD9 h))):=by show World.ownsRow _ _ _ _ _ _ _;rw[A,B];simp only[List.append_assoc,List.singleton_append,List.cons_append,List.nil_append] at o |-;exact o
 clear o n A B c0;go_wp2;go_ret;exact⟨V,rfl,Y,Z,ae⟩
theorem Hid.mk'{p:Prop}(h:p):Hid p:=h
theorem xD6{α:Type}(f:α->List Int)(l:List α)(j:Nat)(h:j<l.length):(l.take (j+1)).flatMap f=(l.take j).flatMap f++f l[j]:=by
 rw[tA h,fA];simp
theorem kR3(vb)(base k:Nat)(xs:List Int)(v)(ps)(w)(hk:k+meas θ ps<=900)(hn:ps.length<=1000000)(E:∀ p∈ps,qC3 p)
  (o:Slc w 185 2 v ps.length (qA4 ps)) (z:base<=w.heap.size) (U:w.ownsRow base 5 1 vb k (u8s xs)):
  Calls prog 289 #[vb,v] w λe r=>∃ a,e=.returned a/\r.ownsRow base 5 1 a (k+meas θ ps) (u8s (xs++ps.flatMap qD7))/\Below base w r/\St w r:=by
 obtain⟨x,y,f⟩:∃ x y,v=.slice x ps.length y:=by
  rcases o.val with⟨S,b,c,m,_⟩|⟨g,q,cap,cur,R,m,_⟩
  .rw[S];exact⟨b,c,m⟩
  .exact⟨_,cap,m⟩
 subst f;have L:=zh o;have N:=zh E;have t:=zh z;clear o E z;go_enter func289,ntmps289;go_wp2
 go_loopw [0,9] (λs i wr=>∃ (j:Nat) (a:Value),j<=ps.length/\i=.int .i64 j/\s=a/\Hid (wr.ownsRow base 5 1 a (k+meas θ (ps.take j)) (u8s (xs++(ps.take j).flatMap qD7)))/\Hid (Below base w wr)/\Hid (St w wr)) (λ_ i _=>ps.length-(intOf i).toNat)
 case atStart=>exact⟨0,vb,zL _,rfl,rfl,by show World.ownsRow _ _ _ _ _ _ _;simpa [qD1] using U,Below.refl _ _,St.refl _⟩
 case round=>
  obtain⟨j,a,hj,rfl,rfl,u,HL,l⟩:=hrel;by_cases d:j<ps.length
  .obtain⟨Z,q,Y,cur,R,f,aa,V,B⟩:=L.out.pair oM;obtain⟨c0,Q⟩:=B j d;simp only[vJ,true_and] at f;obtain⟨rfl,rfl⟩:=f;have n:=l.out _ _ _ _ V dC;have O:=ξ n (q+j*2);rw[c0] at O;have P:=ξ n (q+j*2+1);rw[Q] at P;have ab:=ζ n;have T:(j:Int)<(ps.length:Int):=oM
   have W:=N.out ps[j] (gM d);have ac:=qN7 θ ps j;have I:=zh (qL3 θ ps j d);have G:=zh (xD6 qD7 ps j d);clear B;go_wp2_with fail;refine (kA4 ps[j] _ base (k+meas θ (ps.take j)) (xs++(ps.take j).flatMap qD7) _ oM W (by have:=t.out;have:=HL.out.size;simp;omega) (u.alloc _)).mono ?_;rintro e X ⟨F,rfl,C,A,D⟩;have K:Hid (X.ownsRow base 5 1 F (k+meas θ (ps.take (j+1))) (u8s (xs++(ps.take (j+1)).flatMap qD7))):=by
    show World.ownsRow _ _ _ _ _ _ _;rw[I.out,G.out,<-aA,<-Nat.add_assoc];exact C
   have H:=zh ((HL.alloc (by have:=t.out;have:=HL.out.size;omega) _).trans A);have M:=zh ((l.alloc _).trans D);clear C A D;go_wp2;exact⟨⟨j+1,F,oM,by go_num,rfl,K,H,M⟩,by simp[intOf];omega⟩
  .have T:¬(j:Int)<(ps.length:Int):=oM
   have e:ps.take j=ps:=tL oM;have h:=u.out;rw[e] at h;have J:=Hid.mk' h;clear e h;go_wp2;go_ret;exact⟨_,rfl,J,HL,l⟩
theorem kR2(vb)(base k:Nat)(xs:List Int)(v)(ps)(w)(hk:k+meas φ ps<=900)(hn:ps.length<=1000000)(F:∀ p∈ps,p.key.size<=8/\0<=p.b/\p.b<=1000000/\0<=p.s)
  (r:Slc w 87 4 v ps.length (qA9 ps)) (A:base<=w.heap.size) (Z:w.ownsRow base 5 1 vb k (u8s xs)):
  Calls prog 288 #[vb,v] w λe t=>∃ a,e=.returned a/\t.ownsRow base 5 1 a (k+meas φ ps) (u8s (xs++ps.flatMap qD9))/\Below base w t/\St w t:=by
 obtain⟨y,z,m⟩:∃ y z,v=.slice y ps.length z:=by
  rcases r.val with⟨X,b,c,q,_⟩|⟨g,f,cap,cur,W,q,_⟩
  .rw[X];exact⟨b,c,q⟩
  .exact⟨_,cap,q⟩
 subst m;have M:=zh r;have O:=zh F;have u:=zh A;clear r F A;go_enter func288,ntmps288;go_wp2
 go_loopw [0,9] (λs i wr=>∃ (j:Nat) (a:Value),j<=ps.length/\i=.int .i64 j/\s=a/\Hid (wr.ownsRow base 5 1 a (k+meas φ (ps.take j)) (u8s (xs++(ps.take j).flatMap qD9)))/\Hid (Below base w wr)/\Hid (St w wr)) (λ_ i _=>ps.length-(intOf i).toNat)
 case atStart=>exact⟨0,vb,zL _,rfl,rfl,by show World.ownsRow _ _ _ _ _ _ _;simpa [qD1] using Z,Below.refl _ _,St.refl _⟩
 case round=>
  obtain⟨j,a,hj,rfl,rfl,x,HL,o⟩:=hrel;by_cases l:j<ps.length
  .obtain⟨gb,f,ab,cur,W,m,ac,aa,C⟩:=M.out.link oM;obtain⟨c0,T,U,V⟩:=C j l;simp only[vJ,true_and] at m;obtain⟨rfl,rfl⟩:=m;have d:=o.out _ _ _ _ aa dC;have P:=ξ d (f+j*4);rw[c0] at P;have Q:=ξ d (f+j*4+1);rw[T] at Q;have R:=ξ d (f+j*4+2);rw[U] at R;have S:=ξ d (f+j*4+3);rw[V] at S;have ad:=ζ d;have Y:(j:Int)<(ps.length:Int):=oM
   have n:=O.out ps[j] (gM l);have ae:=qN7 φ ps j;have J:=zh (qL3 φ ps j l);have H:=zh (xD6 qD9 ps j l);clear C;go_wp2_with fail;refine (jR6 ps[j] _ base (k+meas φ (ps.take j)) (xs++(ps.take j).flatMap qD9) _ oM n.1 n.2.1 n.2.2.1 n.2.2.2 (by have:=u.out;have:=HL.out.size;simp;omega) (x.alloc _)).mono ?_;rintro e w1 ⟨G,rfl,D,B,E⟩;have L:Hid (w1.ownsRow base 5 1 G (k+meas φ (ps.take (j+1))) (u8s (xs++(ps.take (j+1)).flatMap qD9))):=by
    show World.ownsRow _ _ _ _ _ _ _;rw[J.out,H.out,<-aA,<-Nat.add_assoc];exact D
   have I:=zh ((HL.alloc (by have:=u.out;have:=HL.out.size;omega) _).trans B);have N:=zh ((o.alloc _).trans E);clear D B E;go_wp2;exact⟨⟨j+1,G,oM,by go_num,rfl,L,I,N⟩,by simp[intOf];omega⟩
  .have Y:¬(j:Int)<(ps.length:Int):=oM
   have e:ps.take j=ps:=tL oM;have h:=x.out;rw[e] at h;have K:=Hid.mk' h;clear e h;go_wp2;go_ret;exact⟨_,rfl,K,HL,o⟩
def qL5(lv:Int)(ps:List KV)(hs:List HL):List Int:=[lv,((ps.length+hs.length:Nat):Int)]++ps.flatMap qD7++hs.flatMap qD9
def qA3(lv:Int)(ps:List KV)(hs:List HL):List Int:=qL5 lv ps hs++List.replicate (128-(2+meas θ ps+meas φ hs)) 0
theorem zF1{α:Type}(f:α->List Int)(g:α->Nat)(h:∀ x,(f x).length=g x)(l:List α):(l.flatMap f).length=meas g l:=by
 induction l with
 | nil=>simp[qD1]
 | cons a l ih=>rw[fC,lA,h,ih,qC2]
theorem xL6(a:Int)(ps)(hs):(qL5 a ps hs).length=2+meas θ ps+meas φ hs:=by
 unfold qL5;rw[lA,lA,zF1 qD7 θ qU6,zF1 qD9 φ (λh=>qT9 h)];simp
theorem qQ0(a:Int)(ps)(hs)(h:2+meas θ ps+meas φ hs<=128):(qA3 a ps hs).length=128:=by
 unfold qA3;rw[lA,xL6,List.length_replicate];omega
theorem qK2{w}{T}{sz:Nat}{v}{n:Nat}{cs:List Value}(h:Slc w T sz v n cs):∃ d e,v=.slice d n e:=by
 rcases h.val with⟨f,b,c,a,_⟩|⟨g,j,cap,cur,i,a,_⟩
 .rw[f];exact⟨b,c,a⟩
 .exact⟨_,cap,a⟩
theorem Slc.st{w w'}{T}{sz:Nat}{v}{n:Nat}{cs:List Value}(h:Slc w T sz v n cs)(i:T≠5)(j:St w w'):Slc w' T sz v n cs:=by
 refine⟨h.len,?_⟩;rcases h.val with a|⟨g,k,cap,cur,b,a,c,d,e,f⟩
 .exact Or.inl a
 .exact Or.inr ⟨g,k,cap,cur,b,a,c,d,j _ _ _ _ e i,f⟩
theorem kC2(q:Nat)(d:Int)(pb lb)(n m f c:Nat)(w)(a:w.heap[q]?=some (χ d (.slice pb n f) (.slice lb m c)))(i:n<=100000)(h:m<=100000):
  Calls prog 161 #[.pointer (some ⟨q,0,none⟩)] w λe g=>e=.returned (.int .i64 ((n+m:Nat):Int))/\Kp [] w g:=by
 have j:=ζ a;have b:=ξ a;simp only[χ,zG,zH,zI] at b;clear a;go_enter func161,ntmps161;go_wp2_with fail
 go_quiet (fail)
 go_wp2;go_ret;exact⟨qK7 oM,kF.drewN _⟩
theorem qD5(w)(o1):∃ a,a=w.alloc o1/\a.heap[w.heap.size]?=some o1/\Kp [] w a/\a.heap.size=w.heap.size+1:=⟨_,rfl,υ _ _,kF.alloc _,sM⟩
theorem kR8:zeroCells288=(List.replicate 128 (.int .u8 0)).toArray:=kR
theorem jR5(a:Int)(ps)(hs):qI2 zeroCells288 0 (u8s (qL5 a ps hs)).toArray=(u8s (qA3 a ps hs)).toArray:=by
 rw[kR8];unfold qI2
 congr 1
 rw[qA3,kO2];simp only[List.take_zero,nA,List.drop_replicate,Nat.zero_add,List.size_toArray,xS6,xL6]
 congr 1
 simp[u8s]
theorem qY3(q:Nat)(a:Int)(vp vl)(ps)(hs)(w)(Z:w.heap[q]?=some (χ a vp vl))(bg:0<=a)(bh:a<256)
  (ab:Slc w 185 2 vp ps.length (qA4 ps)) (aa:Slc w 87 4 vl hs.length (qA9 hs)) (hm:2+meas θ ps+meas φ hs<=128) (hc:ps.length+hs.length<=255)
  (a9:∀ p∈ps,qC3 p) (a8:∀ p∈hs,p.key.size<=8/\0<=p.b/\p.b<=1000000/\0<=p.s):
  Calls prog 271 #[.pointer (some ⟨q,0,none⟩)] w λe w'=>e=.returned (.agg (u8s (qA3 a ps hs)).toArray)/\Kp [] w w':=by
 obtain⟨s,u,rfl⟩:=qK2 ab;obtain⟨o,r,rfl⟩:=qK2 aa;have bm:IntKind.u8.wrap a=a:=by rw[IntKind.wrap_u8];omega
 obtain⟨f,aq⟩:∃ f:Nat,f=ps.length+hs.length:=⟨_,rfl⟩;have bl:IntKind.u8.wrap (f:Int)=(f:Int):=by rw[IntKind.wrap_u8];omega
 have ad:=zh aq;have z:=zh hc;have A:=zh hm;have HP:=zh ab;have HL:=zh aa;have bc:=zh a9;have bb:=zh a8;have HQ:=zh Z;have bo:=ζ Z;clear bg bh ab aa hm hc a9 a8 aq Z;go_enter func271,ntmps271;go_wp2_with fail;obtain⟨J,a2,aj,D,bp⟩:=qD5 w (.cells zeroCells288 288);rw[<-a2];clear a2;have az:=D.hp HQ.out;have b:Ϙ J.drew q (χ a (.slice s ps.length u) (.slice o hs.length r)):=az;refine wp_region_held_drew (S:=λW=>Ϙ W q (χ a (.slice s ps.length u) (.slice o hs.length r))) kR b (λ_=>?_);refine zP 0 q 0 b ?_;refine zV 1 (ϖ q) rfl (λW d=>by have c:=ζ d;clear d;go_simp) b ?_;refine zP 2 q 0 b ?_;refine zV 3 (ϊ a) rfl (λW d=>by have c:=ξ d 0;simp only[χ,zG,zH,zI] at c;clear d;go_simp) b ?_;refine zU 4 (.int .u8 a) b ?_;refine zP 5 q 0 b ?_;refine zP 9 q 0 b ?_;refine zV 10 (ϖ q) rfl (λW d=>by have c:=ζ d;clear d;go_simp) b ?_;refine zP 11 q 1 b ?_;refine zV 12 (.slice s ps.length u) rfl (λW d=>by have c:=ξ d 1;simp only[χ,zG,zH,zI] at c;clear d;go_simp) b ?_;refine zP 14 q 0 b ?_;refine zV 15 (ϖ q) rfl (λW d=>by have c:=ζ d;clear d;go_simp) b ?_;refine zP 16 q 2 b ?_;refine zV 17 (.slice o hs.length r) rfl (λW d=>by have c:=ξ d 2;simp only[χ,zG,zH,zI] at c;clear d;go_simp) b ?_;refine zq 6 λK hK=>?_;go_simp;refine (kC2 q a s o ps.length hs.length u r J.drew b (by have:=z.out;omega) (by have:=z.out;omega)).mono ?_;rintro e h ⟨rfl,O⟩;have G:=O.hp b;rw[<-ad.out];have k:Kp [] J h:=((Kp.refl _ J).drew).tr O;refine hK.out _ _ G (λ_=>?_);clear hK K O
 try simp only[zZ]
 refine zU 7 (.int .u8 f) G ?_;refine zq 8 λK hK=>?_;go_simp;obtain⟨w2,a3,af,l,bq⟩:=qD5 h (.cells #[.int .u8 a,.int .u8 f] 5);rw[<-a3];clear a3;have T:=l.hp G;have P:=(D.tr k).tr l;have ak:=(k.tr l).hp aj;have ah:=D.tr k;have ao:=l.below lR sM;have ax:w2.ownsRow h.heap.size 5 1 (.slice (some ⟨h.heap.size,0,none⟩) 2 2) 2 (u8s [a,(f:Int)]):=⟨rfl,Or.inr ⟨h.heap.size,2,_,rfl,lR,af,lR,dC,rfl,rfl⟩⟩;have bt:=k.size;refine hK.out _ _ T (λ_=>?_);clear hK K G k af l aj az b D
 try simp only[zZ]
 refine zq 13 λK hK=>?_;go_simp;refine (kR3 (.slice (some ⟨h.heap.size,0,none⟩) 2 2) h.heap.size 2 [a,(f:Int)] (.slice s ps.length u) ps w2 (by have:=A.out;omega) (by have:=z.out;omega) bc (HP.keep0 P) oM ax).mono ?_;rintro e w3 ⟨v3,rfl,ay,X,I⟩;have U:=I _ _ _ _ T dC;have al:=I _ _ _ _ ak dC;refine hK.out _ _ U (λ_=>?_);clear hK K T ak ax
 try simp only[zZ]
 refine zq 18 λK hK=>?_;go_simp;refine (kR2 v3 h.heap.size (2+meas θ ps) ([a,(f:Int)]++ps.flatMap qD7) (.slice o hs.length r) hs w3 (by have:=A.out;omega) (by have:=z.out;omega) bb ((HL.keep0 P).st dC I) (by have:=X.size;omega) ay).mono ?_;rintro e y ⟨v4,rfl,H,ap,ac⟩;have V:=ac _ _ _ _ U dC;have am:=ac _ _ _ _ al dC;refine hK.out _ _ V (λ_=>?_);clear hK K U al ay
 try simp only[zZ]
 refine zq 19 λK hK=>?_;go_simp;refine zk hK V ?_
 refine zd ?_;have ae:=zh (ah.trans (Kp.of_below ((ao.trans X).trans ap) lR) sM);have a7:u8s ([a,(f:Int)]++ps.flatMap qD7++hs.flatMap qD9)=u8s (qL5 a ps hs):=by rw[qL5,<-ad.out]
 rw[a7] at H;obtain⟨N,F⟩:=eY (2+meas θ ps+meas φ hs);rw[F] at H;have HN:=zh F;rcases H.2 with⟨_,h0⟩|⟨g,cap,cur,rfl,hg,au,bi,_,a0,a1⟩
 .omega
 have ba:Hid (cur.toList.take N=u8s (qL5 a ps hs)):=by show _=_;rw[<-a1,Nat.mul_one]
 have M:Hid (N<=cur.size/\N<=128):=⟨by rw[a0];omega,by rw[<-F];exact A⟩;have HG:=zh au;have HR:=zh am;clear H a1 a0 au am V a7 F I ac X ap ao ah P bi;go_wp2_with fail;obtain⟨w5,a4,Q,E,br⟩:=qD5 y (.cells zeroCells288 288);rw[<-a4];clear a4;have ar:=E.hp HG.out;have an:=E.hp HR.out;have Y:qB0 cur 0 N=(u8s (qL5 a ps hs)).toArray:=by
  simp only[qB0,dZ];rw[ba.out]
 have aw:∀ v∈(qB0 cur 0 N).toList,v.oneCell'=true:=by
  rw[Y];intro v m;simp only[u8s,List.mem_map] at m;obtain⟨x,_,rfl⟩:=m;rfl
 rw[zB5 (n:=N) 3 underlying118 Tryz.size5 (by have:=M.out.2;show N=min N 128;omega) Q ar (by rw[qK4];have:=M.out.2;omega) (by have:=M.out.1;omega) aw,Y];have av:=jR5 a ps hs;rw[av];obtain⟨B,j⟩:=eX ((u8s (qA3 a ps hs)).toArray);have C:B.size=128:=by rw[j];simp only[List.size_toArray,xS6];exact qQ0 a ps hs A
 have bd:∀ v∈B.toList,v.oneCell'=true:=by
  rw[j];intro v m;simp only[u8s,List.mem_map] at m;obtain⟨x,_,rfl⟩:=m;rfl
 rw[<-j];have HB:=zh j;have bk:=ζ HR.out;have bj:w.heap.size≠y.heap.size:=oM
 obtain⟨i,a5,ai,R,ag,bs⟩:∃ i,i=w5.setRow y.heap.size B/\Ϙ i y.heap.size (.cells B 288)/\Ϙ i w.heap.size (.cells zeroCells288 288)/\Kp [] w i/\i.heap.size=w5.heap.size:=
  ⟨_,rfl,setRow_heap _ _ _ _ _ _ Q,(setRow_other _ _ _ _ bj).trans an,(ae.tr E).setRow (Or.inr (by have:=ae.out.size;omega)) _,sM⟩
 rw[<-a5];clear a5 Y aw an Q ar E av j;have bn:qB0 B 0 128=B:=by rw[<-C];simp[qB0,tL]
 go_wp2_with (
  with_reducible refine qV2 (t:=288) ?_ 128 ?_ y.heap.size 0 ?_ B 288 (0,0) ?_ ?_ ?_
  .kernel_rfl
  .kernel_rfl
  .rfl
  .exact ai
  .omega)
 rw[qQ3 R (by simp[qK4,C]) bd];rw[show B.toList.toArray=B from by simp,qO7 (by rw[qK4,C])];obtain⟨L,a6,bf,be⟩:∃ L,L=i.setRow w.heap.size B/\Ϙ L w.heap.size (.cells B 288)/\Kp [] w L:=
  ⟨_,rfl,setRow_heap _ _ _ _ _ _ R,ag.setRow (Or.inr lR) _⟩
 rw[<-a6];clear a6 ai R ag;go_wp2_with fail;exact bodyPost_ret (results_cell_row results271 _ _ w.heap.size _ _ _ _ rfl bf underlying288 rfl (by rw[C];kernel_rfl)) rfl ⟨by rw[HB.out],be⟩
end Go.Proofs.YtdohpenfkdckiaaGreatDoor
