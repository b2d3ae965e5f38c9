import Derived.Test.YtdohpenfkdckiaaGreatDoorJ08
import Derived.Test.YtdohpenfkdckiaaGreatDoorJ11
import Derived.Maps.OwnSet
set_option linter.all false
set_option maxRecDepth 100000
set_option maxHeartbeats 20000000
namespace Go.Proofs.YtdohpenfkdckiaaGreatDoor
open Go.Proofs.Tryz
open Go.RowKit
theorem zI2(E)(r)(h)(g:Nat)(cap)(f:ByteArray->Bool)(w)(Z:E.Dev w)(T:RR E w h r)(hg:RGood r)(ac:Up f)(Y:Asks E w g cap f)
  (an:∀ (args) (W),Sem.run prog (callFunc g args) W=.ok (.enter g args) W):
  Calls prog 49 #[τ E.V h,.func (.func g) #[] cap] w λe L=>e=.returned (qC7 (r.cont.find? λq=>f q.k))/\E.To w L:=by
 have d:=zh Z;have O:=zh T;have HG:=zh hg;have HA:=zh Y;have aj:=zh ac;clear Z T hg Y ac;rw[τ];go_enter func49,ntmps49;go_wp2_with fail;obtain⟨A,ad,B,x,C,ao⟩:=alC w (.cells (ϟ E.V h) 89) (.cells ϝ 42)
 rw[<-ad];clear ad;have s:=Env.To.of0 d C
 cases r with
 | none=>
  have hh:h=⟨⟨#[]⟩,0,0,none⟩:=O.out;have aa:Ω 92 #[τ E.V h] A λe L=>e=ϱ (.bool true)/\Kp [] A L:=by rw[hh];exact qY7 E.V A
  have af:=zh aa;clear hh aa;refine (show Calls _ _ _ _ _ from af).mono ?_;rintro e w1 ⟨rfl,b⟩;have y:=s.tail b;have c:=b.hp x;have al:=ζ c;have z0:=ξ c;have P:=φ c;have N:=zh c;clear c B x C b s;go_wp2;have m:=qI2 (.string ⟨#[]⟩) (.string ⟨#[]⟩) N.out;have z:=y.store' oM N dC m.2;have t:=ξ m.1 0;have u:=ξ m.1 1;simp only[zG,zH,zI] at t u;refine bodyPost_ret (v:=qC7 none) ?_ rfl ⟨rfl,z⟩;simp[results,results49,go_sem,t,u,qC7]
 | «at» n l=>
  have F:RL E.O n w h l:=O.out;obtain⟨g1,Q,g3⟩:=HG.out;refine (qV1 E n h l A (Env.RL F d s) g1).mono ?_;rintro e w1 ⟨rfl,b⟩;have y:=s.tail b;have R:=b.hp B;have c:=b.hp x;have ah:=zh (Env.RL F d y);have ag:=zh Q;have am:1<=cnt n l.sub:=oM
  obtain⟨fk,fv,fb,ab⟩:∃ fk fv fb,qC7 ((cont n l.sub).find? λq=>f q.k)=.tuple #[.agg #[.string fk,.string fv],.bool fb]:=by
   cases (cont n l.sub).find? λq=>f q.k with
   | none=>exact⟨_,_,_,rfl⟩
   | some p=>exact⟨_,_,_,rfl⟩
  have M:=zh ab;clear B x C s b ab F Q;go_wp2_with fail;have j:=R;refine wp_region_held_drew (S:=λW=>Ϙ W w.heap.size (.cells (ϟ E.V h) 89)) kR j (λ_=>?_);refine zW 0 (.agg (ϟ E.V h)) j id ?_;refine zW 1 (.agg (ϟ E.V h)) j id ?_;refine zU 3 (.func (.func g) #[] cap) j ?_;refine zq 2 λK hK=>?_;go_simp;have J:=y.tail (kF.drew);refine (qX3 E n h l w1.drew J.dev (RL.keep ah ((Kp.refl [] _).drew) (Apt.nil _ _))).mono ?_;rintro e w2 ⟨q,rfl,ak,a⟩;have I:=J.trans a;have G:=a.new (k:=w.heap.size) d oM j;have U:=a.new (k:=w.heap.size+1) d oM c;refine zk hK G ?_
  clear a J j c R;refine zq 4 λK hK=>?_;go_simp;refine (jN4 E g cap f aj an n h l q w2 I.dev ak ag am (HA.to I)).mono ?_;rintro e w3 ⟨rfl,a⟩;rw[M.out];have z:=I.trans a;have o:=a.new (k:=w.heap.size) d oM G;have i:=a.new (k:=w.heap.size+1) d oM U;refine zk hK o ?_
  clear a G U;refine zU 5 (.agg #[.string fk,.string fv]) o ?_;refine zU 6 (.bool fb) o ?_;have al:=ζ i;have z0:=ξ i;have P:=φ i;refine zq 7 λK hK=>?_;go_simp;have m:=qI2 (.string fk) (.string fv) i;obtain⟨w4,ae,V,D⟩:=gE m;rw[<-ae];clear ae m z0 P;have X:=z.store' oM i dC D;have H:=D.hp o;refine zk hK H ?_
  refine zq 8 λK hK=>?_;go_simp;refine zk hK H ?_
  refine zd ?_;have ai:=zh X;clear H o X z D i;go_wp2;have t:=ξ V 0;have u:=ξ V 1;simp only[zG,zH,zI] at t u;refine bodyPost_ret (v:=.tuple #[.agg #[.string fk,.string fv],.bool fb]) ?_ rfl ⟨?_,ai⟩
  .simp[results,results49,go_sem,t,u]
  .rw[show (Root.at n l).cont=cont n l.sub from rfl,M.out]
structure Tx where
 St:Nat
 nr:Int
 wrt:Bool
 over:Bool
 on:Option Addr
 h:HL
 ch:Int
def qA1(t:Tx):Obj:=
 .cells #[.pointer (some ⟨t.St,0,none⟩),.int .u64 t.nr,.bool t.wrt,.bool t.over,.pointer t.on,.string t.h.key,.int .i64 t.h.b,.int .u64 t.h.s,.pointer t.h.ptr,.int .u64 t.ch] 99
theorem jA3(args)(W):Sem.run prog (callFunc 90 args) W=.ok (.enter 90 args) W:=by
 simp[go_sem,func90]
theorem jQ5(S F x f:Nat)(t)(first cap)(w)(R:Option Int->World->Prop)(d:w.heap[S]?=some (.cells #[.pointer (some ⟨x,0,none⟩)] 32))(b:w.heap[F]?=some (.cells #[.func (.func f) first cap] 1))(h:w.heap[x]?=some (qA1 t))(l:t.over=false)
  (o:∀ W:World,Sem.run prog (callFunc f (first++cap)) W=.ok (.enter f (first++cap)) W)
  (g:Calls prog f (first++cap) w λe a=>∃ k,e=qB5 k/\R k a):
  Calls prog 90 #[.pointer (some ⟨S,0,none⟩),.pointer (some ⟨F,0,none⟩)] w λe a=>∃ k,e=qB5 k/\R k a:=by
 have n:=ξ d 0;have j:=ξ b 0;have m:=ξ h 3;simp[l] at n j m;clear d b h;have i:=zh g;clear g;go_enter func90,ntmps90;go_wp2_with fail;refine (show Calls _ _ _ _ _ from i).mono ?_;rintro e w1 ⟨k,rfl,c⟩
 cases k with
 | none=>
  simp only[qB5];go_wp2
  go_end0
  exact⟨none,rfl,c⟩
 | some k=>
  simp only[qB5];go_wp2;exact⟨rfl,some k,rfl,c⟩
theorem jQ6(S F x:Nat)(t)(w)(a:w.heap[S]?=some (.cells #[.pointer (some ⟨x,0,none⟩)] 32))(b:w.heap[x]?=some (qA1 t))(c:t.over=true):
  Calls prog 90 #[.pointer (some ⟨S,0,none⟩),.pointer (some ⟨F,0,none⟩)] w λe g=>e=qB5 (some 5)/\g=w:=by
 have f:=ξ a 0;have d:=ξ b 3;simp[c] at f d;clear a b;go_enter func90,ntmps90;go_wp2;exact⟨rfl,rfl,rfl,rfl⟩
theorem xC8(x St f:Nat)(t)(s)(first cap)(call)(X)(Q:Option Int->Sto->World->World->Prop)(w)(A:w.heap[x]?=some (qA1 t))(O:t.St=St)(n:w.heap[St]?=some (θ 0 s))(r:s.po=false)(q:∀ i,i∈X->i<w.heap.size)
  (z:∀ W:World,Kp [St] w W->W.heap[St]?=some (θ 1 s)->W.heap[w.heap.size]?=some (.cells #[.pointer (some ⟨x,0,none⟩)] 32)->W.heap[w.heap.size+1]?=some (.cells #[.func (.func f) first cap] 1)->Calls prog 90 #[.pointer (some ⟨w.heap.size,0,none⟩),.pointer (some ⟨w.heap.size+1,0,none⟩)] W λe w1=>∃ k a,k≠some 8/\e=qB5 k/\Q k a W w1/\Kp (St::X) W w1/\w1.heap[St]?=some (θ 1 a)):
  Calls prog 45 #[.pointer (some ⟨x,0,none⟩),.string call,.func (.func f) first cap] w λe d=>∃ k a v,e=.returned v/\ErrV d v k/\d.heap[St]?=some (θ 0 a)/\Kp (St::X) w d/\∃ W w1 B,Q k a W w1/\Kp [St] w W/\w.heap.size<=B/\B<W.heap.size/\w1.heap[B]?=some (.cells #[.nilIface] 38)/\Kp [St,B] w1 d/\w1.heap[St]?=some (θ 1 a):=by
 have S:=zM;have E:=zh r;clear r;have R:=ζ n;have U:=ζ A;subst O;have F:=ξ (ν (.cells #[.func (Fn.func f) first cap] 1) (ν (.cells #[ϖ x] 32) A)) 0;simp only[zG,zH] at F;obtain⟨b,p,c,T,G,J⟩:∃ b,b=(w.alloc (.cells #[ϖ x] 32)).alloc (.cells #[.func (Fn.func f) first cap] 1)/\Kp [] w b/\b.heap.size=w.heap.size+2/\Ϙ b w.heap.size (.cells #[ϖ x] 32)/\b.heap[w.heap.size+1]?=some (.cells #[.func (Fn.func f) first cap] 1):=by
  refine⟨_,rfl,(kF.alloc _).alloc _,sM,ν _ (υ _ _),?_⟩;have e:=υ (w.alloc (.cells #[ϖ x] 32)) (.cells #[.func (Fn.func f) first cap] 1);simpa using e
 have j:Hid (Ω 64 #[ϖ t.St,.string call,.func (.func 90) #[] #[ϖ w.heap.size,ϖ (w.heap.size+1)]] b _):=zV5 t.St 90 s #[] #[ϖ w.heap.size,ϖ (w.heap.size+1)] call X Q b (c.hp n) E (jA3 _) (λi N=>by have:=q i N;omega) λW hK M=>
  z W ((c.mono (S':=[t.St]) sM).trans hK (λ_ h _=>h)) M (hK.ho G) (hK.ho J)
 clear z q;go_enter func45,ntmps45;go_wp2_with fail;rw[<-p];clear p;refine (show Calls _ _ _ _ _ from j).mono ?_;rintro e g ⟨k,a,v,rfl,y,o,K,W,w1,B,m,L,P,H,I,l,u⟩;have D:Hid (∃ k a C,Ending.returned v=ϱ C/\ErrV g C k/\Ϙ g t.St (θ 0 a)/\Kp (t.St::X) w g/\∃ W w1 B,Q k a W w1/\Kp [t.St] w W/\w.heap.size<=B/\B<W.heap.size/\Ϙ w1 B (.cells #[.nilIface] 38)/\Kp [t.St,B] w1 g/\Ϙ w1 t.St (θ 1 a)):=
  ⟨k,a,v,rfl,y,o,(c.mono (S':=t.St::X) sM).trans K (λ_ h _=>h),W,w1,B,m,(c.mono (S':=[t.St]) sM).trans L (λ_ h _=>h),oM,H,I,l,u⟩
 clear y m l o u j;go_wp2;go_ret;exact D
theorem xC9(x St f:Nat)(t)(s)(first cap)(call)(X)(Q:Option Int->Sto->World->World->Prop)(w)(h:w.heap[x]?=some (qA1 t))(r:t.over=false)(y:t.St=St)(n:w.heap[St]?=some (θ 0 s))(u:s.po=false)(q:x≠St)
  (p:∀ W:World,Sem.run prog (callFunc f (first++cap)) W=.ok (.enter f (first++cap)) W) (o:∀ i,i∈X->i<w.heap.size)
  (z:∀ W:World,Kp [St] w W->W.heap[St]?=some (θ 1 s)->Calls prog f (first++cap) W λe w1=>∃ k a,k≠some 8/\e=qB5 k/\Q k a W w1/\Kp (St::X) W w1/\w1.heap[St]?=some (θ 1 a)):
  Calls prog 45 #[.pointer (some ⟨x,0,none⟩),.string call,.func (.func f) first cap] w λe b=>∃ k a v,e=.returned v/\ErrV b v k/\b.heap[St]?=some (θ 0 a)/\Kp (St::X) w b/\∃ W w1 B,Q k a W w1/\Kp [St] w W/\w.heap.size<=B/\B<W.heap.size/\w1.heap[B]?=some (.cells #[.nilIface] 38)/\Kp [St,B] w1 b/\w1.heap[St]?=some (θ 1 a):=
 xC8 x St f t s first cap call X Q w h y n u o λW hK m j l=>
  (jQ5 _ _ x f t first cap W (λk w1=>∃ a,k≠some 8/\Q k a W w1/\Kp (St::X) W w1/\Ϙ w1 St (θ 1 a)) j l (hK.heap h (by simp;exact q)) r p ((z W hK m).mono λe w1 ⟨k,a,c,d,g⟩=>⟨k,d,a,c,g⟩)).mono λe w1 ⟨k,d,a,c,g⟩=>⟨k,a,c,d,g⟩
theorem qP3(k:Option Int)(m:k≠some 8)(x St f:Nat)(t)(s s')(first cap)(call)(X)(Q:World->World->Prop)(w)(u:w.heap[x]?=some (qA1 t))(o:t.over=false)(q:t.St=St)(h:w.heap[St]?=some (θ 0 s))(p:s.po=false)(n:x≠St)
  (l:∀ W:World,Sem.run prog (callFunc f (first++cap)) W=.ok (.enter f (first++cap)) W) (j:∀ i,i∈X->i<w.heap.size)
  (r:∀ W:World,Kp [St] w W->W.heap[St]?=some (θ 1 s)->Calls prog f (first++cap) W λe w1=>e=qB5 k/\Q W w1/\Kp (St::X) W w1/\w1.heap[St]?=some (θ 1 s')):
  Calls prog 45 #[.pointer (some ⟨x,0,none⟩),.string call,.func (.func f) first cap] w λe a=>∃ v,e=.returned v/\ErrV a v k/\a.heap[St]?=some (θ 0 s')/\Kp (St::X) w a/\∃ W w1 B,Q W w1/\Kp [St] w W/\w.heap.size<=B/\B<W.heap.size/\w1.heap[B]?=some (.cells #[.nilIface] 38)/\Kp [St,B] w1 a:=by
 refine (xC9 x St f t s first cap call X (λy t W w1=>y=k/\t=s'/\Q W w1) w u o q h p n l j λW h1 h2=>(r W h1 h2).mono ?_).mono ?_
 .rintro e w1 ⟨b,c,d,g⟩;exact⟨k,s',m,b,⟨rfl,rfl,c⟩,d,g⟩
 .rintro e a ⟨_,_,v,b,c,d,g,W,w1,B,⟨rfl,rfl,e5⟩,e6,e7,e8,e9,e10,_⟩;exact⟨v,b,c,d,g,W,w1,B,e5,e6,e7,e8,e9,e10⟩
theorem qT1(x St f:Nat)(t)(s)(first cap)(call)(w)(b:w.heap[x]?=some (qA1 t))(i:t.over=true)(l:t.St=St)(d:w.heap[St]?=some (θ 0 s))(j:s.po=false)(g:x≠St):
  Calls prog 45 #[.pointer (some ⟨x,0,none⟩),.string call,.func (.func f) first cap] w λe a=>∃ v,e=.returned v/\ErrV a v (some 5)/\a.heap[St]?=some (θ 0 s)/\Kp [St] w a:=
 (xC8 x St f t s first cap call [] (λk c _ _=>k=some 5/\c=s) w b l d j sM λW hK hS hB hF=>
  (jQ6 _ _ x t W hB (hK.heap b (by simp;exact g)) i).mono λe w1 h=>⟨some 5,s,dC,h.1,⟨rfl,rfl⟩,by rw[h.2];exact Kp.refl _ _,by rw[h.2];exact hS⟩).mono λe a ⟨k,c,v,h1,h2,h3,h4,_,_,_,⟨e1,e2⟩,_⟩=>⟨v,h1,by rw[<-e1];exact h2,by rw[<-e2];exact h3,h4⟩
open Go.Maps (Keyed)
open Go.ChangeMaps
theorem zW0(V:Nat)(b s:Int)(w):
  Calls prog 110 #[.pointer (some ⟨V,0,none⟩),.agg #[.int .i64 b,.int .u64 s]] w λe a=>e=.returned (τ V ⟨⟨#[]⟩,b,s,none⟩)/\Kp [] w a:=by
 go_enter func110,ntmps110;go_wp2;refine bodyPost_ret (results_cell_row results110 _ _ (w.heap.size+1) 89 #[ϖ V,.string ⟨#[]⟩,ϊ b,.int .u64 s,.pointer none] (0,0) _ rfl ?_ underlying89 rfl kR) rfl ⟨rfl,(kF.alloc _).alloc _⟩;have e:=υ (w.alloc (.cells #[ϊ b,.int .u64 s] 84)) (.cells #[ϖ V,.string ⟨#[]⟩,ϊ b,.int .u64 s,.pointer none] 89);simpa using e
theorem zA6(St:Nat)(u:Int)(s)(w)(l:w.heap[St]?=some (θ u s)):
  Calls prog 66 #[.pointer (some ⟨St,0,none⟩)] w λe D=>e=.returned (τ s.V ⟨⟨#[]⟩,s.rb,s.rs,none⟩)/\Kp [] w D:=by
 have F:=ζ l;have x:=zh l;clear l;go_enter func66,ntmps66;go_wp2_with fail;obtain⟨m,r,o,h⟩:=alA w (.cells ϛ 89);rw[<-r];clear r;have a:=h.hp x.out;refine wp_region_held_drew (S:=λW=>Ϙ W St (θ u s)) kR a (λ_=>?_);refine zP 0 St 0 a ?_;refine zP 1 St 0 a ?_;refine zP 2 St 2 a ?_;refine zV 3 (ϖ s.V) rfl (λW b=>by have c:=ξ b 2;simp only[θ,zG,zH,zI] at c;clear b;go_simp) a ?_;refine zP 4 St 0 a ?_;refine zP 5 St 0 a ?_;refine zP 6 St 3 a ?_;refine zP 7 St 4 a ?_;refine zV 8 (.agg #[ϊ s.rb,.int .u64 s.rs]) rfl (λW b=>by have c:=ξ b 4;have d:=ξ b 5;simp only[θ,zG,zH,zI] at c d;clear b;go_simp) a ?_;refine zq 9 λK hK=>?_;go_simp;refine (zW0 s.V s.rb s.rs m.drew).mono ?_;rintro e w1 ⟨rfl,n⟩;have g:Kp [] m w1:=((Kp.refl _ m).drew).tr n;have k:=g.hp a;have f:=g.hp o;have E:=ζ f;refine hK.out _ _ k (λ_=>?_);clear hK K n
 try simp only[zZ]
 have C:=ξ f;have y:=φ f;refine zq 10 λK hK=>?_;rw[τ];go_simp;have q:=qN1 (ϖ s.V) (.string ⟨#[]⟩) (ϊ s.rb) (.int .u64 s.rs) (.pointer none) f;obtain⟨H,t,z,j⟩:=gE q;have B:HL.ptr ⟨⟨#[]⟩,s.rb,s.rs,none⟩=none:=rfl
 try simp only[B]
 rw[<-t];clear t q C y;have p:=j.ho k;refine hK.out _ _ p (λ_=>?_);refine zd ?_;have v:=zh ((h.tr g).trans j (by intro i A G;simp at A;omega));clear p k a f j g h o;go_wp2;exact bodyPost_ret (results_cell_row results66 _ _ (w.heap.size) 89 #[ϖ s.V,.string ⟨#[]⟩,ϊ s.rb,.int .u64 s.rs,.pointer none] (0,0) _ rfl z underlying89 rfl kR) rfl ⟨rfl,v⟩
def qU8(V:Nat):Value→Option (DataW Unit × List MemPlace)
 | .agg c=>match c.toList with
  | [.pointer (some a),.string k,.int .i64 x,.int .u64 y,.pointer none]=>if a.block=V∧a.off=0∧a.spot=none then some (.agg [.lit (.string k.data.toList),.lit (.int .i64 x),.lit (.int .u64 y)],[]) else none
  | _=>none
 | _=>none
def RM(w:World)(V M n:Nat)(D:DataW Unit):Prop:=w.ownsMap prog 78 (qU8 V) M n D
theorem qM4:Keyed prog 78:=Maps.int_keyed underlying78
theorem RM.kp{S}{w w'}{V M n:Nat}{D}(h:RM w V M n D)(hK:Kp S w w')(c:M ∉ S):RM w' V M n D:=by
 obtain⟨b,a,d,e⟩:=h;exact⟨b,a,hK.heap d c,e⟩
theorem Kp.turned{w w'}{M:Nat}(h:w.mapTurned w' M):Kp [M] w w':=
 (Kp.refl [M] w).grown h.grown (λk a=>by cases a;exact .inl sM)
theorem zA1:prog.underlying 167=some (.map 78 89):=underlying167
def χ(n:Int):Lit:=.int .u64 n
theorem xE2{n:Int}(a:0<=n)(b:n<=1000000000):keyOf prog 78 (.int .u64 n)=some (χ n):=
 Maps.keyOf_int_mk underlying78 (by simp[Lit.wf,IntKind.min,IntKind.max,IntKind.signed,IntKind.bits];omega)
theorem RM.len{w}{V M n:Nat}{D}(h:RM w V M n D)(ty):(Builtin.len_ #[167] ty #[.map (some M)]).run prog w=.ok (.int .i64 (Maps.size D)) w:=
 World.ownsMap.len h zA1 ty
theorem RM.drop{w}{V M n:Nat}{D}(h:RM w V M n D){x:Int}(c:0<=x)(b:x<=1000000000)(ty):
  ∃ a,(Builtin.delete_ #[167,78] ty #[.map (some M),.int .u64 x]).run prog w=.ok (.tuple #[]) a/\RM a V M n (D.del (χ x))/\Kp [M] w a:=by
 obtain⟨a,b,d,e⟩:=World.ownsMap.drop h qM4 zA1 (xE2 c b) ty;exact⟨a,b,d,Kp.turned e⟩
def qG8(h:HL):DataW Unit:=.agg [.lit (.string h.key.data.toList),.lit (.int .i64 h.b),.lit (.int .u64 h.s)]
theorem RM.store{w}{V M n:Nat}{D}(h:RM w V M n D){x:Int}(c:0<=x)(b:x<=1000000000)(j:n<=1000000000)(r)(g:r.p=none):
  ∃ a,(Instr.mapUpdate 167 (.map (some M)) (.int .u64 x) (τ V r)).run prog w=.ok () a/\RM a V M (n+1) (D.put (χ x) (qG8 r))/\Kp [M] w a:=by
 have i:qU8 V (τ V r)=some (qG8 r,[]):=by
  have f:r.ptr=none:=by simp[HL.ptr,g]
  rw[τ,f];simp[qU8,qG8]
 obtain⟨a,b,d,e⟩:=World.ownsMap.store h qM4 zA1 (by simp[maxLen];omega) (xE2 c b) i;exact⟨a,b,d,Kp.turned e⟩
def Sto.wrote(s:Sto):Sto:={ s with bg:=s.bg+1,wr:=s.bg+1 }
def Sto.read(s:Sto):Sto:={ s with bg:=s.bg+1 }
def Sto.left(s:Sto)(nr:Int):Sto:={ s with wr:=if nr=s.wr then 0 else s.wr }
theorem jK9(St:Nat)(s)(w)(a:w.heap[St]?=some (θ 1 s))(f:s.wr=0)(i:0<=s.bg)(j:s.bg<=100000000):
  Calls prog 67 #[.pointer (some ⟨St,0,none⟩),.bool true] w λe c=>e=.returned (.int .u64 (s.bg+1))/\c.heap[St]?=some (θ 1 s.wrote)/\Kp [St] w c:=by
 have k:=ζ a;have g:=ξ a 8;have b:=ξ a 9;simp only[θ,zG,zH,zI] at g b;have h:=φ a;rw[f] at b;have d:=zh a;clear a;go_enter func67,ntmps67;go_wp2;go_ret;exact⟨rfl,μ (μ d 8 _) 9 _,(kF.sc _).sc _⟩
theorem jK7(St:Nat)(s)(w)(a:w.heap[St]?=some (θ 1 s))(f:s.wr≠0):
  Calls prog 67 #[.pointer (some ⟨St,0,none⟩),.bool true] w λe c=>e=qB5 (some 4)/\c=w:=by
 have d:=ζ a;have b:=ξ a 9;simp only[θ,zG,zH,zI] at b;clear a;go_enter func67,ntmps67;go_wp2;exact⟨rfl,rfl,rfl,rfl⟩
theorem jK6(St n:Nat)(s)(D)(w)(a:w.heap[St]?=some (θ 1 s))(c:RM w s.V s.M n D)(b:Maps.size D=4):
  Calls prog 67 #[.pointer (some ⟨St,0,none⟩),.bool false] w λe g=>e=qB5 (some 4)/\g=w:=by
 have h:=ζ a;have f:=ξ a 10;simp only[θ,zG,zH,zI] at f;have d:=c.len 3;rw[b] at d;clear a c b;go_enter func67,ntmps67;go_wp2;exact⟨rfl,rfl,rfl,rfl⟩
theorem jK8(St n:Nat)(s)(D)(w)(d:w.heap[St]?=some (θ 1 s))(l:RM w s.V s.M n D)(F:Maps.size D<4)(U:n<=100000000)(N:0<=s.bg)(O:s.bg<=100000000)(y:s.M≠St):
  Calls prog 67 #[.pointer (some ⟨St,0,none⟩),.bool false] w λe p=>e=.returned (.int .u64 (s.bg+1))/\p.heap[St]?=some (θ 1 s.read)/\RM p s.V s.M (n+1) (D.put (χ (s.bg+1)) (qG8 ⟨⟨#[]⟩,s.rb,s.rs,none⟩))/\Kp [St,s.M] w p:=by
 have R:=ζ d;have J:=ξ d 8;have I:=ξ d 10;simp only[θ,zG,zH,zI] at J I;have M:=φ d 8;have T:=l.len 3;have P:¬((Maps.size D:Nat):Int)=4:=oM
 have B:=zh l;have q:=zh y;have C:=zh d;clear d l F y;go_enter func67,ntmps67;go_wp2_with fail;obtain⟨b,A,a,j⟩:∃ b,b=w.setCell ⟨St,8,none⟩ (.int .u64 (s.bg+1))/\Ϙ b St (θ 1 s.read)/\Kp [St] w b:=⟨_,rfl,μ C 8 _,kF.sc _⟩;rw[<-A];clear A;have m:=B.out.kp j (by simp;exact q);have G:=m;refine wp_region_held_drew (S:=λW=>Ϙ W St (θ 1 s.read)) kR a (λ_=>?_);refine zP 0 St 0 a ?_;refine zP 1 St 0 a ?_;refine zP 2 St 10 a ?_;refine zV 3 (.map (some s.M)) rfl (λW f=>by have c:=ξ f 10;simp only[θ,Sto.read,zG,zH,zI] at c;clear f;go_simp) a ?_;refine zP 4 St 0 a ?_;refine zP 5 St 0 a ?_;refine zP 6 St 8 a ?_;refine zV 7 (.int .u64 (s.bg+1)) rfl (λW f=>by have c:=ξ f 8;simp only[θ,Sto.read,zG,zH,zI] at c;clear f;go_simp) a ?_;refine zP 8 St 0 a ?_;refine zq 9 λK hK=>?_;go_simp;refine (zA6 St 1 s.read b.drew a).mono ?_;rintro e w1 ⟨rfl,t⟩;have i:Kp [] b w1:=((Kp.refl _ b).drew).tr t;have o:=i.hp a;have u:=m.kp i sM;refine hK.out _ _ o (λ_=>?_);clear hK K t
 try simp only[zZ]
 obtain⟨V,z,v,k⟩:=u.store (x:=s.bg+1) oM oM oM ⟨⟨#[]⟩,s.rb,s.rs,none⟩ rfl;have g:=k.heap o (by simp;exact λh=>q h.symm);refine zq 10 λK hK=>?_;have H:τ s.read.V ⟨⟨#[]⟩,s.read.rb,s.read.rs,none⟩=τ s.V ⟨⟨#[]⟩,s.rb,s.rs,none⟩:=rfl;rw[H];rw[τ] at z |-;go_simp;refine hK.out _ _ g (λ_=>?_);refine zd ?_;have r:=zh (n2 v (((j.mono (S':=[St,s.M]) (by simp +contextual)).tr i).trans k (by simp +contextual)));have E:=zh g;have Q:=ζ g;have L:=ξ g 8;simp only[θ,Sto.read,zG,zH,zI] at L;clear g o a v u m G k i j z;go_wp2;go_ret;exact⟨rfl,E,r.1,r.2⟩
theorem jY1(St n:Nat)(s)(a:Int)(D)(w)(b:w.heap[St]?=some (θ 1 s))(i:RM w s.V s.M n D)(r:0<=a)(t:a<=1000000000)(f:s.M≠St):
  Calls prog 111 #[.pointer (some ⟨St,0,none⟩),.int .u64 a] w λe q=>e=.returned (.tuple #[])/\q.heap[St]?=some (θ 1 (s.left a))/\RM q s.V s.M n (D.del (χ a))/\Kp [St,s.M] w q:=by
 have A:=ζ b;by_cases g:a=s.wr
 .obtain⟨k,x,o,m⟩:∃ k,k=w.setCell ⟨St,9,none⟩ (.int .u64 0)/\Ϙ k St (θ 1 (s.left a))/\Kp [St] w k:=⟨_,rfl,by rw[Sto.left,if_pos g];exact μ b 9 _,kF.sc _⟩;have u:=i.kp m (by simp;exact f);obtain⟨w1,v,d,c⟩:=u.drop r t 0;have l:Hid (Ϙ w1 St (θ 1 (s.left a))/\RM w1 s.V s.M n (D.del (χ a))/\Kp [St,s.M] w w1):=⟨c.heap o (by simp;exact λh=>f h.symm),d,(m.mono (by simp +contextual)).trans c (by simp +contextual)⟩;have j:=ξ b 9;have p:=ξ b 10;simp only[θ,zG,zH,zI] at j p;have y:=ξ o 10;simp only[θ,Sto.left,zG,zH,zI] at y;have z:=φ b 9;rw[x] at y v;rw[<-g] at j;clear b i o u d m c f x g;go_enter func111,ntmps111;go_wp2
  go_end0
  exact⟨rfl,l⟩
 .obtain⟨w1,v,d,c⟩:=i.drop r t 0;have l:Hid (Ϙ w1 St (θ 1 (s.left a))/\RM w1 s.V s.M n (D.del (χ a))/\Kp [St,s.M] w w1):=⟨by rw[Sto.left,if_neg g];exact c.heap b (by simp;exact λh=>f h.symm),d,c.mono (by simp +contextual)⟩;have j:=ξ b 9;have p:=ξ b 10;simp only[θ,zG,zH,zI] at j p;have B:(a == s.wr)=false:=by simp[g]
  clear b i d c f;go_enter func111,ntmps111;go_wp2
  go_end0
  exact⟨rfl,l⟩
theorem xW9(X B T g St:Nat)(j:Bool)(s s')(u:Int)(L)(R:World->Prop)(w)(Z:w.heap[X]?=some (.cells #[.pointer (some ⟨g,0,none⟩)] 28))(E:w.heap[B]?=some (.cells #[.bool j] 4))(Q:w.heap[T]?=some (.cells #[.pointer none] 32))
  (F:w.heap[g]?=some (.cells #[.pointer (some ⟨St,0,none⟩)] 102)) (O:w.heap[St]?=some (θ 1 s))
  (I:X ∉ St::L/\B ∉ St::L/\g ∉ St::L/\T ∉ St::L) (aa:T≠X/\T≠B/\T≠g/\T≠St)
  (G:∀ W:World,Kp [] w W->Calls prog 67 #[.pointer (some ⟨St,0,none⟩),.bool j] W λe l=>e=.returned (.int .u64 u)/\l.heap[St]?=some (θ 1 s')/\R l/\Kp (St::L) W l)
  (J:∀ a b:World,R a->Kp [T] a b->R b):
  Calls prog 65 #[.pointer (some ⟨X,0,none⟩),.pointer (some ⟨B,0,none⟩),.pointer (some ⟨T,0,none⟩)] w λe l=>e=qB5 none/\(∃ x,w.heap.size<=x/\l.heap[x]?=some (qA1 ⟨St,u,j,false,some ⟨s.V,0,none⟩,⟨⟨#[]⟩,s.rb,s.rs,none⟩,0⟩)/\l.heap[T]?=some (.cells #[.pointer (some ⟨x,0,none⟩)] 32))/\R l/\Kp (St::T::L) w l/\l.heap[St]?=some (θ 1 s'):=by
 have C:=zh aa;have HL:=zh I;have HE:=zh G;have D:=zh J;clear aa I G J;have af:=ζ Q;go_enter func65,ntmps65;go_wp2_with fail;have f:=n3 Z E F;refine wp_region_held_drew (S:=λW=>Ϙ W X (.cells #[ϖ g] 28)/\Ϙ W B (.cells #[.bool j] 4)/\Ϙ W g (.cells #[ϖ St] 102)) kR f (λ_=>?_);refine zV 0 (ϖ g) rfl (λW d=>by have c:=ξ d.1 0;simp at c;clear d;go_simp) f ?_;refine zP 1 g 0 f ?_;refine zP 2 g 0 f ?_;refine zV 3 (ϖ St) rfl (λW d=>by have c:=ξ d.2.2 0;simp at c;clear d;go_simp) f ?_;refine zV 4 (.bool j) rfl (λW d=>by have c:=ξ d.2.1 0;simp at c;clear d;go_simp) f ?_;refine zV 5 (ϖ g) rfl (λW d=>by have c:=ξ d.1 0;simp at c;clear d;go_simp) f ?_;refine zP 6 g 0 f ?_;refine zP 7 g 0 f ?_;refine zV 8 (ϖ St) rfl (λW d=>by have c:=ξ d.2.2 0;simp at c;clear d;go_simp) f ?_;refine zV 10 (ϖ g) rfl (λW d=>by have c:=ξ d.1 0;simp at c;clear d;go_simp) f ?_;refine zP 11 g 0 f ?_;refine zP 12 g 0 f ?_;refine zV 13 (ϖ St) rfl (λW d=>by have c:=ξ d.2.2 0;simp at c;clear d;go_simp) f ?_;refine zV 14 (.bool j) rfl (λW d=>by have c:=ξ d.2.1 0;simp at c;clear d;go_simp) f ?_;refine zq 9 λK hK=>?_;go_simp;refine (zA6 St 1 s w.drew O).mono ?_;rintro e w1 ⟨rfl,H⟩;have k:Kp [] w w1:=((Kp.refl _ w).drew).tr H;have v:=And.intro (k.hp Z) (And.intro (k.hp E) (k.hp F));have ae:=k.hp O;have U:=k.hp Q;refine hK.out _ _ v (λ_=>?_);clear hK K H
 try simp only[zZ]
 refine zq 15 λK hK=>?_;go_simp;refine (HE w1 k).mono ?_;rintro e q ⟨rfl,P,M,p⟩;have t:=And.intro (p.heap v.1 HL.1) (And.intro (p.heap v.2.1 HL.2.1) (p.heap v.2.2 HL.2.2.1));have V:=p.heap U HL.2.2.2;refine hK.out _ _ t (λ_=>?_);clear hK K v U ae f
 try simp only[zZ]
 refine zV 16 (.agg #[ϖ St,.int .u64 u,.bool j,.bool false,ϖ s.V,.string ⟨#[]⟩,ϊ s.rb,.int .u64 s.rs,.pointer none,.int .u64 0]) rfl (λW d=>by clear d;rw[τ];go_simp;rfl) t ?_;refine zq 17 λK hK=>?_;go_simp;obtain⟨r,ab,ad,n,aj⟩:∃ r,r=q.alloc (.cells #[ϖ St,.int .u64 u,.bool j,.bool false,ϖ s.V,.string ⟨#[]⟩,ϊ s.rb,.int .u64 s.rs,.pointer none,.int .u64 0] 99)/\Ϙ r q.heap.size (qA1 ⟨St,u,j,false,some ⟨s.V,0,none⟩,⟨⟨#[]⟩,s.rb,s.rs,none⟩,0⟩)/\Kp [] q r/\r.heap.size=q.heap.size+1:=
  ⟨_,rfl,υ _ _,kF.alloc _,sM⟩
 rw[<-ab];clear ab;have y:=And.intro (n.hp t.1) (And.intro (n.hp t.2.1) (n.hp t.2.2));have z:=n.hp V;refine hK.out _ _ y (λ_=>?_);clear hK K t V
 try simp only[zZ]
 refine zq 18 λK hK=>?_;have t0:=ϻ z 0;have f0:=φ z 0;have ag:=ζ z;go_simp;obtain⟨m,ac,Y,o⟩:∃ m,m=r.setCell ⟨T,0,none⟩ (ϖ q.heap.size)/\Ϙ m T (.cells #[ϖ q.heap.size] 32)/\Kp [T] r m:=⟨_,rfl,μ z 0 _,kF.sc _⟩;rw[<-ac];clear ac;have N:=And.intro (o.heap y.1 (by simp;exact λh=>C.1 h.symm)) (And.intro (o.heap y.2.1 (by simp;exact λh=>C.2.1 h.symm)) (o.heap y.2.2 (by simp;exact λh=>C.2.2.1 h.symm)));refine hK.out _ _ N (λ_=>?_);refine zd ?_;have ai:=p.size;have ah:=k.size;have HF:Hid ((∃ x,w.heap.size<=x/\Ϙ m x (qA1 ⟨St,u,j,false,some ⟨s.V,0,none⟩,⟨⟨#[]⟩,s.rb,s.rs,none⟩,0⟩)/\Ϙ m T (.cells #[ϖ x] 32))/\R m/\Kp (St::T::L) w m/\Ϙ m St (θ 1 s')):=
  ⟨⟨q.heap.size,oM,o.ho ad,Y⟩,D _ _ (D _ _ M (n.mono sM)) o,
   (((k.mono (S':=St::T::L) sM).trans p (by intro i A _;simp at A |-;rcases A with h | h<;>simp[h])).tr n).trans o (by intro i A _;simp at A;simp[A]),
   o.heap (n.hp P) (by simp;exact λh=>C.2.2.2 h.symm)⟩
 clear N y Y z ad o n p k M P t0 f0;go_wp2
 go_end0
 exact⟨rfl,HF⟩
theorem xW8(X B T d St:Nat)(g:Bool)(s)(w)(n:w.heap[X]?=some (.cells #[.pointer (some ⟨d,0,none⟩)] 28))(i:w.heap[B]?=some (.cells #[.bool g] 4))(q:w.heap[T]?=some (.cells #[.pointer none] 32))
  (j:w.heap[d]?=some (.cells #[.pointer (some ⟨St,0,none⟩)] 102)) (m:w.heap[St]?=some (θ 1 s))
  (k:∀ W:World,Kp [] w W->Calls prog 67 #[.pointer (some ⟨St,0,none⟩),.bool g] W λe h=>e=qB5 (some 4)/\h=W):
  Calls prog 65 #[.pointer (some ⟨X,0,none⟩),.pointer (some ⟨B,0,none⟩),.pointer (some ⟨T,0,none⟩)] w λe h=>e=qB5 (some 4)/\Kp [] w h:=by
 have o:=zh k;clear k;go_enter func65,ntmps65;go_wp2_with fail;have b:=n3 n i j;refine wp_region_held_drew (S:=λW=>Ϙ W X (.cells #[ϖ d] 28)/\Ϙ W B (.cells #[.bool g] 4)/\Ϙ W d (.cells #[ϖ St] 102)) kR b (λ_=>?_);refine zV 0 (ϖ d) rfl (λW a=>by have c:=ξ a.1 0;simp at c;clear a;go_simp) b ?_;refine zP 1 d 0 b ?_;refine zP 2 d 0 b ?_;refine zV 3 (ϖ St) rfl (λW a=>by have c:=ξ a.2.2 0;simp at c;clear a;go_simp) b ?_;refine zV 4 (.bool g) rfl (λW a=>by have c:=ξ a.2.1 0;simp at c;clear a;go_simp) b ?_;refine zV 5 (ϖ d) rfl (λW a=>by have c:=ξ a.1 0;simp at c;clear a;go_simp) b ?_;refine zP 6 d 0 b ?_;refine zP 7 d 0 b ?_;refine zV 8 (ϖ St) rfl (λW a=>by have c:=ξ a.2.2 0;simp at c;clear a;go_simp) b ?_;refine zV 10 (ϖ d) rfl (λW a=>by have c:=ξ a.1 0;simp at c;clear a;go_simp) b ?_;refine zP 11 d 0 b ?_;refine zP 12 d 0 b ?_;refine zV 13 (ϖ St) rfl (λW a=>by have c:=ξ a.2.2 0;simp at c;clear a;go_simp) b ?_;refine zV 14 (.bool g) rfl (λW a=>by have c:=ξ a.2.1 0;simp at c;clear a;go_simp) b ?_;refine zq 9 λK hK=>?_;go_simp;refine (zA6 St 1 s w.drew m).mono ?_;rintro e w1 ⟨rfl,l⟩;have f:Kp [] w w1:=((Kp.refl _ w).drew).tr l;have p:=And.intro (f.hp n) (And.intro (f.hp i) (f.hp j));have r:=f.hp m;have t:=f.hp q;refine hK.out _ _ p (λ_=>?_);clear hK K l
 try simp only[zZ]
 refine zq 15 λK hK=>?_;go_simp;refine (o w1 f).mono ?_;rintro e u ⟨rfl,rfl⟩;simp only[qB5];clear hK;go_wp2;exact⟨rfl,rfl,f⟩
theorem zX9(args)(W):Sem.run prog (callFunc 65 args) W=.ok (.enter 65 args) W:=by
 simp[go_sem,func65]
theorem zW3(a St:Nat)(c:Bool)(s)(w)(g:w.heap[a]?=some (.cells #[.pointer (some ⟨St,0,none⟩)] 102))(p:w.heap[St]?=some (θ 0 s))(u:s.po=false)(t:a≠St)
  (n:∀ W:World,Kp [St] w W->W.heap[St]?=some (θ 1 s)->Calls prog 67 #[.pointer (some ⟨St,0,none⟩),.bool c] W λe d=>e=qB5 (some 4)/\d=W):
  Calls prog 29 #[.pointer (some ⟨a,0,none⟩),.bool c] w λe d=>∃ v,e=.returned (.tuple #[.pointer none,v])/\ErrV d v (some 4)/\d.heap[St]?=some (θ 0 s)/\Kp [St] w d:=by
 have y:=zh n;have A:=zh t;have B:=zh u;clear n t u;have Y:=zM;have U:=ζ g;have V:=ζ p;have E:=ξ (ν (.cells #[.pointer none] 32) (ν (.cells #[.bool c] 4) (ν (.cells #[ϖ a] 28) g))) 0;simp only[zG,zH] at E;go_enter func29,ntmps29;go_wp2_with fail;obtain⟨b,r,f,Z,Q,G,q⟩:∃ b,b=((w.alloc (.cells #[ϖ a] 28)).alloc (.cells #[.bool c] 4)).alloc (.cells #[.pointer none] 32)/\Kp [] w b/\b.heap.size=w.heap.size+3/\Ϙ b w.heap.size (.cells #[ϖ a] 28)/\b.heap[w.heap.size+1]?=some (.cells #[.bool c] 4)/\b.heap[w.heap.size+2]?=some (.cells #[.pointer none] 32):=by
  refine⟨_,rfl,((kF.alloc _).alloc _).alloc _,sM,ν _ (ν _ (υ _ _)),ν _ ?_,?_⟩
  .have e:=υ (w.alloc (.cells #[ϖ a] 28)) (.cells #[.bool c] 4);simpa using e
  .have e:=υ ((w.alloc (.cells #[ϖ a] 28)).alloc (.cells #[.bool c] 4)) (.cells #[.pointer none] 32);simpa using e
 rw[<-r];clear r;have I:=f.hp g;have M:=f.hp p;refine (zV4 (some 4) dC St 65 s s #[] _ _ [] (λW w1=>Kp [] W w1) b M B (zX9 _) sM ?_).mono ?_
 .intro W hK k;have P:=hK.ho Q;have F:=hK.ho G;have O:=hK.ho q;have J:=hK.heap I (by simp;exact A);have j:=(f.mono (S':=[St]) sM).trans hK (λ_ h _=>h);refine (xW8 w.heap.size (w.heap.size+1) (w.heap.size+2) a St c s W P F O J k (λD o=>y D (j.tr o) (o.hp k))).mono ?_;rintro e w1 ⟨rfl,m⟩;exact⟨rfl,m,m.mono sM,m.hp k⟩
 rintro e w2 ⟨v,rfl,x,N,i,W,w1,R,L,j,S,T,H,K⟩;have l:=i.ho q;have X:=ζ l;have t0:=ϻ l 0;have C:=zh x;have z:=zh ((f.mono (S':=[St]) sM).trans i (λ_ h _=>h));clear x L j H K i l;go_wp2
 go_ret2
 exact⟨v,rfl,C,N,z⟩
theorem zW4(d St:Nat)(c:Bool)(s s')(o:Int)(L)(R:World->Prop)(w)(q:w.heap[d]?=some (.cells #[.pointer (some ⟨St,0,none⟩)] 102))(F:w.heap[St]?=some (θ 0 s))(I:s.po=false)(H:d ∉ St::L)(C:∀ i∈L,i<w.heap.size)
  (A:∀ W:World,Kp [St] w W->W.heap[St]?=some (θ 1 s)->Calls prog 67 #[.pointer (some ⟨St,0,none⟩),.bool c] W λe g=>e=.returned (.int .u64 o)/\g.heap[St]?=some (θ 1 s')/\R g/\Kp (St::L) W g)
  (D:∀ (a b) (k),(∀ i∈k,i=St\/w.heap.size<=i)->R a->Kp k a b->R b):
  Calls prog 29 #[.pointer (some ⟨d,0,none⟩),.bool c] w λe g=>∃ x,e=.returned (.tuple #[.pointer (some ⟨x,0,none⟩),.nilIface])/\w.heap.size<=x/\g.heap[x]?=some (qA1 ⟨St,o,c,false,some ⟨s.V,0,none⟩,⟨⟨#[]⟩,s.rb,s.rs,none⟩,0⟩)/\g.heap[St]?=some (θ 0 s')/\R g/\Kp (St::L) w g:=by
 have K:=zh A;have y:=zh H;have u:=zh C;have z:=zh D;have M:=zh I;clear A H C D I;have ah:=zM;have ad:=ζ q;have ae:=ζ F;have O:=ξ (ν (.cells #[.pointer none] 32) (ν (.cells #[.bool c] 4) (ν (.cells #[ϖ d] 28) q))) 0;simp only[zG,zH] at O;go_enter func29,ntmps29;go_wp2_with fail;obtain⟨f,G,l,ai,Z,Q,X⟩:∃ f,f=((w.alloc (.cells #[ϖ d] 28)).alloc (.cells #[.bool c] 4)).alloc (.cells #[.pointer none] 32)/\Kp [] w f/\f.heap.size=w.heap.size+3/\Ϙ f w.heap.size (.cells #[ϖ d] 28)/\f.heap[w.heap.size+1]?=some (.cells #[.bool c] 4)/\f.heap[w.heap.size+2]?=some (.cells #[.pointer none] 32):=by
  refine⟨_,rfl,((kF.alloc _).alloc _).alloc _,sM,ν _ (ν _ (υ _ _)),ν _ ?_,?_⟩
  .have e:=υ (w.alloc (.cells #[ϖ d] 28)) (.cells #[.bool c] 4);simpa using e
  .have e:=υ ((w.alloc (.cells #[ϖ d] 28)).alloc (.cells #[.bool c] 4)) (.cells #[.pointer none] 32);simpa using e
 rw[<-G];clear G;have S:=l.hp q;have U:=l.hp F;have t:∀ i,w.heap.size<=i->i ∉ St::L:=λi j hm=>by
  rcases List.mem_cons.1 hm with h|h
  .omega
  .have:=u.out _ h;omega
 refine (zV4 none dC St 65 s s' #[] _ _ ((w.heap.size+2)::L) (λW w1=>R w1/\∃ x,W.heap.size<=x/\Ϙ w1 x (qA1 ⟨St,o,c,false,some ⟨s.V,0,none⟩,⟨⟨#[]⟩,s.rb,s.rs,none⟩,0⟩)/\w1.heap[w.heap.size+2]?=some (.cells #[ϖ x] 32)) f U M (zX9 _) (by intro i j;rcases List.mem_cons.1 j with h | h;omega;have:=u.out _ h;omega) ?_).mono ?_
 .intro W hK E;have Y:=hK.ho Z;have P:=hK.ho Q;have V:=hK.ho X;have T:=hK.heap S (by simp;exact λh=>y (by simp[h]));have m:=(l.mono (S':=[St]) sM).trans hK (λ_ h _=>h);refine (xW9 w.heap.size (w.heap.size+1) (w.heap.size+2) d St c s s' o L R W Y P V T E ⟨t _ oM,t _ oM,y,t _ oM⟩ ⟨oM,oM,oM,oM⟩ (λN B=>K N (m.tr B) (B.hp E)) (λa b ha hab=>z a b [w.heap.size+2] sM ha hab)).mono ?_;rintro e w1 ⟨rfl,hx,n,hk,aa⟩;exact⟨rfl,⟨n,hx⟩,hk,aa⟩
 rintro e w2 ⟨v,rfl,hv,hSt2,hK2,W,w1,Bb,⟨n,x,hx1,hx2,hx3⟩,m,hB1,hB2,hB3,hKB⟩;have ab:v=.nilIface:=hv;subst ab;have r:=hKB.ho hx3;have J:=hKB.ho hx2;have af:=ζ r;have t0:=ϻ r 0;have p:=zh (n3 J (z _ _ [St,Bb] sO n hKB) ((l.mono (S':=St::L) sM).trans hK2 (by intro i j ag;simp at j |-;rcases j with h | h | h;simp[h];omega;simp[h])));have ac:w.heap.size<=x:=by have:=m.size;omega
 clear hv n hx2 hx3 m hB3 hKB hK2 r J;go_wp2
 go_ret2
 exact⟨x,rfl,ac,p.1,hSt2,p.2.1,p.2.2⟩
theorem xX3(f St n:Nat)(s)(D)(w)(l:w.heap[f]?=some (.cells #[.pointer (some ⟨St,0,none⟩)] 102))(q:w.heap[St]?=some (θ 0 s))(o:RM w s.V s.M n D)(v:s.po=false)(m:f≠St)(g:s.M≠St)(z:s.M<w.heap.size)(y:s.wr=0)(i:0<=s.bg)(j:s.bg<=100000000):
  Calls prog 29 #[.pointer (some ⟨f,0,none⟩),.bool true] w λe d=>∃ x,e=.returned (.tuple #[.pointer (some ⟨x,0,none⟩),.nilIface])/\w.heap.size<=x/\d.heap[x]?=some (qA1 ⟨St,s.bg+1,true,false,some ⟨s.V,0,none⟩,⟨⟨#[]⟩,s.rb,s.rs,none⟩,0⟩)/\d.heap[St]?=some (θ 0 s.wrote)/\RM d s.V s.M n D/\Kp [St] w d:=
 zW4 f St true s s.wrote (s.bg+1) [] (λd=>RM d s.V s.M n D) w l q v (by simp;exact m) sM
  (λW hK p=>(jK9 St s W p y i j).mono λe d ⟨a,b,c⟩=>⟨a,b,(o.kp hK (by simp;exact g)).kp c (by simp;exact g),c⟩)
  (λa b k u r t=>r.kp t (λhm=>by rcases u _ hm with h | h;exact g h;omega))
theorem xX2(g St n:Nat)(s)(D)(w)(o:w.heap[g]?=some (.cells #[.pointer (some ⟨St,0,none⟩)] 102))(v:w.heap[St]?=some (θ 0 s))(q:RM w s.V s.M n D)(C:s.po=false)(p:g≠St)(i:s.M≠St)(r:g≠s.M)(t:s.M<w.heap.size)(m:Maps.size D<4)(B:n<=100000000)(j:0<=s.bg)(l:s.bg<=100000000):
  Calls prog 29 #[.pointer (some ⟨g,0,none⟩),.bool false] w λe f=>∃ x,e=.returned (.tuple #[.pointer (some ⟨x,0,none⟩),.nilIface])/\w.heap.size<=x/\f.heap[x]?=some (qA1 ⟨St,s.bg+1,false,false,some ⟨s.V,0,none⟩,⟨⟨#[]⟩,s.rb,s.rs,none⟩,0⟩)/\f.heap[St]?=some (θ 0 s.read)/\RM f s.V s.M (n+1) (D.put (χ (s.bg+1)) (qG8 ⟨⟨#[]⟩,s.rb,s.rs,none⟩))/\Kp [St,s.M] w f:=
 zW4 g St false s s.read (s.bg+1) [s.M] (λf=>RM f s.V s.M (n+1) (D.put (χ (s.bg+1)) (qG8 ⟨⟨#[]⟩,s.rb,s.rs,none⟩))) w o v C (by simp;exact⟨p,r⟩) (by simp;exact t)
  (λW hK u=>(jK8 St n s D W u (q.kp hK (by simp;exact i)) m B j l i).mono λe f ⟨a,b,c,d⟩=>⟨a,b,c,d⟩)
  (λa b k A y z=>y.kp z (λhm=>by rcases A _ hm with h | h;exact i h;omega))
theorem xX1(a St:Nat)(s)(w)(c:w.heap[a]?=some (.cells #[.pointer (some ⟨St,0,none⟩)] 102))(f:w.heap[St]?=some (θ 0 s))(h:s.po=false)(g:a≠St)(i:s.wr≠0):
  Calls prog 29 #[.pointer (some ⟨a,0,none⟩),.bool true] w λe b=>∃ v,e=.returned (.tuple #[.pointer none,v])/\ErrV b v (some 4)/\b.heap[St]?=some (θ 0 s)/\Kp [St] w b:=
 zW3 a St true s w c f h g λW hK d=>jK7 St s W d i
theorem xX0(a St n:Nat)(s)(D)(w)(d:w.heap[a]?=some (.cells #[.pointer (some ⟨St,0,none⟩)] 102))(i:w.heap[St]?=some (θ 0 s))(f:RM w s.V s.M n D)(k:s.po=false)(j:a≠St)(g:s.M≠St)(c:Maps.size D=4):
  Calls prog 29 #[.pointer (some ⟨a,0,none⟩),.bool false] w λe b=>∃ v,e=.returned (.tuple #[.pointer none,v])/\ErrV b v (some 4)/\b.heap[St]?=some (θ 0 s)/\Kp [St] w b:=
 zW3 a St false s w d i k j λW hK h=>jK6 St n s D W h (f.kp hK (by simp;exact g)) c
def Tx.ended(t:Tx):Tx:={ t with over:=true,on:=none,h:=⟨⟨#[]⟩,0,0,none⟩ }
theorem qV2(x n:Nat)(t)(s)(D)(w)(f:w.heap[x]?=some (qA1 t))(z:w.heap[t.St]?=some (θ 1 s))(u:RM w s.V s.M n D)(L:0<=t.nr)(M:t.nr<=1000000000)(y:s.M≠t.St)(o:x≠t.St)(m:x≠s.M):
  Calls prog 69 #[.pointer (some ⟨x,0,none⟩)] w λe j=>e=.returned (.tuple #[])/\j.heap[x]?=some (qA1 t.ended)/\j.heap[t.St]?=some (θ 1 (s.left t.nr))/\RM j s.V s.M n (D.del (χ t.nr))/\Kp [t.St,x,s.M] w j:=by
 have P:=ζ f;have E:=ξ f;simp only[qA1,zG,zH,zI] at E;have J:=φ f;obtain⟨b,B,C,g⟩:∃ b,b=(((((w.setCell ⟨x,3,none⟩ (.bool true)).setCell ⟨x,4,none⟩ (.pointer none)).setCell ⟨x,5,none⟩ (.string ⟨#[]⟩)).setCell ⟨x,6,none⟩ (ϊ 0)).setCell ⟨x,7,none⟩ (.int .u64 0)).setCell ⟨x,8,none⟩ (.pointer none)/\Ϙ b x (qA1 t.ended)/\Kp [x] w b:=
  ⟨_,rfl,μ (μ (μ (μ (μ (μ f 3 _) 4 _) 5 _) 6 _) 7 _) 8 _,(((((kF.sc _).sc _).sc _).sc _).sc _).sc _⟩
 have q:=zh C;have I:=zh (g.heap z (by simp;exact λh=>o h.symm));have H:=zh (u.kp g (by simp;exact λh=>m h.symm));have G:=zh g;have p:=zh (n3 y o m);clear f z u y o m C g;go_enter func69,ntmps69;go_wp2_with fail;rw[<-B];clear B E J;have O:=ζ q.out;have a:=q.out;refine wp_region_held_drew (S:=λW=>Ϙ W x (qA1 t.ended)) kR a (λ_=>?_);refine zP 0 x 0 a ?_;refine zP 1 x 0 a ?_;refine zP 2 x 0 a ?_;refine zV 3 (ϖ t.St) rfl (λW d=>by have c:=ξ d 0;simp only[qA1,Tx.ended,zG,zH,zI] at c;clear d;go_simp) a ?_;refine zP 4 x 0 a ?_;refine zP 5 x 0 a ?_;refine zP 6 x 1 a ?_;refine zV 7 (.int .u64 t.nr) rfl (λW d=>by have c:=ξ d 1;simp only[qA1,Tx.ended,zG,zH,zI] at c;clear d;go_simp) a ?_;refine zq 8 λK hK=>?_;go_simp;refine (jY1 t.St n s t.nr D b.drew I (H.kp ((Kp.refl [] b).drew) sM) L M p.1).mono ?_;rintro e w1 ⟨rfl,A,v,r⟩;have k:=((Kp.refl _ b).drew).trans r (λ_ h _=>h);have l:=k.heap a (by simp;exact p.2);refine hK.out _ _ l (λ_=>?_);clear hK K r;refine zd ?_;have F:Hid (Ϙ w1 x (qA1 t.ended)/\Ϙ w1 t.St (θ 1 (s.left t.nr))/\RM w1 s.V s.M n (D.del (χ t.nr))/\Kp [t.St,x,s.M] w w1):=⟨l,A,v,(G.mono sM).trans k (by intro i N _;simp at N |-;omega)⟩;clear l a A v k;go_wp2
 go_end0
 exact⟨rfl,F⟩
theorem jB4(args)(W):Sem.run prog (callFunc 69 args) W=.ok (.enter 69 args) W:=by
 simp[go_sem,func69]
theorem xS7(x n:Nat)(t)(s)(D)(w)(g:w.heap[x]?=some (qA1 t))(u:t.over=false)(p:w.heap[t.St]?=some (θ 0 s))(y:s.po=false)(m:RM w s.V s.M n D)(k:0<=t.nr)(l:t.nr<=1000000000)(b:s.M≠t.St)(a:x≠t.St)(h:x≠s.M)(A:s.M<w.heap.size):
  Calls prog 36 #[.pointer (some ⟨x,0,none⟩)] w λe f=>e=.returned .nilIface/\f.heap[x]?=some (qA1 t.ended)/\f.heap[t.St]?=some (θ 0 (s.left t.nr))/\RM f s.V s.M n (D.del (χ t.nr))/\Kp [t.St,x,s.M] w f:=by
 have B:=zM;have C:=ζ g;go_enter func36,ntmps36;go_wp2_with fail;refine (qP3 none dC x t.St 69 t s (s.left t.nr) #[ϖ x] #[] _ [x,s.M] (λW w1=>Ϙ w1 x (qA1 t.ended)/\RM w1 s.V s.M n (D.del (χ t.nr))) w g u rfl p y a (jB4 _) (by intro i hi;simp at hi;omega) ?_).mono ?_
 .intro W hK o;refine (qV2 x n t s D W (hK.heap g (by simp;exact a)) o (m.kp hK (by simp;exact b)) k l b a h).mono ?_;rintro e w1 ⟨rfl,c,d,q,r⟩;exact⟨rfl,⟨c,q⟩,r,d⟩
 rintro e E ⟨v,rfl,hv,hSt2,hK2,W,w1,Bb,⟨c,d⟩,hKW,hB1,hB2,hB3,hKB⟩;have z:v=.nilIface:=hv;subst z;have j:=zh (n4 (hKB.heap c (by simp;exact⟨a,oM⟩)) hSt2 (d.kp hKB (by simp;exact⟨b,oM⟩)) hK2);clear hv c d hSt2 hK2 hKW hKB hB3 b a h;go_wp2;go_ret;exact⟨rfl,j⟩
theorem xS8(x:Nat)(t)(s)(w)(f:w.heap[x]?=some (qA1 t))(j:t.over=true)(i:w.heap[t.St]?=some (θ 0 s))(k:s.po=false)(g:x≠t.St):
  Calls prog 36 #[.pointer (some ⟨x,0,none⟩)] w λe a=>∃ v,e=.returned v/\ErrV a v (some 5)/\a.heap[t.St]?=some (θ 0 s)/\Kp [t.St] w a:=by
 have l:=zM;have m:=ζ f;go_enter func36,ntmps36;go_wp2_with fail;refine (qT1 x t.St 69 t s #[ϖ x] #[] _ w f j rfl i k g).mono ?_;rintro e n ⟨v,rfl,d,c,b⟩;have h:=zh (n3 d c b);clear d c b g;go_wp2;go_ret;exact⟨v,rfl,h⟩
def qL4:List TypeId:=[114,263,115,117]
def OffD(w:World)(L:List Nat):Prop:=∀ k∈L,∀ c t fr,w.heap[k]?=some (.cells c t fr)→t ∉ qL4
structure SEnv extends Env where
 keepX:∀ w w' L,Dev w→Kp L w w'→OffD w L→Dev w'
 offS:∀ w,Dev w→∀ k∈S,∃ c t fr,w.heap[k]?=some (.cells c t fr)∧t∈qL4
theorem SEnv.nin(E:SEnv){w:World}(e:E.Dev w){k:Nat}{c:Array Value}{t:TypeId}{b:Nat × Nat}(h:w.heap[k]?=some (.cells c t b))(g:t ∉ qL4):k ∉ E.S:=λf=>by
 obtain⟨i,t',j,a,d⟩:=E.offS w e k f;rw[h] at a;cases a;exact g d
theorem SEnv.ninM(E:SEnv){w:World}(d:E.Dev w){k:Nat}{b:Array MapEntry}{c:Nat}(h:w.heap[k]?=some (.map b c)):k ∉ E.S:=λe=>by
 obtain⟨f,t',g,a,i⟩:=E.offS w d k e;rw[h] at a;cases a
theorem SEnv.stay(E:SEnv){w b:World}(e:E.Dev w)(d:E.To w b){k:Nat}{c:Array Value}{t:TypeId}{a:Nat × Nat}(h:w.heap[k]?=some (.cells c t a))(f:t ∉ qL4):b.heap[k]?=some (.cells c t a):=
 d.kp.heap h (E.nin e h f)
theorem OffD.one{w}{k:Nat}{c}{t}{fr}(h:w.heap[k]?=some (.cells c t fr))(b:t ∉ qL4):OffD w [k]:=λi a d t' f e=>by
 rw[mS a,h] at e;cases e;exact b
theorem OffD.cons{w}{k:Nat}{L}(h:OffD w [k])(b:OffD w L):OffD w (k::L):=λi a=>by
 rcases List.mem_cons.1 a with a|a
 .exact h i (by simp[a])
 .exact b i a
theorem Apt.one{w}{k:Nat}{c}{t}{fr}{Ts:List TypeId}(h:w.heap[k]?=some (.cells c t fr))(b:t ∉ Ts):Apt w [k] Ts:=λi a d t' f e=>by
 rw[mS a,h] at e;cases e;exact b
theorem Apt.cons{w}{k:Nat}{S}{Ts:List TypeId}(h:Apt w [k] Ts)(b:Apt w S Ts):Apt w (k::S) Ts:=λi a=>by
 rcases List.mem_cons.1 a with a|a
 .exact h i (by simp[a])
 .exact b i a
theorem zL3(k)(w)(b:1<=k.size)(c:k.size<=8):
  Calls prog 101 #[.string k] w λe a=>e=qB5 none/\a=w:=by
 have d:¬(k.size:Int)<1:=oM
 have f:¬(8:Int)<(k.size:Int):=oM
 go_enter func101,ntmps101;go_wp2
 go_end0
 exact⟨rfl,rfl⟩
theorem zZ2(k)(w)(h:k.size<1\/8<k.size):
  Calls prog 101 #[.string k] w λe b=>e=qB5 (some 1)/\b=w:=by
 by_cases c:k.size<1
 .have a:(k.size:Int)<1:=oM
  clear h;go_enter func101,ntmps101;go_wp2;exact⟨rfl,rfl,rfl,rfl⟩
 .have a:¬(k.size:Int)<1:=oM
  have d:(8:Int)<(k.size:Int):=oM
  clear h;go_enter func101,ntmps101;go_wp2;exact⟨rfl,rfl,rfl,rfl⟩
theorem kJ8(St A n:Nat)(g:Int)(s)(w)(f:w.heap[St]?=some (θ g s))(d:w.heap[s.V]?=some (qE4 A n))(p:n<=1000000)(k:0<=s.bl)(l:s.bl<=1000000):
  Calls prog 77 #[.pointer (some ⟨St,0,none⟩)] w λe j=>e=.returned (.int .i64 ((n:Int)-2-s.bl))/\Kp [] w j:=by
 have m:=ζ f;have o:=ζ d;go_enter func77,ntmps77;go_wp2_with fail;have a:=n2 f d;refine wp_region_held_drew (S:=λW=>Ϙ W St (θ g s)/\Ϙ W s.V (qE4 A n)) kR a (λ_=>?_);refine zP 0 St 0 a ?_;refine zP 1 St 0 a ?_;refine zP 2 St 2 a ?_;refine zV 3 (ϖ s.V) rfl (λW b=>by have c:=ξ b.1 2;simp only[θ,zG,zH,zI] at c;clear b;go_simp) a ?_;refine zP 6 St 0 a ?_;refine zP 7 St 0 a ?_;refine zP 8 St 6 a ?_;refine zV 9 (ϊ s.bl) rfl (λW b=>by have c:=ξ b.1 6;simp only[θ,zG,zH,zI] at c;clear b;go_simp) a ?_;refine zq 4 λK hK=>?_;go_simp;refine (zT9 s.V A n w.drew d).mono ?_;rintro e w1 ⟨rfl,rfl⟩;refine zk hK a ?_
 have h:IntKind.i64.wrap ((n:Int)-2)=(n:Int)-2:=by rw[wK];omega
 have i:IntKind.i64.wrap ((n:Int)-2-s.bl)=(n:Int)-2-s.bl:=by rw[wK];omega
 refine zU 5 (ϊ ((n:Int)-2)) a ?_;refine zU 10 (ϊ ((n:Int)-2-s.bl)) a ?_;refine zU 11 (ϊ ((n:Int)-2-s.bl)) a ?_;refine zd ?_;clear h i;go_wp2;go_ret;exact⟨rfl,kF.drew⟩
theorem RGood.slim{n:Nat}{l}(h:RGood (.at n l))(b:(cont n l.sub).length<=1000000):qX9 n l.sub/\qB6 n l.sub<=1000000:=by
 obtain⟨_,a,_⟩:=h;have:=zA5 n _ _ a;exact⟨qK0 n _ _ a,oM⟩
theorem xM7(E)(r)(h)(w)(c:RR E w h r)(j:RGood r)(o:r.cont.length<=1000000):
  Calls prog 76 #[τ E.V h] w λe a=>e=.returned (.int .i64 (r.news:Nat))/\Kp [] w a:=by
 cases r with
 | none=>
  have k:h=⟨⟨#[]⟩,0,0,none⟩:=c;subst k;have b:∀ W:World,Ω 120 #[.agg #[.string ⟨#[]⟩,ϊ 0,.int .u64 0,.pointer none]] W λe a=>e=ϱ (ϊ 0)/\Kp [] W a:=by
   intro W;go_enter func120,ntmps120;go_wp2;go_ret;exact⟨rfl,kF.alloc _⟩
  have f:=zh b;clear b;have m:HL.ptr ⟨⟨#[]⟩,0,0,none⟩=none:=rfl;rw[τ,m];go_enter func76,ntmps76;go_wp2_with fail;refine (f _).mono ?_;rintro e w1 ⟨rfl,g⟩;have i:Kp [] w w1:=(kF.alloc _).tr g;go_wp2;go_ret;exact⟨rfl,i⟩
 | «at» n l=>
  have d:=RGood.slim j o;exact kP5 E.O E.V n h l w c d.1 d.2
end Go.Proofs.YtdohpenfkdckiaaGreatDoor
