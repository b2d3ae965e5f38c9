import Derived.Test.YtdohpenfkdckiaaGreatDoorJ13
import Derived.RangeFuncNested
import Derived.RangeFuncBound
import Derived.RangeFuncCalls
import Derived.RangeFuncLeaves
import Derived.Shelf.Abstract
import Derived.Shelf.RegionOpen
import Derived.OwnWalkIn
import Derived.TacticsInMore
import Derived.LoopNIn
import Derived.LoopIn
import Derived.Sort.LoopGhostIn
import Derived.Laws.EntriesVeiled
import Derived.Lib.SmallJoins
import Derived.Laws.OwnMore
set_option linter.all false
set_option maxRecDepth 100000
set_option maxHeartbeats 20000000
namespace Go.Proofs.YtdohpenfkdckiaaGreatDoor
open Go.Proofs.Tryz
open Go.RowKit
theorem zY6(a f g x:Nat)(t)(w)(b:w.heap[a]?=some (.cells #[.pointer (some ⟨x,0,none⟩)] 32))(c:w.heap[x]?=some (qA1 t))(h:t.wrt=false):
  Calls prog 100 #[.pointer (some ⟨a,0,none⟩),.pointer (some ⟨f,0,none⟩),.pointer (some ⟨g,0,none⟩)] w λe i=>e=qB5 (some 6)/\i=w:=by
 have j:=ζ b;have k:=ζ c;have c0:=ϻ b 0;have d:=ξ c 2;simp only[qA1,zG,zH,zI] at d;rw[h] at d;go_enter func100,ntmps100;go_wp2;exact⟨rfl,rfl,rfl,rfl⟩
theorem zY5(b a j x:Nat)(t)(k)(w)(d:w.heap[b]?=some (.cells #[.pointer (some ⟨x,0,none⟩)] 32))(c:w.heap[a]?=some (.cells #[.string k] 9))(g:w.heap[x]?=some (qA1 t))(l:t.wrt=true)(f:k.size<1\/8<k.size):
  Calls prog 100 #[.pointer (some ⟨b,0,none⟩),.pointer (some ⟨a,0,none⟩),.pointer (some ⟨j,0,none⟩)] w λe m=>e=qB5 (some 1)/\m=w:=by
 have o:=ζ d;have p:=ζ g;have n:=ζ c;have c0:=ϻ d 0;have q:=ϻ c 0;have h:=ξ g 2;simp only[qA1,zG,zH,zI] at h;rw[l] at h;have i:=zh f;clear f;go_enter func100,ntmps100;go_wp2_with fail;refine (zZ2 k _ i).mono ?_;rintro e w1 ⟨rfl,rfl⟩;simp only[qB5];go_wp2;exact⟨rfl,rfl,rfl⟩
theorem jB6(d k l x f:Nat)(t)(key)(first cap)(R:HL->World->Prop)(w)(o:w.heap[d]?=some (.cells #[.pointer (some ⟨x,0,none⟩)] 32))(m:w.heap[k]?=some (.cells #[.string key] 9))(p:w.heap[l]?=some (.cells #[.func (.func f) first cap] 1))(r:w.heap[x]?=some (qA1 t))(A:t.wrt=true)(y:1<=key.size)(z:key.size<=8)(E:0<=t.ch)(F:t.ch<=1000000000)
  (H:∀ W:World,Sem.run prog (callFunc f (first++cap)) W=.ok (.enter f (first++cap)) W)
  (q:Calls prog f (first++cap) w λe b=>e=qB5 none/\∃ a,R a b/\b.heap[x]?=some (qA1 { t with h:=a })/\b.heap[d]?=some (.cells #[.pointer (some ⟨x,0,none⟩)] 32)):
  Calls prog 100 #[.pointer (some ⟨d,0,none⟩),.pointer (some ⟨k,0,none⟩),.pointer (some ⟨l,0,none⟩)] w λe b=>e=qB5 none/\∃ w1 a,R a w1/\w1.heap[x]?=some (qA1 { t with h:=a })/\b.heap[x]?=some (qA1 { t with h:=a,ch:=t.ch+1 })/\Kp [x] w1 b:=by
 have J:=ζ o;have M:=ζ r;have I:=ζ m;have K:=ζ p;have c0:=ϻ o 0;have B:=ϻ m 0;have v:=ϻ p 0;have i:=ξ r 2;simp only[qA1,zG,zH,zI] at i;rw[A] at i;have u:=zh q;clear q;go_enter func100,ntmps100;go_wp2_with fail;refine (zL3 key _ y z).mono ?_;rintro e w1 ⟨rfl,rfl⟩;simp only[qB5];go_wp2_with fail;refine (show Calls _ _ _ _ _ from u).mono ?_;rintro e w1 ⟨rfl,a,n,c,g⟩;have s:=zh n;clear n;clear c0 B v i;have L:=ζ c;have G:=ζ g;have j:=zh c;have c0:=ϻ g 0;have C:=ξ c 9;simp only[qA1,zG,zH,zI] at C;have D:=φ c 9;clear c g;simp only[qB5];go_wp2
 go_end0
 exact⟨rfl,w1,a,s,j,μ j 9 _,kF.sc _⟩
theorem zY7(j:Int)(c b d x f:Nat)(t)(key)(first cap)(R:World->Prop)(w)(i:w.heap[c]?=some (.cells #[.pointer (some ⟨x,0,none⟩)] 32))(g:w.heap[b]?=some (.cells #[.string key] 9))(k:w.heap[d]?=some (.cells #[.func (.func f) first cap] 1))(m:w.heap[x]?=some (qA1 t))(s:t.wrt=true)(q:1<=key.size)(r:key.size<=8)
  (v:∀ W:World,Sem.run prog (callFunc f (first++cap)) W=.ok (.enter f (first++cap)) W)
  (l:Calls prog f (first++cap) w λe a=>e=qB5 (some j)/\R a):
  Calls prog 100 #[.pointer (some ⟨c,0,none⟩),.pointer (some ⟨b,0,none⟩),.pointer (some ⟨d,0,none⟩)] w λe a=>e=qB5 (some j)/\R a:=by
 have z:=ζ i;have B:=ζ m;have y:=ζ g;have A:=ζ k;have c0:=ϻ i 0;have C:=ϻ g 0;have u:=ϻ k 0;have n:=ξ m 2;simp only[qA1,zG,zH,zI] at n;rw[s] at n;have p:=zh l;clear l;go_enter func100,ntmps100;go_wp2_with fail;refine (zL3 key _ q r).mono ?_;rintro e w1 ⟨rfl,rfl⟩;simp only[qB5];go_wp2_with fail;refine (show Calls _ _ _ _ _ from p).mono ?_;rintro e w1 ⟨rfl,h⟩;have o:=zh h;clear h;simp only[qB5];go_wp2;exact⟨rfl,rfl,o⟩
theorem jB1(args)(W):Sem.run prog (callFunc 100 args) W=.ok (.enter 100 args) W:=by
 simp[go_sem,func100]
theorem zZ0(k:Option Int)(y:k≠some 8)(x f:Nat)(t)(s)(key call)(first cap)(X)(Q:World->World->Prop)(w)(D:w.heap[x]?=some (qA1 t))(S:t.over=false)(q:w.heap[t.St]?=some (θ 0 s))(T:s.po=false)(E:x≠t.St)(u:∀ i,i∈X->i<w.heap.size)
  (A:∀ (W) (g d j:Nat),Kp [t.St] w W->w.heap.size<=g->w.heap.size<=d->w.heap.size<=j->W.heap[t.St]?=some (θ 1 s)->W.heap[g]?=some (.cells #[.pointer (some ⟨x,0,none⟩)] 32)->W.heap[d]?=some (.cells #[.string key] 9)->W.heap[j]?=some (.cells #[.func (.func f) first cap] 1)->
   Calls prog 100 #[.pointer (some ⟨g,0,none⟩),.pointer (some ⟨d,0,none⟩),.pointer (some ⟨j,0,none⟩)] W λe w1=>e=qB5 k/\Q W w1/\Kp (t.St::X) W w1/\w1.heap[t.St]?=some (θ 1 s)):
  Calls prog 61 #[.pointer (some ⟨x,0,none⟩),.string call,.string key,.func (.func f) first cap] w λe b=>∃ v,e=.returned v/\ErrV b v k/\b.heap[t.St]?=some (θ 0 s)/\Kp (t.St::X) w b/\∃ W w1 B,Q W w1/\Kp [t.St] w W/\w.heap.size<=B/\B<W.heap.size/\w1.heap[B]?=some (.cells #[.nilIface] 38)/\Kp [t.St,B] w1 b:=by
 have aa:=zM;have H:=zh (A)
 have I:=zh u;have G:=zh y;have J:=zh E;clear A u y E;have ac:=ζ D;have Z:=ζ q;go_enter func61,ntmps61;go_wp2_with fail;obtain⟨V,C,P,M,L,a,ab⟩:=alE w (.cells #[ϖ x] 32) (.cells #[.string key] 9) (.cells #[.func (.func f) first cap] 1)
 rw[<-C];clear C;have U:=a.hp D;have O:=a.hp q;refine (qP3 k G x t.St 100 t s s #[] _ call X Q V U S rfl O T J (jB1 _) (λi R=>by have:=I.out i R;omega) ?_).mono ?_
 .intro W hK N;exact H W w.heap.size (w.heap.size+1) (w.heap.size+2) ((a.mono (S':=[t.St]) sM).trans hK (λ_ h _=>h)) lR oM oM N (hK.ho P) (hK.ho M) (hK.ho L)
 rintro e c ⟨v,rfl,z,r,m,W,w1,B,p,o,Y,K,l,n⟩;have F:Hid (ErrV c v k/\Ϙ c t.St (θ 0 s)/\Kp (t.St::X) w c/\∃ W w1 B,Q W w1/\Kp [t.St] w W/\w.heap.size<=B/\B<W.heap.size/\Ϙ w1 B (.cells #[.nilIface] 38)/\Kp [t.St,B] w1 c):=
  ⟨z,r,(a.mono (S':=t.St::X) sM).trans m (λ_ h _=>h),W,w1,B,p,(a.mono (S':=[t.St]) sM).trans o (λ_ h _=>h),oM,K,l,n⟩
 clear z r m p o l n;go_wp2;go_ret;exact⟨v,rfl,F⟩
structure LiveT(E:SEnv)(w:World)(x A n:Nat)(t:Tx)(s:Sto)(r:Root):Prop where
 hx:w.heap[x]?=some (qA1 t)
 over:t.over=false
 on:t.on=some ⟨E.V,0,none⟩
 hSt:w.heap[t.St]?=some (θ 0 s)
 po:s.po=false
 sV:s.V=E.V
 hV:w.heap[E.V]?=some (qE4 A n)
 n1:n≤1000
 bl0:0≤s.bl
 bl1:s.bl≤100000
 dev:E.Dev w
 vS:E.V ∉ E.S
 rr:RR E.toEnv w t.h r
 good:RGood r
 sz:r.cont.length≤50000
 ch0:0≤t.ch
 ch1:t.ch≤100000000
theorem ω{w:World}{a b:Nat}{c d:Array Value}{t u:TypeId}{g i:Nat × Nat}(j:w.heap[a]?=some (.cells c t g))(f:w.heap[b]?=some (.cells d u i))(h:t≠u):a≠b:=λe=>by
 subst e;rw[j] at f;cases f;exact h rfl
theorem LiveT.xS{E}{w}{x A n:Nat}{t}{s}{r}(h:LiveT E w x A n t s r):x≠t.St:=ω h.hx h.hSt dC
theorem LiveT.devS{E}{w W}{x A n:Nat}{t}{s}{r}(h:LiveT E w x A n t s r)(hK:Kp [t.St] w W):E.Dev W:=E.keepX w W [t.St] h.dev hK (OffD.one h.hSt dC)
theorem LiveT.more{E}{w W}{x A n:Nat}{t}{s}{r}(h:LiveT E w x A n t s r)(hK:Kp [] w W):LiveT E W x A n t s r:=
 { h with hx:=hK.hp h.hx,hSt:=hK.hp h.hSt,hV:=hK.hp h.hV,dev:=E.keepX w W [] h.dev hK (λk hk=>by simp at hk),rr:=h.rr.keepT hK (Apt.nil _ _) }
structure FineT(E:SEnv)(w w':World)(x:Nat)(t:Tx)(s:Sto)(r':Root)(h':HL):Prop where
 hx:w'.heap[x]?=some (qA1 { t with h:=h',ch:=t.ch+1 })
 rr:RR E.toEnv w' h' r'
 dev:E.Dev w'
 hSt:w'.heap[t.St]?=some (θ 0 s)
 kp:Kp (t.St::x::E.S) w w'
structure BadT(E:SEnv)(w w':World)(t:Tx)(s:Sto):Prop where
 dev:E.Dev w'
 hSt:w'.heap[t.St]?=some (θ 0 s)
 kp:Kp (t.St::E.S) w w'
theorem qN9{w1}{St B:Nat}{s}{c:Int}(a:w1.heap[St]?=some (θ c s))(b:w1.heap[B]?=some (.cells #[.nilIface] 38)):OffD w1 [St,B]:=(OffD.one a dC).cons (OffD.one b dC)
theorem xT9{w1}{St B:Nat}{s}{c:Int}(a:w1.heap[St]?=some (θ c s))(b:w1.heap[B]?=some (.cells #[.nilIface] 38)):Apt w1 [St,B] qF5:=(Apt.one a dC).cons (Apt.one b dC)
theorem zY8(E)(j:Int)(u:j≠8)(x A n f:Nat)(t)(s)(r)(key call)(first cap)(w)(a:LiveT E w x A n t s r)
  (y:∀ (W) (d c g:Nat),Kp [t.St] w W->E.Dev W->W.heap[x]?=some (qA1 t)->W.heap[t.St]?=some (θ 1 s)->W.heap[d]?=some (.cells #[.pointer (some ⟨x,0,none⟩)] 32)->W.heap[c]?=some (.cells #[.string key] 9)->W.heap[g]?=some (.cells #[.func (.func f) first cap] 1)->
   Calls prog 100 #[.pointer (some ⟨d,0,none⟩),.pointer (some ⟨c,0,none⟩),.pointer (some ⟨g,0,none⟩)] W λe w1=>e=qB5 (some j)/\E.To W w1):
  Calls prog 61 #[.pointer (some ⟨x,0,none⟩),.string call,.string key,.func (.func f) first cap] w λe k=>∃ v,e=.returned v/\ErrV k v (some j)/\BadT E w k t s:=by
 refine (zZ0 (some j) (by simpa using u) x f t s key call first cap E.S (λW w1=>E.To W w1/\Ϙ w1 t.St (θ 1 s)) w a.hx a.over a.hSt a.po a.xS (λi hi=>E.low w a.dev i hi) ?_).mono ?_
 .intro W d c g hK _ _ _ l p o q;have z:=hK.heap a.hx (by simp;exact a.xS);have m:=a.devS hK;refine (y W d c g hK m z l p o q).mono ?_;rintro e w1 ⟨rfl,b⟩;have h:=E.stay m b l dC;exact⟨rfl,⟨b,h⟩,b.kp.mono (by simp +contextual),h⟩
 .rintro e k ⟨v,rfl,hv,hSt,hK,W,w1,B,⟨b,h⟩,hKW,hB1,hB2,hB3,hKB⟩;exact⟨v,rfl,hv,E.keepX w1 k _ b.dev hKB (qN9 h hB3),hSt,hK⟩
theorem zY9(E)(x A n f:Nat)(t)(s)(r r')(key call)(first cap)(w)(a:LiveT E w x A n t s r)(R:t.wrt=true)(M:1<=key.size)(N:key.size<=8)
  (K:∀ W:World,Sem.run prog (callFunc f (first++cap)) W=.ok (.enter f (first++cap)) W)
  (Q:∀ W:World,Kp [t.St] w W->E.Dev W->W.heap[x]?=some (qA1 t)->W.heap[t.St]?=some (θ 1 s)->W.heap[E.V]?=some (qE4 A n)->RR E.toEnv W t.h r->
   Calls prog f (first++cap) W λe w1=>e=qB5 none/\∃ c b,E.To W c/\RR E.toEnv w1 b r'/\w1.heap[x]?=some (qA1 { t with h:=b })/\Kp [x] c w1):
  Calls prog 61 #[.pointer (some ⟨x,0,none⟩),.string call,.string key,.func (.func f) first cap] w λe u=>e=.returned .nilIface/\∃ b,FineT E w u x t s r' b:=by
 have m:=a.xS;refine (zZ0 none dC x f t s key call first cap (x::E.S) (λW w1=>E.Dev w1/\Ϙ w1 t.St (θ 1 s)/\∃ b,RR E.toEnv w1 b r'/\Ϙ w1 x (qA1 { t with h:=b,ch:=t.ch+1 })) w a.hx a.over a.hSt a.po a.xS (λi hi=>by
   rcases List.mem_cons.1 hi with h|h
   .rw[h];exact ζ a.hx
   .exact E.low w a.dev i h) ?_).mono ?_
 .intro W F D G hK U _ _ y o H J;have k:=hK.heap a.hx (by simp;exact m);have l:=a.devS hK;have I:=hK.heap a.hV (by simp;exact λe=>ω a.hV a.hSt dC e);have O:=a.rr.keepT hK (Apt.one a.hSt dC);have T:=ω k o dC;have V:Apt W [x] qF5:=Apt.one k dC;refine (jB6 F D G x f t key first cap (λb w1=>∃ c,E.To W c/\RR E.toEnv w1 b r'/\Kp [x] c w1) W o H J k R M N a.ch0 (by have:=a.ch1;omega) K ?_).mono ?_
  .refine (Q W hK l k y I O).mono ?_;rintro e w1 ⟨rfl,c,b,d,q,g,j⟩;exact⟨rfl,b,⟨c,d,q,j⟩,g,j.heap (E.stay l d o dC) (by simp;exact λe=>T e.symm)⟩
  .rintro e C ⟨rfl,w1,b,⟨c,d,q,j⟩,g,hx2,hk2⟩;have S:=E.stay l d k dC;have p:=E.keepX c w1 [x] d.dev j (OffD.one S dC);have L:=E.keepX w1 C [x] p hk2 (OffD.one g dC);have z:Ϙ C t.St (θ 1 s):=hk2.heap (j.heap (E.stay l d y dC) (by simp;exact λe=>m e.symm)) (by simp;exact λe=>m e.symm);refine⟨rfl,⟨L,z,b,q.keepT hk2 (Apt.one g dC),hx2⟩,?_,z⟩;exact (((d.kp.mono (S':=t.St::x::E.S) (by simp +contextual)).trans j (by simp +contextual)).trans hk2 (by simp +contextual))
 .rintro e u ⟨v,rfl,hv,hSt,hK,W,w1,B,⟨p,hS1,b,hrr1,g⟩,hKW,hB1,hB2,hB3,hKB⟩;have P:v=.nilIface:=hv;subst P;refine⟨rfl,b,hKB.heap g ?_,hrr1.keepT hKB (xT9 hS1 hB3),E.keepX w1 u _ p hKB (qN9 hS1 hB3),hSt,hK⟩;simp only[mC,lN,or_false,not_or];exact⟨m,ω g hB3 dC⟩
theorem zL2(args)(W):Sem.run prog (callFunc 72 args) W=.ok (.enter 72 args) W:=by
 simp[go_sem,func72]
theorem FineT.from{E}{w w0 w'}{x:Nat}{t}{s}{r'}{h'}(hK:Kp [] w w0)(h:FineT E w0 w' x t s r' h'):FineT E w w' x t s r' h':=
 { h with kp:=(hK.mono sM).trans h.kp (λ_ h _=>h) }
theorem BadT.from{E}{w w0 w'}{t}{s}(hK:Kp [] w w0)(h:BadT E w0 w' t s):BadT E w w' t s:=
 { h with kp:=(hK.mono sM).trans h.kp (λ_ h _=>h) }
def qW6(t:Tx)(p:KV)(full:Bool):Option Int:=
 if t.wrt=false then some 6 else if qH9 p.k=false then some 1 else if 12<p.v.size then some 2 else if full then some 3 else none
theorem qV6(k):qH9 k=true↔1<=k.size/\k.size<=8:=by simp[qH9]
theorem zN5{k}(h:qH9 k=false):k.size<1\/8<k.size:=by
 have:=mt (qV6 k).2 (by simp[h]);omega
theorem kJ0(E)(x A n:Nat)(t)(s)(r)(p)(w)(a:LiveT E w x A n t s r)(z:t.wrt=true)(g:qC6 p)(h:((r.put p).news:Int)<=(n:Int)-2-s.bl):
  Calls prog 34 #[.pointer (some ⟨x,0,none⟩),.string p.k,.string p.v] w λe C=>e=.returned .nilIface/\∃ c,FineT E w C x t s (r.put p) c:=by
 have HL:=zh a;have k:=zh h;have b:=zh g;have I:=ζ a.hx;have F:=ζ a.hSt;clear a h g;have G:=zM;go_enter func34,ntmps34;go_wp2_with fail;obtain⟨D,i,o,l,u,f,H⟩:=alE w (.cells #[ϖ x] 32) (.cells #[.string p.k] 9) (.cells #[.string p.v] 9)
 rw[<-i];clear i;refine (zY9 E x A n 72 t s r (r.put p) p.k _ #[] #[ϖ (w.heap.size+2),ϖ w.heap.size,ϖ (w.heap.size+1)] D (HL.more f) z b.1 b.2.1 (zL2 _) ?_).mono ?_
 .intro W hK v B m q y;exact kI8 E (w.heap.size+2) w.heap.size (w.heap.size+1) x A n t s r p W ⟨hK.ho u,hK.ho o,hK.ho l,B,HL.on,m,HL.sV,q,HL.n1,HL.bl0,HL.bl1,v,HL.vS,y,HL.good,HL.sz⟩ b k
 .rintro e w1 ⟨rfl,c,d⟩;have j:=zh (d.from f);clear d;go_wp2;go_ret;exact⟨rfl,c,j⟩
theorem xM2(E)(x A n:Nat)(t)(s)(r)(p)(j:Int)(w)(o:LiveT E w x A n t s r)(J:qW6 t p (decide ((n:Int)-2-s.bl<((r.put p).news:Int)))=some j):
  Calls prog 34 #[.pointer (some ⟨x,0,none⟩),.string p.k,.string p.v] w λe i=>∃ v,e=.returned v/\ErrV i v (some j)/\BadT E w i t s:=by
 have HL:=zh o;have F:=zh J;have X:=ζ o.hx;have T:=ζ o.hSt;clear o J;have U:=zM;go_enter func34,ntmps34;go_wp2_with fail;obtain⟨S,K,O,M,H,f,V⟩:=alE w (.cells #[ϖ x] 32) (.cells #[.string p.k] 9) (.cells #[.string p.v] 9)
 rw[<-K];clear K;have Q:j≠8:=by
  have h:=F.out;unfold qW6 at h
  repeat' split at h
  all_goals first | (cases h;decide) | cases h
 refine (zY8 E j Q x A n 72 t s r p.k _ #[] #[ϖ (w.heap.size+2),ϖ w.heap.size,ϖ (w.heap.size+1)] S (HL.more f) ?_).mono ?_
 .intro W l k m hK u g N q B I;have h:=F.out;unfold qW6 at h;by_cases z:t.wrt=false
  .rw[if_pos z] at h;cases h;exact (zY6 l k m x t W q g z).mono λe i ⟨a,b⟩=>⟨a,by rw[b];exact Env.To.of0 u kF⟩
  .rw[if_neg z] at h;have D:t.wrt=true:=by simpa using z
   by_cases y:qH9 p.k=false
   .rw[if_pos y] at h;cases h;exact (zY5 l k m x t p.k W q B g D (zN5 y)).mono λe i ⟨a,b⟩=>⟨a,by rw[b];exact Env.To.of0 u kF⟩
   .rw[if_neg y] at h;have c:=(qV6 p.k).1 (by simpa using y);by_cases d:12<p.v.size
    .rw[if_pos d] at h;cases h;refine zY7 2 l k m x 72 t p.k #[] _ (λw1=>E.To W w1) W q B I g D c.1 c.2 (zL2 _) ?_;exact (kI7 (w.heap.size+2) w.heap.size (w.heap.size+1) p.v W (hK.ho H) d).mono λe i ⟨a,b⟩=>⟨a,by rw[b];exact Env.To.of0 u kF⟩
    .rw[if_neg d] at h;by_cases C:(n:Int)-2-s.bl<((r.put p).news:Int)
     .rw[if_pos (by simpa using C)] at h;cases h;refine zY7 3 l k m x 72 t p.k #[] _ (λw1=>E.To W w1) W q B I g D c.1 c.2 (zL2 _) ?_;have P:=hK.heap (f.hp HL.hV) (by simp;exact λe=>ω HL.hV HL.hSt dC e);have R:=(HL.more f).rr.keepT hK (Apt.one (f.hp HL.hSt) dC);exact kI9 E (w.heap.size+2) w.heap.size (w.heap.size+1) x A n t s r p W ⟨hK.ho H,hK.ho O,hK.ho M,g,HL.on,N,HL.sV,P,HL.n1,HL.bl0,HL.bl1,u,HL.vS,R,HL.good,HL.sz⟩ ⟨c.1,c.2,oM⟩ C
     .rw[if_neg (by simpa using C)] at h;cases h
 .rintro e w1 ⟨v,rfl,d,G⟩;have L:=zh (n2 d (G.from f));clear d G;go_wp2;go_ret;exact⟨v,rfl,L⟩
theorem zZ1(x f:Nat)(t)(s)(key call)(first cap)(w)(k:w.heap[x]?=some (qA1 t))(p:t.over=true)(o:w.heap[t.St]?=some (θ 0 s))(q:s.po=false)(l:x≠t.St):
  Calls prog 61 #[.pointer (some ⟨x,0,none⟩),.string call,.string key,.func (.func f) first cap] w λe c=>∃ v,e=.returned v/\ErrV c v (some 5)/\c.heap[t.St]?=some (θ 0 s)/\Kp [t.St] w c:=by
 have r:=zM;have u:=ζ k;have n:=zh l;clear l;go_enter func61,ntmps61;go_wp2_with fail;obtain⟨a,j,b⟩:∃ a,a=((w.alloc (.cells #[ϖ x] 32)).alloc (.cells #[.string key] 9)).alloc (.cells #[.func (.func f) first cap] 1)/\Kp [] w a:=⟨_,rfl,((kF.alloc _).alloc _).alloc _⟩;rw[<-j];clear j;refine (qT1 x t.St 100 t s #[] _ call a (b.hp k) p rfl (b.hp o) q n).mono ?_;rintro e y ⟨v,rfl,i,g,d⟩;have m:=zh (n3 i g ((b.mono sM).trans d (λ_ h _=>h)));clear i g d;go_wp2;go_ret;exact⟨v,rfl,m⟩
theorem kJ2(x:Nat)(t:Tx)(s:Sto)(p:KV)(w:World)(i:w.heap[x]?=some (qA1 t))(n:t.over=true)(m:w.heap[t.St]?=some (θ 0 s))(o:s.po=false)(j:x≠t.St):
  Calls prog 34 #[.pointer (some ⟨x,0,none⟩),.string p.k,.string p.v] w λe b=>∃ v,e=.returned v/\ErrV b v (some 5)/\b.heap[t.St]?=some (θ 0 s)/\Kp [t.St] w b:=by
 have B:=ζ i;have l:=zh j;clear j;have z:=zM;go_enter func34,ntmps34;go_wp2_with fail;obtain⟨q,g,u,r,y,a,A⟩:=alE w (.cells #[ϖ x] 32) (.cells #[.string p.k] 9) (.cells #[.string p.v] 9)
 rw[<-g];clear g;refine (zZ1 x 72 t s p.k _ #[] _ q (a.hp i) n (a.hp m) o l).mono ?_;rintro e w1 ⟨v,rfl,f,c,d⟩;have k:=zh (n3 f c ((a.mono sM).trans d (λ_ h _=>h)));clear f c d;go_wp2;go_ret;exact⟨v,rfl,k⟩
theorem jI6(E:SEnv)(s q x:Nat)(t:Tx)(r:Root)(k:ByteArray)(w:World)(H:w.heap[s]?=some (.cells #[.pointer (some ⟨x,0,none⟩)] 32))(D:w.heap[q]?=some (.cells #[.string k] 9))(i:w.heap[x]?=some (qA1 t))(L:t.on=some ⟨E.V,0,none⟩)(I:E.Dev w)(N:RR E.toEnv w t.h r)(J:RGood r)(V:r.cont.length<=50000):
  Calls prog 62 #[.pointer (some ⟨s,0,none⟩),.pointer (some ⟨q,0,none⟩)] w λe y=>e=qB5 none/\∃ w1 a,E.To w w1/\RR E.toEnv y a (r.del k)/\y.heap[x]?=some (qA1 { t with h:=a })/\Kp [x] w1 y:=by
 have l:=zh I;have T:=zh N;have R:=zh J;have Y:=ζ i;clear I N J;go_enter func62,ntmps62;go_wp2_with fail;have d:=n2 H D;refine wp_region_held_drew (S:=λW=>W.heap[s]?=some (.cells #[ϖ x] 32)/\W.heap[q]?=some (.cells #[.string k] 9)) kR d (λ_=>?_);refine zV 0 (ϖ x) rfl (λW b=>by have c:=ξ b.1 0;simp at c;clear b;go_simp) d ?_;refine zV 1 (ϖ x) rfl (λW b=>by have c:=ξ b.1 0;simp at c;clear b;go_simp) d ?_;refine zP 2 x 0 d ?_;refine zP 3 x 4 d ?_;refine zV 5 (.string k) rfl (λW b=>by have c:=ξ b.2 0;simp at c;clear b;go_simp) d ?_;have j:=ξ i 4;have z:=ξ i 5;have A:=ξ i 6;have B:=ξ i 7;have C:=ξ i 8;simp only[qA1,zG,zH,zI] at j z A B C;rw[L] at j;refine zq 4 λK hK=>?_;go_simp;clear j z A B C;refine zk hK d ?_
 refine zq 6 λK hK=>?_;go_simp;have o:=(Env.To.of0 l kF).tail (kF.drew);have u:=kO9 E.toEnv r t.h k w.drew o.dev (T.to l o) R oM;rw[τ] at u;refine u.mono ?_;clear u;rintro e w1 ⟨a,rfl,M,G⟩;have n:=o.trans G;have f:=And.intro (E.stay l n H dC) (E.stay l n D dC);have g:=E.stay l n i dC;have X:=ζ g;refine zk hK f ?_
 refine zP 7 x 0 f ?_;refine zP 8 x 4 f ?_;have j:=ξ g;simp only[qA1,zG,zH,zI] at j;have U:=φ g;rw[τ];refine zq 9 λK hK=>?_;go_simp;have v:=xQ2 (ϖ E.V) (.string a.key) (ϊ a.b) (.int .u64 a.s) (.pointer a.ptr) g;obtain⟨p,O,P,m⟩:∃ p,p=((((w1.setCell ⟨x,4,none⟩ (ϖ E.V)).setCell ⟨x,5,none⟩ (.string a.key)).setCell ⟨x,6,none⟩ (ϊ a.b)).setCell ⟨x,7,none⟩ (.int .u64 a.s)).setCell ⟨x,8,none⟩ (.pointer a.ptr)/\p.heap[x]?=some (qA1 { t with h:=a })/\Kp [x] w1 p:=⟨_,rfl,by rw[v.1,qA1,L],v.2⟩;rw[<-O];clear O v j U;have F:=And.intro (m.heap f.1 (by simp;exact ω f.1 g dC)) (m.heap f.2 (by simp;exact ω f.2 g dC));refine zk hK F ?_
 refine zd ?_;have Q:=zh (n4 n (M.keepT m (Apt.one g dC)) P m);clear F f d P g M G n o m;go_wp2
 go_end0
 exact⟨rfl,w1,a,Q⟩
theorem jB3(args)(W):Sem.run prog (callFunc 62 args) W=.ok (.enter 62 args) W:=by
 simp[go_sem,func62]
def qY4(t:Tx)(k:ByteArray):Option Int:=if t.wrt=false then some 6 else if qH9 k=false then some 1 else none
theorem jI8(E)(x A n:Nat)(t)(s)(r)(k)(w)(a:LiveT E w x A n t s r)(p:t.wrt=true)(g:qH9 k=true):
  Calls prog 28 #[.pointer (some ⟨x,0,none⟩),.string k] w λe u=>e=.returned .nilIface/\∃ b,FineT E w u x t s (r.del k) b:=by
 have HL:=zh a;have c:=zh ((qV6 k).1 g);have F:=ζ a.hx;have z:=ζ a.hSt;clear a g;have C:=zM;go_enter func28,ntmps28;go_wp2_with fail;obtain⟨v,h,l,j,f,D⟩:=alC w (.cells #[ϖ x] 32) (.cells #[.string k] 9)
 rw[<-h];clear h;refine (zY9 E x A n 62 t s r (r.del k) k _ #[] #[ϖ w.heap.size,ϖ (w.heap.size+1)] v (HL.more f) p c.1 c.2 (jB3 _) ?_).mono ?_
 .intro W hK m q y B o;exact jI6 E w.heap.size (w.heap.size+1) x t r k W (hK.ho l) (hK.ho j) q HL.on m o HL.good HL.sz
 .rintro e w1 ⟨rfl,b,d⟩;have i:=zh (d.from f);clear d;go_wp2;go_ret;exact⟨rfl,b,i⟩
theorem jI7(E)(x A n:Nat)(t)(s)(r)(k)(j:Int)(w)(c:LiveT E w x A n t s r)(z:qY4 t k=some j):
  Calls prog 28 #[.pointer (some ⟨x,0,none⟩),.string k] w λe f=>∃ v,e=.returned v/\ErrV f v (some j)/\BadT E w f t s:=by
 have HL:=zh c;have i:=zh z;have R:=ζ c.hx;have M:=ζ c.hSt;clear c z;have P:=zM;go_enter func28,ntmps28;go_wp2_with fail;obtain⟨J,C,N,K,q,Q⟩:=alC w (.cells #[ϖ x] 32) (.cells #[.string k] 9)
 rw[<-C];clear C;have H:j≠8:=by
  have h:=i.out;unfold qY4 at h
  repeat' split at h
  all_goals first | (cases h;decide) | cases h
 refine (zY8 E j H x A n 62 t s r k _ #[] #[ϖ w.heap.size,ϖ (w.heap.size+1)] J (HL.more q) ?_).mono ?_
 .intro W m l o hK y D L u G O;have h:=i.out;unfold qY4 at h;by_cases d:t.wrt=false
  .rw[if_pos d] at h;cases h;exact (zY6 m l o x t W u D d).mono λe f ⟨a,b⟩=>⟨a,by rw[b];exact Env.To.of0 y kF⟩
  .rw[if_neg d] at h;have I:t.wrt=true:=by simpa using d
   by_cases g:qH9 k=false
   .rw[if_pos g] at h;cases h;exact (zY5 m l o x t k W u G D I (zN5 g)).mono λe f ⟨a,b⟩=>⟨a,by rw[b];exact Env.To.of0 y kF⟩
   .rw[if_neg g] at h;cases h
 .rintro e w1 ⟨v,rfl,B,p⟩;have F:=zh (n2 B (p.from q));clear B p;go_wp2;go_ret;exact⟨v,rfl,F⟩
theorem jJ2(x:Nat)(t)(s)(k)(w)(i:w.heap[x]?=some (qA1 t))(o:t.over=true)(n:w.heap[t.St]?=some (θ 0 s))(p:s.po=false)(j:x≠t.St):
  Calls prog 28 #[.pointer (some ⟨x,0,none⟩),.string k] w λe b=>∃ v,e=.returned v/\ErrV b v (some 5)/\b.heap[t.St]?=some (θ 0 s)/\Kp [t.St] w b:=by
 have A:=ζ i;have m:=zh j;clear j;have y:=zM;go_enter func28,ntmps28;go_wp2_with fail;obtain⟨q,g,u,r,a,z⟩:=alC w (.cells #[ϖ x] 32) (.cells #[.string k] 9)
 rw[<-g];clear g;refine (zZ1 x 62 t s k _ #[] _ q (a.hp i) o (a.hp n) p m).mono ?_;rintro e w1 ⟨v,rfl,f,c,d⟩;have l:=zh (n3 f c ((a.mono sM).trans d (λ_ h _=>h)));clear f c d;go_wp2;go_ret;exact⟨v,rfl,l⟩
theorem jQ1(a g h d:Nat)(k)(w)(b:w.heap[a]?=some (.cells #[.string k] 9))(c:k.size<1\/8<k.size):
  Calls prog 243 #[.pointer (some ⟨a,0,none⟩),.pointer (some ⟨g,0,none⟩),.pointer (some ⟨h,0,none⟩),.pointer (some ⟨d,0,none⟩)] w λe i=>e=qB5 (some 1)/\i=w:=by
 have j:=ζ b;have l:=ϻ b 0;have f:=zh c;clear c;go_enter func243,ntmps243;go_wp2_with fail;refine (zZ2 k _ f).mono ?_;rintro e w1 ⟨rfl,rfl⟩;simp only[qB5];go_wp2;exact⟨rfl,rfl,rfl⟩
theorem jQ2(E:SEnv)(s B b d x:Nat)(t:Tx)(r:Root)(k:ByteArray)(w:World)(z:w.heap[s]?=some (.cells #[.string k] 9))(P:w.heap[B]?=some (.cells #[.pointer (some ⟨x,0,none⟩)] 32))(af:w.heap[b]?=some (.cells #[.string ⟨#[]⟩] 9))(ae:w.heap[d]?=some (.cells #[.bool false] 4))(V:s≠b)
  (G:w.heap[x]?=some (qA1 t)) (ag:t.on=some ⟨E.V,0,none⟩) (R:E.Dev w) (X:RR E.toEnv w t.h r) (T:RGood r) (ak:r.cont.length<=50000) (U:qH9 k=true):
  Calls prog 243 #[.pointer (some ⟨s,0,none⟩),.pointer (some ⟨B,0,none⟩),.pointer (some ⟨b,0,none⟩),.pointer (some ⟨d,0,none⟩)] w λe H=>e=qB5 none/\H.heap[b]?=some (.cells #[.string (qN2 r.cont k)] 9)/\H.heap[d]?=some (.cells #[.bool (qG1 r.cont k).isSome] 4)/\∃ w1,E.To w w1/\Kp [b,d] w1 H:=by
 have j:=zh R;have ab:=zh X;have HG:=zh T;have HN:=zh V;have F:=(qV6 k).1 U;have al:=ζ G;have aj:=ζ z;have k0:=ϻ z 0;clear R X T V U;go_enter func243,ntmps243;go_wp2_with fail;refine (zL3 k _ F.1 F.2).mono ?_;rintro e w1 ⟨rfl,rfl⟩;simp only[qB5];clear k0 F;go_wp2_with fail;have l:=n3 P z G;refine wp_region_held_drew (S:=λW=>Ϙ W B (.cells #[ϖ x] 32)/\Ϙ W s (.cells #[.string k] 9)/\Ϙ W x (qA1 t)) kR l (λ_=>?_);refine zV 0 (ϖ x) rfl (λW a=>by have c:=ξ a.1 0;simp at c;clear a;go_simp) l ?_;refine zP 1 x 0 l ?_;refine zP 2 x 4 l ?_;refine zV 3 (τ E.V t.h) rfl (λW a=>by have a0:=ξ a.2.2 4;have a1:=ξ a.2.2 5;have a2:=ξ a.2.2 6;have a3:=ξ a.2.2 7;have a4:=ξ a.2.2 8;simp only[qA1,ag,zG,zH,zI] at a0 a1 a2 a3 a4;clear a;rw[τ];go_simp) l ?_;refine zV 4 (.string k) rfl (λW a=>by have c:=ξ a.2.1 0;simp at c;clear a;go_simp) l ?_;refine zq 5 λK hK=>?_;go_simp;have A:=(Env.To.of0 j kF).tail (kF.drew);refine (qZ0 E.toEnv r t.h k w1.drew A.dev (ab.to j A) HG oM).mono ?_;rintro e I ⟨rfl,O⟩;have m:=A.trans O;have f:=And.intro (E.stay j m P dC) (And.intro (E.stay j m z dC) (E.stay j m G dC));have g:=E.stay j m af dC;have y:=E.stay j m ae dC;refine zk hK f ?_
 obtain⟨v,D⟩:=eY (qN2 r.cont k);obtain⟨u,C⟩:=eY ((qG1 r.cont k).isSome);rw[D,C];have J:=zh (n2 D C);clear D C;refine zU 6 (.tuple #[.string v,.bool u]) f ?_;refine zU 7 (.string v) f ?_;refine zU 8 (.bool u) f ?_;have ai:=ζ g;have v0:=ϻ g 0;have ad:=φ g 0;refine zq 9 λK hK=>?_;go_simp;obtain⟨q,Y,Q,o⟩:∃ q,q=I.setCell ⟨b,0,none⟩ (.string v)/\Ϙ q b (.cells #[.string v] 9)/\Kp [b] I q:=⟨_,rfl,μ g 0 _,kF.sc _⟩;rw[<-Y];clear Y v0 ad;have i:=And.intro (o.heap f.1 (by simp;exact ω f.1 g dC)) (And.intro (o.heap f.2.1 (by simp;exact HN)) (o.heap f.2.2 (by simp;exact ω f.2.2 g dC)));have h:=o.heap y (by simp;exact ω y g dC);have M:=ω g y dC;have aa:=zh M;clear M;refine zk hK i ?_
 have ah:=ζ h;have b0:=ϻ h 0;have ac:=φ h 0;refine zq 10 λK hK=>?_;go_simp;obtain⟨n,Z,L,p⟩:∃ n,n=q.setCell ⟨d,0,none⟩ (.bool u)/\Ϙ n d (.cells #[.bool u] 4)/\Kp [d] q n:=⟨_,rfl,μ h 0 _,kF.sc _⟩;rw[<-Z];clear Z b0 ac;have N:=And.intro (p.heap i.1 (by simp;exact ω i.1 h dC)) (And.intro (p.heap i.2.1 (by simp;exact ω i.2.1 h dC)) (p.heap i.2.2 (by simp;exact ω i.2.2 h dC)));refine zk hK N ?_
 refine zd ?_;have HF:Hid (Ϙ n b (.cells #[.string (qN2 r.cont k)] 9)/\Ϙ n d (.cells #[.bool (qG1 r.cont k).isSome] 4)/\∃ w0,E.To w1 w0/\Kp [b,d] w0 n):=by
  refine⟨?_,?_,I,m,(o.mono (S':=[b,d]) (by simp +contextual)).trans p (by simp +contextual)⟩
  .rw[J.out.1];exact p.heap Q (by simp;exact aa)
  .rw[J.out.2];exact L
 clear N i f l Q g L h y o p O m A;go_wp2
 go_end0
 exact⟨rfl,HF⟩
theorem zY2(args)(W):Sem.run prog (callFunc 243 args) W=.ok (.enter 243 args) W:=by
 simp[go_sem,func243]
theorem kP0(E)(x A n:Nat)(t)(s)(r)(k)(w)(g:LiveT E w x A n t s r)(m:qH9 k=true):
  Calls prog 197 #[.pointer (some ⟨x,0,none⟩),.string k] w λe U=>e=.returned (.tuple #[.string (qN2 r.cont k),.bool (qG1 r.cont k).isSome,.nilIface])/\BadT E w U t s:=by
 have HL:=zh g;have L:=zh m;have ad:=ζ g.hx;have P:=ζ g.hSt;clear g m;have aa:=zM;go_enter func197,ntmps197;go_wp2_with fail;obtain⟨K,J,G,D,I,C,q,ac⟩:=alG w (.cells #[ϖ x] 32) (.cells #[.string k] 9) (.cells #[.string ⟨#[]⟩] 9) (.cells #[.bool false] 4)
 rw[<-J];clear J;have a:=HL.out.more q;refine (qP3 none dC x t.St 243 t s s #[] #[ϖ (w.heap.size+1),ϖ w.heap.size,ϖ (w.heap.size+1+1),ϖ (w.heap.size+1+1+1)] _ ((w.heap.size+1+1)::(w.heap.size+1+1+1)::E.S) (λW w1=>E.Dev w1/\Ϙ w1 t.St (θ 1 s)/\w1.heap[w.heap.size+1+1]?=some (.cells #[.string (qN2 r.cont k)] 9)/\w1.heap[w.heap.size+1+1+1]?=some (.cells #[.bool (qG1 r.cont k).isSome] 4)) K a.hx a.over rfl a.hSt a.po a.xS (zY2 _) (λi b=>by
  simp only[mC] at b;rcases b with h|h|h
  .omega
  .omega
  .exact E.low K a.dev i h) ?_).mono ?_
 .intro W hK O;have l:=a.devS hK;have H:=hK.ho I;have B:=hK.ho C;refine (jQ2 E (w.heap.size+1) w.heap.size (w.heap.size+1+1) (w.heap.size+1+1+1) x t r k W (hK.ho D) (hK.ho G) H B oM (hK.heap a.hx (by simp;exact a.xS)) a.on l (a.rr.keepT hK (Apt.one a.hSt dC)) a.good a.sz L).mono ?_;rintro e d ⟨rfl,Q,R,w1,c,p⟩;have F:Ϙ d t.St (θ 1 s):=p.heap (E.stay l c O dC) sO;have S:=(OffD.one (E.stay l c H dC) dC).cons (OffD.one (E.stay l c B dC) dC);exact⟨rfl,⟨E.keepX w1 d _ c.dev p S,F,Q,R⟩,(c.kp.mono (S':=t.St::(w.heap.size+1+1)::(w.heap.size+1+1+1)::E.S) (by simp +contextual)).trans p (by intro i b _;simp at b |-;omega),F⟩
 rintro e d ⟨v,rfl,hv,hSt2,hK2,W,w1,Bb,⟨hd1,hS1,hV1,hB1⟩,hKW,hb1,hb2,hb3,hKB⟩;have T:v=.nilIface:=hv;subst T;have ab:=P;have j:=hKB.ho hV1;have f:=hKB.ho hB1;have o:Hid (BadT E w d t s):=⟨E.keepX w1 d _ hd1 hKB (qN9 hS1 hb3),hSt2,(q.mono (S':=t.St::E.S) sM).trans hK2 (by intro i b Z;simp at b |-;rcases b with h | h | h | h;simp[h];omega;omega;simp[h])⟩;clear hv hSt2 hK2 hd1 hS1 hV1 hB1 hKW hb3 hKB a G D I C q;obtain⟨N,y⟩:=eY (qN2 r.cont k);obtain⟨M,u⟩:=eY ((qG1 r.cont k).isSome);rw[y] at j;rw[u] at f;have z:=zh (n2 y u);clear y u;have Y:=ζ j;have X:=ζ f;have v0:=ϻ j 0;have V:=ϻ f 0;clear j f;go_wp2_with fail
 go_quiet (fail)
 go_wp2;refine bodyPost_ret (v:=.tuple #[.string N,.bool M,.nilIface]) (by simp[results,results197,go_sem]) rfl ?_;exact⟨by rw[z.out.1,z.out.2],{ o with dev:=E.keepX _ _ [] o.dev ((Kp.refl [] _).drewN _) (λk m=>by simp at m),kp:=o.out.kp.drewN _ }⟩
theorem kP1(E)(x A n:Nat)(t)(s)(r)(k)(w)(c:LiveT E w x A n t s r)(d:qH9 k=false):
  Calls prog 197 #[.pointer (some ⟨x,0,none⟩),.string k] w λe y=>∃ v,e=.returned (.tuple #[.string ⟨#[]⟩,.bool false,v])/\ErrV y v (some 1)/\BadT E w y t s:=by
 have HL:=zh c;have z:=zh d;have L:=ζ c.hx;have G:=ζ c.hSt;clear c d;have J:=zM;go_enter func197,ntmps197;go_wp2_with fail;obtain⟨C,u,B,m,p,l,g,K⟩:=alG w (.cells #[ϖ x] 32) (.cells #[.string k] 9) (.cells #[.string ⟨#[]⟩] 9) (.cells #[.bool false] 4)
 rw[<-u];clear u;have a:=HL.out.more g;refine (qP3 (some 1) dC x t.St 243 t s s #[] #[ϖ (w.heap.size+1),ϖ w.heap.size,ϖ (w.heap.size+1+1),ϖ (w.heap.size+1+1+1)] _ [] (λW w1=>E.Dev w1/\Ϙ w1 t.St (θ 1 s)) C a.hx a.over rfl a.hSt a.po a.xS (zY2 _) sM ?_).mono ?_
 .intro W hK o;refine (jQ1 (w.heap.size+1) w.heap.size (w.heap.size+1+1) (w.heap.size+1+1+1) k W (hK.ho m) (zN5 z)).mono ?_;rintro e w1 ⟨rfl,rfl⟩;exact⟨rfl,⟨a.devS hK,o⟩,Kp.refl _ _,o⟩
 rintro e j ⟨v,rfl,hv,hSt2,hK2,W,w1,Bb,⟨hd1,hS1⟩,hKW,hb1,hb2,hb3,hKB⟩;have h:=hK2.ho p;have f:=hK2.ho l;have b:Hid (ErrV j v (some 1)/\BadT E w j t s):=⟨hv,E.keepX w1 j _ hd1 hKB (qN9 hS1 hb3),hSt2,(g.mono (S':=t.St::E.S) sM).trans hK2 (by intro i q I;simp at q |-;simp[q])⟩;clear hv hSt2 hK2 hd1 hS1 hKW hb3 hKB a B m p l g;have H:=ζ h;have F:=ζ f;have M:=ϻ h 0;have D:=ϻ f 0;clear h f;go_wp2_with fail
 go_quiet (fail)
 go_wp2;refine bodyPost_ret (v:=.tuple #[.string ⟨#[]⟩,.bool false,v]) (by simp[results,results197,go_sem]) rfl ?_;exact⟨v,rfl,b.1,{ b.2 with dev:=E.keepX _ _ [] b.2.dev ((Kp.refl [] _).drewN _) (λk d=>by simp at d),kp:=b.out.2.kp.drewN _ }⟩
theorem kP2(x:Nat)(t)(s)(k)(w)(p:w.heap[x]?=some (qA1 t))(z:t.over=true)(j:w.heap[t.St]?=some (θ 0 s))(A:s.po=false)(q:x≠t.St):
  Calls prog 197 #[.pointer (some ⟨x,0,none⟩),.string k] w λe g=>∃ v,e=.returned (.tuple #[.string ⟨#[]⟩,.bool false,v])/\ErrV g v (some 5)/\g.heap[t.St]?=some (θ 0 s)/\Kp [t.St] w g:=by
 have I:=ζ p;have E:=ζ j;have r:=zh q;clear q;have G:=zM;go_enter func197,ntmps197;go_wp2_with fail;obtain⟨B,o,y,u,m,i,b,H⟩:=alG w (.cells #[ϖ x] 32) (.cells #[.string k] 9) (.cells #[.string ⟨#[]⟩] 9) (.cells #[.bool false] 4)
 rw[<-o];clear o;refine (qT1 x t.St 243 t s #[] _ _ B (b.hp p) z rfl (b.hp j) A r).mono ?_;rintro e K ⟨v,rfl,n,l,a⟩;have f:=a.ho m;have d:=a.ho i;have c:=zh (n3 n l ((b.mono sM).trans a (λ_ h _=>h)));clear n l a y u m i b;have F:=ζ f;have D:=ζ d;have J:=ϻ f 0;have C:=ϻ d 0;clear f d;go_wp2_with fail
 go_quiet (fail)
 go_wp2;refine bodyPost_ret (v:=.tuple #[.string ⟨#[]⟩,.bool false,v]) (by simp[results,results197,go_sem]) rfl ?_;exact⟨v,rfl,c.1,c.2.1,c.2.2.drewN _⟩
def qP0(on:Option Addr)(h:HL):Obj:=.cells #[.pointer on,.string h.key,.int .i64 h.b,.int .u64 h.s,.pointer h.ptr] 89
def pkv:Option KV→KV
 | none=>⟨⟨#[]⟩,⟨#[]⟩⟩
 | some p=>p
theorem jP2(o:Option KV):qC7 o=.tuple #[.agg #[.string (pkv o).k,.string (pkv o).v],.bool o.isSome]:=by
 cases o<;>rfl
theorem xS9(B b x:Nat)(t)(w)(c:w.heap[B]?=some (.cells #[.pointer (some ⟨x,0,none⟩)] 32))(a:w.heap[b]?=some (qP0 none ⟨⟨#[]⟩,0,0,none⟩))(d:w.heap[x]?=some (qA1 t)):
  Calls prog 177 #[.pointer (some ⟨B,0,none⟩),.pointer (some ⟨b,0,none⟩)] w λe f=>e=qB5 none/\f.heap[b]?=some (qP0 t.on t.h)/\Kp [b] w f:=by
 have o:=ζ c;have q:=ζ d;have p:=ζ a;have n:=ϻ c 0;have h:=ξ d;simp only[qA1,zG,zH,zI] at h;have i:=ξ a 0;have j:=ξ a 1;have k:=ξ a 2;have l:=ξ a 3;have m:=ξ a 4;simp only[qP0,zG,zH,zI] at i j k l m;have r:=φ a;have g:=zh a;clear a d c;go_enter func177,ntmps177;go_wp2
 go_end0
 exact⟨rfl,μ (μ (μ (μ (μ g 0 _) 1 _) 2 _) 3 _) 4 _,(((((Kp.refl [b] w).sc _).sc _).sc _).sc _).sc _⟩
theorem xT0(a:Nat)(lo k)(w)(b:w.heap[a]?=some (.cells #[.string lo] 9)):
  Calls prog 178 #[.string k,.pointer (some ⟨a,0,none⟩)] w λe c=>e=.returned (.bool !kl k lo)/\Kp [] w c:=by
 have d:=ζ b;have f:=ϻ b 0;go_enter func178,ntmps178;go_wp2;go_ret;exact⟨rfl,Kp.refl _ _⟩
theorem xE5(a b):(!Op.bytesLess a.toList b.toList && !(a.toList == b.toList))=kl b a:=by rw[<-Bool.not_or,xE7];simp
theorem xT2(a:Nat)(p k v)(w)(b:w.heap[a]?=some (.cells #[.string p,.string v] 42)):
  Calls prog 180 #[.string k,.pointer (some ⟨a,0,none⟩)] w λe c=>e=.returned (.bool (kl p k))/\Kp [] w c:=by
 have d:=ζ b;have f:=ϻ b 0;go_enter func180,ntmps180;go_wp2;go_ret;exact⟨by rw[<-xE5];rfl,Kp.refl _ _⟩
theorem xT1(E:SEnv)(z y d Tx g:Nat)(cap:Array Value)(f:ByteArray->Bool)(h:HL)(r:Root)(w:World)(a:w.heap[z]?=some (qP0 (some ⟨E.V,0,none⟩) h))(s:w.heap[y]?=some (.cells #[.func (.func g) #[] cap] 92))
  (A:w.heap[d]?=some (.cells #[.string ⟨#[]⟩,.string ⟨#[]⟩] 42)) (B:w.heap[Tx]?=some (.cells #[.bool false] 4)) (t:E.Dev w) (F:RR E.toEnv w h r) (D:RGood r) (G:Up f) (C:Asks E.toEnv w g cap f)
  (P:∀ (args:Array Value) (W:World),Sem.run prog (callFunc g args) W=.ok (.enter g args) W):
  Calls prog 179 #[.pointer (some ⟨z,0,none⟩),.pointer (some ⟨y,0,none⟩),.pointer (some ⟨d,0,none⟩),.pointer (some ⟨Tx,0,none⟩)] w λe j=>e=qB5 none/\j.heap[d]?=some (.cells #[.string (pkv (r.cont.find? λq=>f q.k)).k,.string (pkv (r.cont.find? λq=>f q.k)).v] 42)/\j.heap[Tx]?=some (.cells #[.bool (r.cont.find? λq=>f q.k).isSome] 4)/\∃ w1,E.To w w1/\Kp [d,Tx] w1 j:=by
 have V:=ζ a;have T:=ζ s;have H:=ξ a 0;have I:=ξ a 1;have J:=ξ a 2;have K:=ξ a 3;have L:=ξ a 4;simp only[qP0,zG,zH,zI] at H I J K L;have Q:=ϻ s 0;have v:=zh t;have M:Hid (Ω 49 #[.agg (ϟ E.V h),.func (.func g) #[] cap] w λe j=>e=ϱ (qC7 (r.cont.find? λq=>f q.k))/\E.To w j):=zI2 E.toEnv r h g cap f w t F D G C P;have N:=zh A;have O:=zh B;clear t F D G C a s A B;go_enter func179,ntmps179;go_wp2_with fail;refine (show Calls _ _ _ _ _ from M).mono ?_;rintro e w1 ⟨rfl,l⟩;rw[jP2];obtain⟨o,u⟩:∃ o,(r.cont.find? λq=>f q.k)=o:=⟨_,rfl⟩;rw[u];obtain⟨fk,fv,fb,i⟩:∃ fk fv fb,(pkv o).k=fk/\(pkv o).v=fv/\o.isSome=fb:=⟨_,_,_,rfl,rfl,rfl⟩;have c:=zh (n2 u i);rw[i.1,i.2.1,i.2.2];clear u i H I J K L Q;have b:=E.stay v l N dC;have n:=E.stay v l O dC;have U:=ζ b;have X:=ζ n;have x:=zh (ω n b dC);have p:=qI2 (.string fk) (.string fv) b;have m:=p.2.heap n (by simp;exact x);have Y:=ξ b;have R:=φ b;have Z:=ϻ m 0;have S:=φ m 0;have k:=zh (n4 l p.1 m p.2);clear l p m b n;go_wp2
 go_end0
 refine⟨rfl,?_,?_,w1,k.1,(k.2.2.2.mono (S':=[d,Tx]) (by simp +contextual)).sc _⟩
 .rw[c.out.1,c.out.2.1,c.out.2.2.1];exact (qB1 (λe=>x e.symm) _ _).trans k.2.1
 .rw[c.out.1,c.out.2.2.2];exact μ k.2.2.1 0 _
theorem jA6(args)(W):Sem.run prog (callFunc 177 args) W=.ok (.enter 177 args) W:=by
 simp[go_sem,func177]
theorem jA7(args)(W):Sem.run prog (callFunc 178 args) W=.ok (.enter 178 args) W:=by
 simp[go_sem,func178]
theorem jA8(args)(W):Sem.run prog (callFunc 179 args) W=.ok (.enter 179 args) W:=by
 simp[go_sem,func179]
theorem jA9(args)(W):Sem.run prog (callFunc 180 args) W=.ok (.enter 180 args) W:=by
 simp[go_sem,func180]
theorem zY0(args)(W):Sem.run prog (callFunc 176 args) W=.ok (.enter 176 args) W:=by
 simp[go_sem,func176]
theorem zV3(x:Nat)(lo hi)(w):
  Calls prog 116 #[.pointer (some ⟨x,0,none⟩),.string lo,.string hi] w λe a=>e=.returned (.func (.func 176) #[] #[.pointer (some ⟨w.heap.size,0,none⟩),.pointer (some ⟨w.heap.size+1,0,none⟩),.pointer (some ⟨w.heap.size+2,0,none⟩)])/\
   a.heap[w.heap.size]?=some (.cells #[.pointer (some ⟨x,0,none⟩)] 32)/\a.heap[w.heap.size+1]?=some (.cells #[.string lo] 9)/\a.heap[w.heap.size+2]?=some (.cells #[.string hi] 9)/\Kp [] w a:=by
 have b:=zM;go_enter func116,ntmps116;go_wp2;go_ret;refine⟨rfl,ν _ (ν _ (υ _ _)),ν _ ?_,?_,((kF.alloc _).alloc _).alloc _⟩
 .have e:=υ (w.alloc (.cells #[ϖ x] 32)) (.cells #[.string lo] 9);simpa using e
 .have e:=υ ((w.alloc (.cells #[ϖ x] 32)).alloc (.cells #[.string lo] 9)) (.cells #[.string hi] 9);simpa using e
def qE6(l:List KV)(lo:ByteArray):List KV:=l.filter fun q=>!kl q.k lo
theorem zM0{α:Type}(f:α->Bool):∀ l:List α,l.find? f=(l.filter f).head?
 | []=>rfl
 | a::l=>by
  by_cases h:f a=true
  .rw[List.find?_cons_of_pos h,List.filter_cons_of_pos h,List.head?_cons]
  .rw[List.find?_cons_of_neg h,List.filter_cons_of_neg h];exact zM0 f l
theorem xC6{l}(h:Sorted l)(lo):Sorted (qE6 l lo):=h.sublist List.filter_sublist
theorem jP8(l)(lo):(l.find? λq=>!kl q.k lo)=(qE6 l lo)[0]?:=by
 rw[zM0,qE6,List.head?_eq_getElem?]
theorem jM0(l)(lo pk)(c:kl pk lo=false):(l.filter λq=>kl pk q.k)=(qE6 l lo).filter λq=>kl pk q.k:=by
 unfold qE6;rw[List.filter_filter];refine List.filter_congr λq d=>?_;by_cases a:kl pk q.k=true
 .have:kl q.k lo=false:=by
   by_cases e:kl q.k lo=true
   .have:=qO4 a e;rw[c] at this;cases this
   .simpa using e
  rw[a,this];rfl
 .have b:kl pk q.k=false:=by simpa using a
  rw[b];rfl
theorem jP9{l}(h:Sorted l)(lo){j:Nat}(b:j<(qE6 l lo).length):(l.find? λq=>kl (qE6 l lo)[j].k q.k)=(qE6 l lo)[j+1]?:=by
 rw[zM0,List.head?_eq_getElem?];have n:kl (qE6 l lo)[j].k lo=false:=by
  have o:=gM b;have:=(List.mem_filter.1 o).2;simpa using this
 have f:=jM0 l lo _ n;rw[f];have p:=xC6 h lo;generalize qE6 l lo=A at *;have g:A.filter (λq=>kl A[j].k q.k)=A.drop (j+1):=by
  have r:A=A.take (j+1)++A.drop (j+1):=(tD _ _).symm;have d:=pG p;have k:(A.take (j+1)).filter (λq=>kl A[j].k q.k)=[]:=by
   rw[List.filter_eq_nil_iff];intro q c;obtain⟨i,a,rfl⟩:=gO c;rw[List.getElem_take];simp only[lK] at a;by_cases e:i=j
   .subst e;simp[qL5]
   .have:=qP4 (d i j oM b oM);simp[this]
  have m:(A.drop (j+1)).filter (λq=>kl A[j].k q.k)=A.drop (j+1):=by
   rw[List.filter_eq_self];intro q c;obtain⟨i,a,rfl⟩:=gO c;rw[List.getElem_drop];simp only[lD] at a;exact d j (j+1+i) b oM oM
  calc A.filter (λq=>kl A[j].k q.k)=(A.take (j+1)++A.drop (j+1)).filter (λq=>kl A[j].k q.k):=by rw[tD]
   _=A.drop (j+1):=by rw[List.filter_append,k,m,nA]
 rw[g];simp
theorem xB3(l)(lo hi):l.filter (inR lo hi)=(qE6 l lo).filter λq=>kl q.k hi:=by
 rw[qE6,List.filter_filter];refine List.filter_congr λq _=>?_;rw[inR,Bool.and_comm]
theorem xC7{l}(h:Sorted l)(lo hi){j:Nat}(p:j<=(qE6 l lo).length)(g:∀ q∈(qE6 l lo).take j,kl q.k hi=true)(k:∀ q,(qE6 l lo)[j]?=some q->kl q.k hi=false):l.filter (inR lo hi)=(qE6 l lo).take j:=by
 rw[xB3];have o:=xC6 h lo;generalize qE6 l lo=A at *;have d:=List.filter_eq_self.2 g;have f:(A.drop j).filter (λq=>kl q.k hi)=[]:=by
  rw[List.filter_eq_nil_iff];intro q n;obtain⟨i,m,rfl⟩:=gO n;rw[List.getElem_drop];simp only[lD] at m;have c:j<A.length:=oM
  have b:=k A[j] (by simp[c]);by_cases e:i=0
  .subst e;simp[b]
  .have:=pG o j (j+i) c oM oM;by_cases a:kl A[j+i].k hi=true
   .have:=qO4 this a;rw[b] at this;cases this
   .simpa using a
 calc A.filter (λq=>kl q.k hi)=(A.take j++A.drop j).filter (λq=>kl q.k hi):=by rw[tD]
  _=A.take j:=by rw[List.filter_append,d,f,aN]
theorem jQ0{l}(h:Sorted l)(lo hi){j:Nat}(c:j<=(qE6 l lo).length)(b:∀ q∈(qE6 l lo).take j,kl q.k hi=true):(qE6 l lo).take j <+: l.filter (inR lo hi):=by
 rw[xB3];generalize qE6 l lo=A at *;have a:=List.filter_eq_self.2 b;refine⟨(A.drop j).filter (λq=>kl q.k hi),?_⟩
 calc A.take j++(A.drop j).filter (λq=>kl q.k hi)=(A.take j++A.drop j).filter (λq=>kl q.k hi):=by rw[List.filter_append,a]
  _=A.filter (λq=>kl q.k hi):=by rw[tD]
theorem xQ5(lo):Up λk=>!kl k lo:=λa b hab ha=>by
 by_cases e:kl b lo=true
 .have:=qO4 hab e;simp[this] at ha
 .simpa using e
theorem xQ6(p):Up λk=>kl p k:=λa b hab ha=>qO4 ha hab
section
attribute [local go_sem] Oper.semAt_some
def YS(W:World)(N:Nat)(S:List Nat):Prop:=∀ k∈S,k<N∧((∃ c t fr,W.heap[k]?=some (.cells c t fr)∧(t=29∨t=42))∨∃ rec,W.heap[k]?=some (.loop rec))
theorem YS.keep{W W'}{N:Nat}{S}(h:YS W N S)(hK:Kp S W W'){k:Nat}{c}{t}{fr}(d:W.heap[k]?=some (.cells c t fr))(f:t≠29/\(t≠42\/N<=k)):W'.heap[k]?=some (.cells c t fr):=by
 refine hK.heap d λi=>?_;obtain⟨m,g⟩:=h k i;rcases g with⟨j,t',l,a,b⟩|⟨n,a⟩
 .rw[d] at a;cases a;rcases b with b|b
  .exact f.1 b
  .rcases f.2 with e|e
   .exact e b
   .omega
 .rw[d] at a;cases a
theorem YS.apt{W}{N:Nat}{S}(h:YS W N S):Apt W S qF5:=λk f c t j e g=>by
 obtain⟨m,b⟩:=h k f;rcases b with⟨i,t',l,a,d⟩|⟨n,a⟩
 .rw[e] at a;cases a;rcases d with rfl|rfl<;>revert g<;>decide
 .rw[e] at a;cases a
structure AllIn(E:SEnv)(x A n:Nat)(t:Tx)(s:Sto)(r:Root)(B Lc Hc:Nat)(lo hi:ByteArray)(w:World):Prop where
 live:LiveT E w x A n t s r
 hB:w.heap[B]?=some (.cells #[.pointer (some ⟨x,0,none⟩)] 32)
 hL:w.heap[Lc]?=some (.cells #[.string lo] 9)
 hH:w.heap[Hc]?=some (.cells #[.string hi] 9)
theorem AllIn.more{E}{x A n:Nat}{t}{s}{r}{B b a:Nat}{lo hi}{w w'}(h:AllIn E x A n t s r B b a lo hi w)(hK:Kp [] w w'):AllIn E x A n t s r B b a lo hi w':=
 ⟨h.live.more hK,hK.hp h.hB,hK.hp h.hL,hK.hp h.hH⟩
theorem AllIn.turn{E}{x A n:Nat}{t}{s}{r}{B j i:Nat}{lo hi}{w w'}{L}(h:AllIn E x A n t s r B j i lo hi w)(hK:Kp L w w')(p:w'.heap[t.St]?=some (θ 0 s))(q:E.Dev w')
  (l:∀ k∈L,k=t.St\/k∈E.S\/∃ c u b,w.heap[k]?=some (.cells c u b)/\u ∉ [99,32,9,263,213,185,87]):AllIn E x A n t s r B j i lo hi w':=by
 have f:∀ k c u b,w.heap[k]?=some (.cells c u b)->u∈[99,32,9,213,185,87]->k ∉ L:=λk c u b hk hu d=>by
  rcases l k d with a|a|⟨m,v,o,a,g⟩
  .subst a;rw[h.live.hSt] at hk;cases hk
   revert hu;decide
  .exact E.nin h.live.dev hk ((show ∀ u∈([99,32,9,213,185,87]:List TypeId),u ∉ qL4 by decide) u hu) a
  .rw[hk] at a;cases a;exact g ((show ∀ u∈([99,32,9,213,185,87]:List TypeId),u∈([99,32,9,263,213,185,87]:List TypeId) by decide) u hu)
 have hV:E.V ∉ L:=λd=>by
  rcases l _ d with a|a|⟨m,v,o,a,g⟩
  .exact ω h.live.hV h.live.hSt dC a
  .exact h.live.vS a
  .rw[h.live.hV] at a;cases a;exact g dC
 refine⟨{ h.live with hx:=hK.heap h.live.hx (f _ _ _ _ h.live.hx dC),hSt:=p,hV:=hK.heap h.live.hV hV,dev:=q,rr:=h.live.rr.keepT hK (λk hk c u b e d=>f k c u b e ((show ∀ u∈qF5,u∈([99,32,9,213,185,87]:List TypeId) by decide) u d) hk) },hK.heap h.hB (f _ _ _ _ h.hB dC),hK.heap h.hL (f _ _ _ _ h.hL dC),hK.heap h.hH (f _ _ _ _ h.hH dC)⟩
end
section
attribute [local go_sem] Oper.semAt_some
theorem YS.off{W}{N:Nat}{S}(h:YS W N S):OffD W S:=λk f c t j e g=>by
 obtain⟨m,b⟩:=h k f;rcases b with⟨i,t',l,a,d⟩|⟨n,a⟩
 .rw[e] at a;cases a;rcases d with rfl|rfl<;>revert g<;>decide
 .rw[e] at a;cases a
theorem AllIn.round{E}{x A n:Nat}{t}{s}{r}{B c b:Nat}{lo hi}{w w'}{N:Nat}{SY}(h:AllIn E x A n t s r B c b lo hi w)(a:YS w N SY)(hK:Kp SY w w'):AllIn E x A n t s r B c b lo hi w':=by
 have d:=a.keep hK h.live.hSt ⟨dC,.inl dC⟩;refine⟨{ h.live with hx:=a.keep hK h.live.hx ⟨dC,.inl dC⟩,hSt:=d,hV:=a.keep hK h.live.hV ⟨dC,.inl dC⟩,dev:=E.keepX w w' SY h.live.dev hK a.off,rr:=h.live.rr.keepT hK a.apt },a.keep hK h.hB ⟨dC,.inl dC⟩,a.keep hK h.hL ⟨dC,.inl dC⟩,a.keep hK h.hH ⟨dC,.inl dC⟩⟩
theorem xT6(E)(x A n:Nat)(t)(s)(r)(B O N:Nat)(lo l call)(G F g:Nat)(cap)(f:ByteArray->Bool)(w)(R:AllIn E x A n t s r B O N lo l w)(L:w.heap[G]?=some (qP0 (some ⟨E.V,0,none⟩) t.h))(J:w.heap[F]?=some (.cells #[.func (.func g) #[] cap] 92))(b d:Nat)
  (p:w.heap[b]?=some (.cells #[.string ⟨#[]⟩,.string ⟨#[]⟩] 42)) (z:w.heap[d]?=some (.cells #[.bool false] 4)) (X:Up f)
  (U:∀ W,Kp (t.St::E.S) w W->∀ k,Calls prog g (#[.string k]++cap) W λe H=>e=.returned (.bool (f k))/\Kp [] W H)
  (V:∀ (args) (W),Sem.run prog (callFunc g args) W=.ok (.enter g args) W):
  Calls prog 45 #[.pointer (some ⟨x,0,none⟩),.string call,.func (.func 179) #[] #[.pointer (some ⟨G,0,none⟩),.pointer (some ⟨F,0,none⟩),.pointer (some ⟨b,0,none⟩),.pointer (some ⟨d,0,none⟩)]] w λe o=>e=.returned .nilIface/\o.heap[b]?=some (.cells #[.string (pkv (r.cont.find? λq=>f q.k)).k,.string (pkv (r.cont.find? λq=>f q.k)).v] 42)/\o.heap[d]?=some (.cells #[.bool (r.cont.find? λq=>f q.k).isSome] 4)/\o.heap[t.St]?=some (θ 0 s)/\E.Dev o/\Kp (t.St::b::d::E.S) w o:=by
 have a:=R.live;refine (qP3 none dC x t.St 179 t s s #[] _ call (b::d::E.S) (λW w1=>E.Dev w1/\Ϙ w1 t.St (θ 1 s)/\Ϙ w1 b (.cells #[.string (pkv (r.cont.find? λq=>f q.k)).k,.string (pkv (r.cont.find? λq=>f q.k)).v] 42)/\Ϙ w1 d (.cells #[.bool (r.cont.find? λq=>f q.k).isSome] 4)) w a.hx a.over rfl a.hSt a.po a.xS (jA8 _) (λi l=>by
  simp only[mC] at l;rcases l with h|h|h
  .rw[h];exact ζ p
  .rw[h];exact ζ z
  .exact E.low w a.dev i h) ?_).mono ?_
 .intro W hK S;have C:=a.devS hK;have m:∀ {k:Nat} {c:Array Value} {u:TypeId} {fr:Nat × Nat},Ϙ w k (.cells c u fr)->u≠169->k ∉ [t.St]:=λhk hu hm=>ω hk a.hSt hu (mS hm);have K:=hK.heap p (m p dC);have M:=hK.heap z (m z dC);refine (xT1 E G F b d g cap f t.h r W (hK.heap L (m L dC)) (hK.heap J (m J dC)) K M C (a.rr.keepT hK (Apt.one a.hSt dC)) a.good X (λH k T=>U H ((hK.mono (S':=t.St::E.S) sM).trans T.kp (by simp +contextual)) k) V).mono ?_;rintro e D ⟨rfl,P,Q,w1,j,I⟩;have y:Ϙ D t.St (θ 1 s):=I.heap (E.stay C j S dC) (by
   simp only[mC,lN,or_false,not_or];exact⟨ω a.hSt p dC,ω a.hSt z dC⟩)
  exact⟨rfl,⟨E.keepX w1 D _ j.dev I ((OffD.one (E.stay C j K dC) dC).cons (OffD.one (E.stay C j M dC) dC)),y,P,Q⟩,(j.kp.mono (S':=t.St::b::d::E.S) (by simp +contextual)).trans I (by intro i l _;simp at l |-;rcases l with h | h<;>simp[h]),y⟩
 .rintro e D ⟨v,rfl,hv,y,hK2,W,w1,Bb,⟨hd1,hS1,hP1,j⟩,hKW,hb1,hb2,hb3,hKB⟩;have Y:v=.nilIface:=hv;subst Y;have m:∀ {k:Nat} {c:Array Value} {u:TypeId} {fr:Nat × Nat},Ϙ w1 k (.cells c u fr)->u≠169->u≠38->k ∉ [t.St,Bb]:=λhk hu hu2 hm=>by
   simp only[mC,lN,or_false] at hm;rcases hm with h|h
   .exact ω hk hS1 hu h
   .exact ω hk hb3 hu2 h
  exact⟨rfl,hKB.heap hP1 (m hP1 dC dC),hKB.heap j (m j dC dC),y,E.keepX w1 D _ hd1 hKB (qN9 hS1 hb3),hK2⟩
theorem xT5(E)(x A n:Nat)(t)(s)(r)(B y q:Nat)(lo hi call)(b:Nat)(w)(g:AllIn E x A n t s r B y q lo hi w)(j:w.heap[b]?=some (qP0 none ⟨⟨#[]⟩,0,0,none⟩)):
  Calls prog 45 #[.pointer (some ⟨x,0,none⟩),.string call,.func (.func 177) #[] #[.pointer (some ⟨B,0,none⟩),.pointer (some ⟨b,0,none⟩)]] w λe f=>e=.returned .nilIface/\f.heap[b]?=some (qP0 (some ⟨E.V,0,none⟩) t.h)/\f.heap[t.St]?=some (θ 0 s)/\E.Dev f/\Kp [t.St,b] w f:=by
 have a:=g.live;refine (qP3 none dC x t.St 177 t s s #[] _ call [b] (λW w1=>E.Dev w1/\Ϙ w1 t.St (θ 1 s)/\Ϙ w1 b (qP0 (some ⟨E.V,0,none⟩) t.h)) w a.hx a.over rfl a.hSt a.po a.xS (jA6 _) (λi hi=>by rw[mS hi];exact ζ j) ?_).mono ?_
 .intro W hK p;have z:=a.devS hK;have m:∀ {k:Nat} {c:Array Value} {u:TypeId} {fr:Nat × Nat},Ϙ w k (.cells c u fr)->u≠169->k ∉ [t.St]:=λhk hu hm=>ω hk a.hSt hu (mS hm);have l:=hK.heap j (m j dC);refine (xS9 B b x t W (hK.heap g.hB (m g.hB dC)) l (hK.heap a.hx (m a.hx dC))).mono ?_;rintro e w1 ⟨rfl,o,h⟩;have d:=h.heap p (by simp;exact ω p l dC);rw[a.on] at o;exact⟨rfl,⟨E.keepX W w1 _ z h (OffD.one l dC),d,o⟩,h.mono (by simp +contextual),d⟩
 .rintro e D ⟨v,rfl,hv,hSt2,hK2,W,w1,Bb,⟨hd1,d,hP1⟩,hKW,hb1,hb2,hb3,hKB⟩;have C:v=.nilIface:=hv;subst C;refine⟨rfl,hKB.heap hP1 ?_,hSt2,E.keepX w1 D _ hd1 hKB (qN9 d hb3),hK2⟩;simp only[mC,lN,or_false,not_or];exact⟨ω hP1 d dC,ω hP1 hb3 dC⟩
structure AllSt(E:SEnv)(x A n:Nat)(t:Tx)(s:Sto)(r:Root)(B Lc Hc:Nat)(lo hi:ByteArray)(Sx Nx:Nat)(J:Nat→List KV→World→Prop)(j:Nat)(w:World):Prop where
 inn:AllIn E x A n t s r B Lc Hc lo hi w
 le:j≤(qE6 r.cont lo).length
 ahead:∀ q∈(qE6 r.cont lo).take j,kl q.k hi=true
 hS:w.heap[Sx]?=some (qP0 (some ⟨E.V,0,none⟩) t.h)
 hN:(j=0∧w.heap[Nx]?=some (.cells #[.func (.func 178) #[] #[.pointer (some ⟨Lc,0,none⟩)]] 92))∨∃ p Px,1≤j∧(qE6 r.cont lo)[j-1]?=some p∧w.heap[Nx]?=some (.cells #[.func (.func 180) #[] #[.pointer (some ⟨Px,0,none⟩)]] 92)∧w.heap[Px]?=some (.cells #[.string p.k,.string p.v] 42)
 jj:J w.heap.size ((qE6 r.cont lo).take j) w
theorem AllSt.asks{E}{x A n:Nat}{t}{s}{r}{B d o:Nat}{lo hi}{y i:Nat}{J:Nat->List KV->World->Prop}{j:Nat}{w}(h:AllSt E x A n t s r B d o lo hi y i J j w)(F:Sorted r.cont):
  ∃ g cap f,w.heap[i]?=some (.cells #[.func (.func g) #[] cap] 92)/\Up f/\(∀ (args) (W),Sem.run prog (callFunc g args) W=.ok (.enter g args) W)/\(r.cont.find? λq=>f q.k)=(qE6 r.cont lo)[j]?/\
   ∀ W,Kp (t.St::E.S) w W->∀ k,Calls prog g (#[.string k]++cap) W λe W'=>e=.returned (.bool (f k))/\Kp [] W W':=by
 have m:∀ {k:Nat} {c:Array Value} {u:TypeId} {fr:Nat × Nat},Ϙ w k (.cells c u fr)->u≠169->u ∉ qL4->k ∉ t.St::E.S:=λhk hu hd hm=>by
  rcases List.mem_cons.1 hm with a|a
  .exact ω hk h.inn.live.hSt hu a
  .exact E.nin h.inn.live.dev hk hd a
 rcases h.hN with⟨rfl,b⟩|⟨p,v,G,C,b,l⟩
 .exact⟨_,_,_,b,xQ5 lo,jA7,jP8 _ _,λW hK k=>xT0 d lo k W (hK.heap h.inn.hL (m h.inn.hL dC dC))⟩
 .obtain⟨z,D⟩:=gS C;refine⟨_,_,_,b,xQ6 p.k,jA9,?_,λW hK k=>xT2 v p.k k p.v W (hK.heap l (m l dC dC))⟩;have e:=jP9 F lo z;rw[D] at e;rw[e,show j-1+1=j by omega]
theorem xT4(E)(x A n:Nat)(t)(s)(r)(B F I l m:Nat)(lo a)(J:Nat->List KV->World->Prop)(Jx:List KV->World->Prop)(w)
  (hJ:∀ N d W G S,J N d W->Kp S W G->(∀ k∈S,k=t.St\/k∈E.S\/(w.heap.size<=k/\∃ c fr,W.heap[k]?=some (.cells c 92 fr)))->G.heap[t.St]?=some (θ 0 s)->E.Dev G->J N d G)
  (bj:∀ N N' d W,J N d W->N<=N'->J N' d W)
  (hY:∀ N d p P,J N d P->N<=P.heap.size->d++[p] <+: r.cont.filter (inR lo a)->AllIn E x A n t s r B F I lo a P->YieldAt Fence.wide (m-1) prog l #[.agg #[.string p.k,.string p.v],.nilIface] P λe G=>∃ SY,YS P N SY/\Kp SY P G/\((e=.returned (.bool true)/\J G.heap.size (d++[p]) G)\/(e=.returned (.bool false)/\Jx (d++[p]) G)))
  (Q:AllIn E x A n t s r B F I lo a w) (h0:J w.heap.size [] w):
  CallsIn Fence.wide m prog 176 #[.func (.yield l) #[] #[],.pointer (some ⟨B,0,none⟩),.pointer (some ⟨F,0,none⟩),.pointer (some ⟨I,0,none⟩)] w λe w'=>(∃ v,e=.returned v)/\((∃ N,J N (r.cont.filter (inR lo a)) w')\/∃ d,d <+: r.cont.filter (inR lo a)/\Jx d w'):=by
 have cj:=zM;have HI:=zh Q;have HJ:=zh hJ;have ba:=zh bj;have HY:=zh hY;have bx:=zh h0;have ae:=zh ((zH1 Q.live.good).1);have bd:=ν (.cells ϛ 89) Q.hB;have b0:=ξ bd 0;simp only[zG,zH] at b0;have be:=ζ Q.hB;have b6:=ζ Q.live.hSt;clear Q hJ bj hY h0 bd;refine callsIn_of_wp func176 rfl trivial ?_ rfl;simp only[ntmps176,List.size_toArray,lC,List.length_nil,Nat.reduceAdd,Nat.reduceSub,Array.replicate_succ,Array.replicate_zero,List.push_toArray,aT,nA,cA]
 gi_wp2_with fail
 refine⟨trivial,λh=>(by cases h),?_⟩;obtain⟨w0,bt,az,ag⟩:∃ w0,w0=w.alloc (.cells ϛ 89)/\Ϙ w0 w.heap.size (qP0 none ⟨⟨#[]⟩,0,0,none⟩)/\Kp [] w w0:=⟨_,rfl,υ _ _,kF.alloc _⟩;rw[<-bt];clear bt b0;have aw:=HI.out.more ag;refine callsIn_wide.2 ((xT5 E x A n t s r B F I lo a _ w.heap.size w0 aw az).mono ?_);rintro e w1 ⟨rfl,bm,a1,a5,ah⟩;have bf:=aw.turn ah a1 a5 (λk b=>by
  simp only[mC,lN,or_false] at b;rcases b with h|h
  .exact .inl h
  .rw[h];exact .inr (.inr ⟨_,_,_,az,dC⟩))
 have bh:=HJ.out _ _ _ _ [t.St] bx ((ag.mono (S':=[t.St]) sM).trans ah (by intro i a b8;simp at a |-;omega)) sM a1 a5;have b9:=lT ag.size ah.size;clear az ag aw ah
 gi_wp2_with fail
 obtain⟨w2,bu,bk,X⟩:=alA w1 (.cells #[.func (.func 178) #[] #[ϖ F]] 92);rw[<-bu];clear bu;have af:=bf.more X;have a8:Hid (AllSt E x A n t s r B F I lo a w.heap.size w1.heap.size J 0 w2):=
  ⟨af,zL _,sM,X.hp bm,.inl ⟨rfl,bk⟩,ba _ _ _ _ (HJ _ _ _ _ [] bh X sM af.live.hSt af.live.dev) (by have:=X.size;omega)⟩
 clear af bf bk X bm a1 a5 bh;obtain⟨Sx,a4⟩:=eX w.heap.size;obtain⟨y,ax⟩:=eX w1.heap.size;rw[<-a4,<-ax] at a8;rw[<-a4,<-ax];have b5:w.heap.size<=y:=oM
 clear a4 ax b9 be b6
 gi_loopg [6] ((qE6 r.cont lo).length+1) (λk b4 wr=>∃ j,k+j=(qE6 r.cont lo).length+1/\b4=.nilIface/\Hid (AllSt E x A n t s r B F I lo a Sx y J j wr))
 case atStart=>exact⟨0,rfl,rfl,a8⟩
 case round=>
  obtain⟨j,ci,rfl,o⟩:=hrel;obtain⟨g,cap,f,hN,bs,bp,bq,bn⟩:=o.out.asks ae.out;have av:=o.out.inn.hB;have bo:=ν (.cells #[.bool false] 4) (ν (.cells ϝ 42) av);have be:=ζ av;have b0:=ϻ bo 0;have M:=zh (n5 hN bs bp bq bn)
  clear hN bs bp bq bn av bo
  gi_wp2_with fail
  refine⟨trivial,λh=>(by cases h),?_⟩;obtain⟨w3,bv,Z,ab,K,ck⟩:=alC wr (.cells ϝ 42) (.cells #[.bool false] 4)
  rw[<-bv];clear bv b0;have R:=o.out.inn.more K;have ak:=K.hp o.out.hS;have ai:=K.hp M.1;refine callsIn_wide.2 ((xT6 E x A n t s r B F I lo a _ Sx y g cap f w3 R ak ai wr.heap.size (wr.heap.size+1) Z ab M.2.1 (λW hK k=>M.2.2.2.2 W ((K.mono sM).trans hK (λ_ h _=>h)) k) M.2.2.1).mono ?_);rintro e w4 ⟨rfl,z,C,aa,ac,Y⟩;rw[M.out.2.2.2.1] at z C;have a2:=R.live.hSt;have O:=(K.mono (S':=t.St::E.S) sM).trans Y (by
   intro i a b8;simp only[mC] at a |-;rcases a with h|h|h|h
   .exact .inl h
   .omega
   .omega
   .exact .inr h)
  have ao:∀ k∈t.St::wr.heap.size::(wr.heap.size+1)::E.S,k=t.St\/k∈E.S\/∃ c u fr,Ϙ w3 k (.cells c u fr)/\u ∉ [99,32,9,263,213,185,87]:=λk b=>by
   simp only[mC] at b;rcases b with h|h|h|h
   .exact .inl h
   .rw[h];exact .inr (.inr ⟨_,_,_,Z,dC⟩)
   .rw[h];exact .inr (.inr ⟨_,_,_,ab,dC⟩)
   .exact .inr (.inl h)
  have ar:=zh (R.turn Y aa ac ao);have au:=zh (HJ _ _ _ _ (t.St::E.S) o.out.jj O (λk b=>by
   rcases List.mem_cons.1 b with h|h
   .exact .inl h
   .exact .inr (.inl h)) aa ac)
  have ad:∀ {k:Nat} {c:Array Value} {u:TypeId} {fr:Nat × Nat},Ϙ wr k (.cells c u fr)->u≠169->u ∉ qL4->k ∉ t.St::E.S:=λb hu hdv D=>by
   rcases List.mem_cons.1 D with h1|h1
   .exact ω b o.out.inn.live.hSt hu h1
   .exact E.nin o.out.inn.live.dev b hdv h1
  have b3:=zh (O.heap o.out.hS (ad o.out.hS dC dC));have aj:=O.heap M.1 (ad M.1 dC dC);have b1:=zh z;have bz:=zh aj;have cg:=ζ z;have ch:=ζ C;have U:=ar.out.hH;have ce:=ζ U;have br:=o.out.le;have ap:=zh o.out.ahead;have y0:=ϻ U 0
  cases hq:(qE6 r.cont lo)[j]? with
  | none=>
   rw[hq] at C;have c0:=ϻ C 0;have aq:=zh (xC7 ae lo a br ap (λq h=>by rw[hq] at h;cases h));clear hq z C Y O ao ad R ak ai Z ab K aj aa ac a2 U
   gi_wp2
   refine⟨λ_ h=>(by cases h),?_⟩
   gi_wp2
   refine bodyPost_ret (results_none results176 _ _ _) rfl ?_;exact⟨⟨_,rfl⟩,.inl ⟨wr.heap.size,by rw[aq.out];exact au⟩⟩
  | some q=>
   rw[hq] at C z;simp only[pkv,Option.isSome_some] at C z;have c0:=ϻ C 0;have p0:=ξ z;obtain⟨al,a7⟩:=gS hq;have HQ:=zh hq
   cases hh:kl q.k a with
   | false=>
    have b7:Op.bytesLess q.k.toList a.toList=false:=hh;have aq:=zh (xC7 ae lo a br ap (λq' h=>by rw[hq] at h;cases h;exact hh));clear hq z C Y O ao ad R ak ai Z ab K aj aa ac a2 U hh al a7
    gi_wp2
    refine⟨λ_ h=>(by cases h),?_⟩
    gi_wp2
    refine bodyPost_ret (results_none results176 _ _ _) rfl ?_;exact⟨⟨_,rfl⟩,.inl ⟨wr.heap.size,by rw[aq.out];exact au⟩⟩
   | true=>
    have b7:Op.bytesLess q.k.toList a.toList=true:=hh;have an:(qE6 r.cont lo).take (j+1)=(qE6 r.cont lo).take j++[q]:=by rw[tA al,a7]
    have a9:Hid (∀ q'∈(qE6 r.cont lo).take (j+1),kl q'.k a=true):=λq' D=>by
     rw[an] at D;rcases mA D with D|D
     .exact ap q' D
     .rw[mS D];exact hh
    have bb:Hid ((qE6 r.cont lo).take j++[q] <+: r.cont.filter (inR lo a)):=by
     show _ <+: _;rw[<-an];exact jQ0 ae lo a oM a9
    obtain⟨fn,cl,cb,cc,hy,hR⟩:=HY.out wr.heap.size ((qE6 r.cont lo).take j) q w4 au (by have:=O.size;omega) bb ar.out;have bc:=zh (n2 an al);have b2:=zh z;clear hq z C Y O ao ad R ak ai Z ab K aj aa ac a2 U hh al a7 an b1
    gi_wp2
    refine⟨λh=>(by cases h),hR.mono ?_⟩;clear hR hy;rintro e w5 ⟨SY,hYS,hKY,⟨rfl,hJ5⟩|⟨rfl,hJx⟩⟩
    .have V:=ar.out.round hYS hKY;have a0:=hYS.keep hKY b3 ⟨dC,.inl dC⟩;have H:=hYS.keep hKY bz ⟨dC,.inl dC⟩;have ay:=hYS.keep hKY b2 ⟨dC,.inr lR⟩;have cf:=ζ H;obtain⟨T,ca,bl,L⟩:∃ T,T=w5.setCell ⟨y,0,none⟩ (.func (.func 180) #[] #[ϖ wr.heap.size])/\Ϙ T y (.cells #[.func (.func 180) #[] #[ϖ wr.heap.size]] 92)/\Kp [y] w5 T:=⟨_,rfl,μ H 0 _,kF.sc _⟩;have am:∀ {k:Nat} {c:Array Value} {u:TypeId} {fr:Nat × Nat},Ϙ w5 k (.cells c u fr)->u≠92->k ∉ [y]:=λb hu D=>ω b H hu (mS D);have a3:=L.heap V.live.hSt (am V.live.hSt dC);have a6:=E.keepX w5 T [y] V.live.dev L (OffD.one H dC);have bg:=V.turn L a3 a6 (λk b=>by rw[mS b];exact .inr (.inr ⟨_,_,_,H,dC⟩));have bi:=HJ.out _ _ _ _ [y] hJ5 L (λk b=>by rw[mS b];exact .inr (.inr ⟨b5,_,_,H⟩)) a3 a6;have bw:Hid (AllSt E x A n t s r B F I lo a Sx y J (j+1) T):=
      ⟨bg,bc.2,a9,L.heap a0 (am a0 dC),.inr ⟨q,wr.heap.size,oM,HQ,bl,L.heap ay (am ay dC)⟩,by
       rw[bc.out.1];exact ba _ _ _ _ bi L.size⟩
     have n0:=ϻ H 0;have cd:=φ H 0;clear V a0 ay bl L am a3 a6 bg bi hJ5 hYS hKY H
     gi_wp2
     rw[<-ca]
     gi_roundg (gk-1)
     .exact⟨j+1,oM,rfl,bw⟩
     .omega
    .have HX:=zh hJx;clear hJx hYS hKY
     gi_wp2
     refine bodyPost_ret (results_none results176 _ _ _) rfl ?_;exact⟨⟨_,rfl⟩,.inr ⟨_,bb,HX⟩⟩
end
section
attribute [local go_sem] Oper.semAt_some
theorem Kp.putObj{S}{a b}(h:Kp S a b){l:Nat}(c:l∈S\/a.heap.size<=l)(o):Kp S a (b.putObj l o):=
 ⟨h.os,h.tape,h.output,by have:=h.size;simp[World.putObj];omega,λk f d=>(World.putObj_heap_other (by
  rcases c with c|c
  .intro e;subst e;exact d c
  .omega)).trans (h.block k f d)⟩
structure ScI(E:SEnv)(t:Tx)(s:Sto)(Ob M:Nat)(rec:LoopState→Option Code→Loop)(w:World)(N:Nat)(pre:List KV)(W:World):Prop where
 kp:Kp (t.St::Ob::E.S) w W
 hSt:W.heap[t.St]?=some (θ 0 s)
 dev:E.Dev W
 out:∃ v,W.heap[Ob]?=some (.cells #[v] 29)∧OPA W w.heap.size v pre∧∀ k,v.ownBlock=some k→k<N
 le:pre.length≤M
 lt:w.heap.size+1<N
 dfr:W.heap[w.heap.size]?=some (.deferred (some []))
 loop:W.heap[w.heap.size+1]?=some (.loop (rec .ready none))
def ScX(E:SEnv)(t:Tx)(s:Sto)(Ob M id:Nat)(rec:LoopState→Option Code→Loop)(w:World)(pre:List KV)(W:World):Prop:=
 ∃ q p v,pre=q++[p]∧q.length=M∧Kp (t.St::Ob::E.S) w W∧W.heap[t.St]?=some (θ 0 s)∧E.Dev W∧W.heap[Ob]?=some (.cells #[v] 29)∧OPA W w.heap.size v q∧W.heap[w.heap.size]?=some (.deferred (some []))∧W.heap[w.heap.size+1]?=some (.loop (rec .done (some (.exit id))))
theorem OPA.keep{S}{w w'}{base:Nat}{v}{ps}(h:OPA w base v ps)(hK:Kp S w w')(i:∀ k∈S,∀ c fr,w.heap[k]?≠some (.cells c 42 fr)):OPA w' base v ps:=by
 refine⟨h.1,?_⟩;rcases h.2 with b|⟨g,cap,cur,d,e,a,f⟩
 .exact .inl b
 .exact .inr ⟨g,cap,cur,d,e,hK.heap a (λj=>i g j _ _ a),f⟩
theorem kS5{nn:Nat}{g:Operand}{ps:Array Tmp}{assign body:Code}{Q:Exit→Act→World→Prop}{a:Act}{w:World}(E:SEnv)(x A n:Nat)(t:Tx)(s:Sto)(r:Root)(B Lc Hc Ob M id:Nat)(lo hi:ByteArray)(h1:1≤nn)
  (hg:a.eval g=.func (.func 176) #[] #[.pointer (some ⟨B,0,none⟩),.pointer (some ⟨Lc,0,none⟩),.pointer (some ⟨Hc,0,none⟩)]) (hps:ps.size=2)
  (hI:AllIn E x A n t s r B Lc Hc lo hi w) (hO:w.heap[Ob]?=some (.cells #[.slice none 0 0] 29))
  (a₁:KV→Nat→Act)
  (hassign:∀ (l:Nat) (p:KV) (W:World) (K:Act→World→Prop),K (a₁ p W.heap.size) (W.alloc (.cells #[.string p.k,.string p.v] 42))→
   assign.wpIn (Fence.wide.inRound l) (nn-1-1) prog (Exit.then K (fun _ _ _=>False)) { tmps:=(ps.zip #[.agg #[.string p.k,.string p.v],.nilIface]).foldl (fun t (p,v)=>t.setIfInBounds p v) a.tmps,defers:=[] } W)
  (hbody:∀ (l:Nat) (pre:List KV) (p:KV) (W:World) (v:Value) (Pb:Nat),W.heap[Ob]?=some (.cells #[v] 29)→OPA W w.heap.size v pre→W.heap[Pb]?=some (.cells #[.string p.k,.string p.v] 42)→w.heap.size≤Pb→v.ownBlock≠some Pb→Kp (t.St::Ob::E.S) w W→pre.length≤M→pre.length≤50000→
   body.wpIn (Fence.wide.inRound l) (nn-1-1) prog (fun e _ W3=>match e with
    | .normal=>pre.length<M∧∃ v3 S3,Kp S3 W W3∧(∀ k∈S3,k=Ob∨v.ownBlock=some k)∧W3.heap[Ob]?=some (.cells #[v3] 29)∧OPA W3 w.heap.size v3 (pre++[p])∧∀ k,v3.ownBlock=some k→k<W3.heap.size
    | .exit i=>i=id∧pre.length=M∧W3=W
    | _=>False) (a₁ p Pb) W)
  (hdone:∀ (W:World) (v:Value),Kp (t.St::Ob::E.S) w W→W.heap[t.St]?=some (θ 0 s)→E.Dev W→W.heap[Ob]?=some (.cells #[v] 29)→OPA W w.heap.size v (qH1 r.cont lo hi M)→W.heap[w.heap.size]?=some (.deferred (some []))→w.heap.size<W.heap.size→Q .normal { a with defers:={ target:=.collected w.heap.size,args:=#[] }::a.defers } W)
  (hstop:∀ (W:World) (v:Value),Kp (t.St::Ob::E.S) w W→W.heap[t.St]?=some (θ 0 s)→E.Dev W→W.heap[Ob]?=some (.cells #[v] 29)→OPA W w.heap.size v (qH1 r.cont lo hi M)→W.heap[w.heap.size]?=some (.deferred (some []))→w.heap.size<W.heap.size→(Code.exit id).wpIn Fence.wide nn prog Q { a with defers:={ target:=.collected w.heap.size,args:=#[] }::a.defers } W):
  (Code.rangeFunc g ps assign body).wpIn Fence.wide nn prog Q a w:=by
 refine wpIn_rangeFunc ?_;intro fn hfn;obtain⟨rec,hrec⟩:∃ rec:LoopState→Option Code→Loop,rec=fun st pe=>{ state:=st,pending:=pe,fn,tmps:=a.tmps,params:=ps,assign,body,defers:=w.heap.size }:=⟨_,rfl⟩;obtain⟨W1,hW1⟩:∃ W1,(w.alloc (.deferred (some []))).alloc (.loop (rec .ready none))=W1:=⟨_,rfl⟩;have hL1:W1.heap[w.heap.size+1]?=some (.loop (rec .ready none)):=by
  rw[←hW1];have:=World.alloc_heap_new (w.alloc (.deferred (some []))) (.loop (rec .ready none));rwa [World.size_alloc] at this
 have hD1:W1.heap[w.heap.size]?=some (.deferred (some [])):=by
  rw[←hW1];exact (Below.heap_alloc _ _ _ (by simp)).trans (World.alloc_heap_new w _)
 have hK1:Kp [] w W1:=by rw[←hW1];exact ((Kp.refl _ _).alloc _).alloc _
 have hs1:W1.heap.size=w.heap.size+2:=by rw[←hW1];simp
 have hI1:=hI.more hK1;refine⟨w.heap.size+1,[{ target:=.collected w.heap.size,args:=#[] }],W1,{ target:=.fn (.func 176) #[.pointer (some ⟨B,0,none⟩),.pointer (some ⟨Lc,0,none⟩),.pointer (some ⟨Hc,0,none⟩)],args:=#[.func (.yield (w.heap.size+1)) #[] #[]] },W1,176,
  #[.func (.yield (w.heap.size+1)) #[] #[],.pointer (some ⟨B,0,none⟩),.pointer (some ⟨Lc,0,none⟩),.pointer (some ⟨Hc,0,none⟩)],W1,?_,?_,?_,?_,fun h=>(by cases h),?_⟩
 ·rw[←hW1,hrec];exact run_enterLoop_outer _ _ _ _ _
 ·simp only[resolve,hg];simp[go_sem]
 ·intro f' hf';trivial
 ·simp[invoke,go_sem,zY0]
 ·have hObs:=ζ hO;have hSts:=ζ hI.live.hSt;have hObSt:Ob≠t.St:=ω hO hI.live.hSt (by decide);refine (xT4 E x A n t s r B Lc Hc (w.heap.size+1) (nn-1) lo hi (ScI E t s Ob M rec w) (ScX E t s Ob M id rec w) W1 ?_ ?_ ?_ hI1 ?_).mono ?_
  ·
   intro N pre W W' S h hK hS hSt' hd';obtain⟨v,hv1,hv2,hv3⟩:=h.out;have hno:∀ k∈S,∀ c u fr,W.heap[k]?=some (.cells c u fr)→u=29∨u=42→False:=fun k hk c u fr e hu=>by
    rcases hS k hk with h1|h1|⟨_,c',fr',h1⟩
    ·rw[h1,h.hSt] at e;cases e;rcases hu with hu | hu<;>revert hu<;>decide
    ·exact E.nin h.dev e (by rcases hu with rfl | rfl<;>decide) h1
    ·rw[e] at h1;cases h1;rcases hu with hu | hu<;>revert hu<;>decide
   have hnl:∀ k∈S,∀ o,W.heap[k]?=some o→(∀ c u fr,o≠.cells c u fr)→False:=fun k hk o e ho=>by
    rcases hS k hk with h1|h1|⟨_,c',fr',h1⟩
    ·rw[h1,h.hSt] at e;cases e;exact ho _ _ _ rfl
    ·obtain⟨c',t',fr',h2,h3⟩:=E.offS W h.dev k h1;rw[e] at h2;cases h2;exact ho _ _ _ rfl
    ·rw[e] at h1;cases h1;exact ho _ _ _ rfl
   refine⟨h.kp.trans hK (fun i hi hlt=>?_),hSt',hd',⟨v,hK.heap hv1 (fun hm=>hno _ hm _ _ _ hv1 (.inl rfl)),hv2.keep hK (fun k hk c fr e=>hno k hk _ _ _ e (.inr rfl)),hv3⟩,h.le,h.lt,hK.heap h.dfr (fun hm=>hnl _ hm _ h.dfr (by intros;simp)),hK.heap h.loop (fun hm=>hnl _ hm _ h.loop (by intros;simp))⟩;rcases hS i hi with h1|h1|⟨h1,_⟩
   ·simp[h1]
   ·simp[h1]
   ·omega
  ·intro N N' pre W h hN;obtain⟨v,hv1,hv2,hv3⟩:=h.out;exact { h with out:=⟨v,hv1,hv2,fun k hk=>by have:=hv3 k hk;omega⟩,lt:=by have:=h.lt;omega }
  ·
   intro N pre p W h hNs hpre hA;obtain⟨v,hv1,hv2,hv3⟩:=h.out;have hlt:w.heap.size+1<W.heap.size:=ζ h.loop;have hy:=run_yield (P:=prog) (args:=#[.agg #[.string p.k,.string p.v],.nilIface]) h.loop (by rw[hrec];simp[hps]);rw[hrec] at hy;refine⟨fn,_,assign,body,hy,roundIn_of_wpIn hfn (hassign _ p W _ ?_)⟩;clear hy;have hKa:Kp [] W (W.alloc (.cells #[.string p.k,.string p.v] 42)):=(Kp.refl _ _).alloc _;have hLa:=hKa.hp h.loop;refine⟨_,run_beginRound hLa (by rw[hrec]),?_⟩;obtain⟨W2,hW2,hL2,hK2,hP2,hs2⟩:∃ W2,W2=(W.alloc (.cells #[.string p.k,.string p.v] 42)).putObj (w.heap.size+1) (.loop { rec .ready none with state:=.busy })∧W2.heap[w.heap.size+1]?=some (.loop { rec .ready none with state:=.busy })∧Kp [w.heap.size+1] W W2∧W2.heap[W.heap.size]?=some (.cells #[.string p.k,.string p.v] 42)∧W2.heap.size=W.heap.size+1:=
    ⟨_,rfl,World.putObj_heap_same (by simp;omega),((hKa.mono (by simp)).putObj (by simp) _),(World.putObj_heap_other (by omega)).trans (υ _ _),by simp[World.putObj]⟩
   rw[←hW2];clear hW2 hKa hLa;have hne2:∀ {k:Nat} {c:Array Value} {u:TypeId} {fr:Nat × Nat},W.heap[k]?=some (.cells c u fr)→k ∉ [w.heap.size+1]:=fun hk hm=>by
    rw[List.mem_singleton.1 hm,h.loop] at hk;cases hk
   have hO2:=hK2.heap hv1 (hne2 hv1);have hOP2:OPA W2 w.heap.size v pre:=hv2.keep hK2 (fun k hk c fr e=>by rw[List.mem_singleton.1 hk,h.loop] at e;cases e);have hkw2:Kp (t.St::Ob::E.S) w W2:=h.kp.trans hK2 (by intro i hi hlt;simp at hi;omega);have hown:∀ k,v.ownBlock=some k→k<N∧∃ cur,W.heap[k]?=some (.cells cur 42):=fun k hk=>⟨hv3 k hk,by
    rcases hv2.2 with⟨h0,_⟩|⟨gb,cap,cur,e1,e2,e3,_⟩
    ·rw[h0] at hk;cases hk
    ·rw[e1] at hk;cases hk;exact⟨cur,e3⟩⟩
   have hlen:pre.length≤50000:=by
    have h1:=List.IsPrefix.length_le hpre;have h2:=List.length_filter_le (inR lo hi) r.cont;have h3:=hI.live.sz;simp at h1;omega
   refine wpIn_mono (hbody _ pre p W2 v W.heap.size hO2 hOP2 hP2 (by omega) (fun e=>by have:=(hown _ e).1;omega) hkw2 h.le hlen) ?_;rintro e a3 W3 hp
   cases e with
   | normal=>
    obtain⟨hm,v3,S3,hK3,hS3,hO3,hOP3,hv33⟩:=hp;have hL3:W3.heap[w.heap.size+1]?=some (.loop { rec .ready none with state:=.busy }):=hK3.heap hL2 (fun hmm=>by
     rcases hS3 _ hmm with e|e
     ·rw[←e] at hv1;rw[h.loop] at hv1;cases hv1
     ·obtain⟨_,cur,e2⟩:=hown _ e;rw[h.loop] at e2;cases e2)
    have hr:=run_endRound (P:=prog) none hL3;rw[hrec] at hr;have hK13:Kp ((w.heap.size+1)::S3) W W3:=(hK2.mono (by simp +contextual)).trans hK3 (by simp +contextual);have hin3:∀ k∈S3,k∈[Ob]∨w.heap.size≤k:=fun k hk=>by
     rcases hS3 k hk with e|e
     ·exact .inl (by simp[e])
     ·exact .inr (hv2.low k e)
    have hs3:=hK3.size;have hYS:YS W N ((w.heap.size+1)::S3):=fun k hk=>by
     rcases List.mem_cons.1 hk with e|e
     ·rw[e];exact⟨h.lt,.inr ⟨_,h.loop⟩⟩
     ·rcases hS3 k e with e2|e2
      ·rw[e2];refine⟨?_,.inl ⟨_,_,_,hv1,.inl rfl⟩⟩;have:=h.lt;omega
      ·obtain⟨e3,cur,e4⟩:=hown k e2;exact⟨e3,.inl ⟨_,_,_,e4,.inr rfl⟩⟩
    have hKf:Kp ((w.heap.size+1)::S3) W (W3.putObj (w.heap.size+1) (.loop (rec .ready none))):=hK13.putObj (by simp) _;have hSt3:=hYS.keep hKf h.hSt ⟨by decide,.inl (by decide)⟩;have hneL:∀ {k:Nat} {c:Array Value} {u:TypeId} {fr:Nat × Nat},W3.heap[k]?=some (.cells c u fr)→k≠w.heap.size+1:=fun hk e=>by rw[e,hL3] at hk;cases hk
    refine⟨_,_,hr,((w.heap.size+1)::S3),hYS,?_,.inl ⟨rfl,?_⟩⟩
    ·rw[hrec] at hKf;exact hKf
    ·have hfin:ScI E t s Ob M rec w (W3.putObj (w.heap.size+1) (.loop (rec .ready none))).heap.size (pre++[p]) (W3.putObj (w.heap.size+1) (.loop (rec .ready none))):=by
      refine⟨h.kp.trans hKf (fun i hi hlt=>?_),hSt3,E.keepX _ _ _ h.dev hKf hYS.off,⟨v3,(World.putObj_heap_other (hneL hO3)).trans hO3,hOP3.keep ((Kp.refl [w.heap.size+1] W3).putObj (by simp) _) (fun k hk c fr e=>by rw[List.mem_singleton.1 hk,hL3] at e;cases e),fun k hk=>by have:=hv33 k hk;simp[World.putObj];omega⟩,by simp;omega,by simp[World.putObj];omega,?_,World.putObj_heap_same (ζ hL3)⟩
      ·rcases List.mem_cons.1 hi with e|e
       ·omega
       ·rcases hin3 i e with e2|e2
        ·simp at e2;simp[e2]
        ·omega
      ·refine (World.putObj_heap_other (by omega)).trans (hK13.heap h.dfr (fun hm=>?_));rcases List.mem_cons.1 hm with e|e
       ·omega
       ·rcases hS3 _ e with e2|e2
        ·rw[←e2] at hv1;rw[h.dfr] at hv1;cases hv1
        ·obtain⟨_,cur,e4⟩:=hown _ e2;rw[h.dfr] at e4;cases e4
     rw[hrec] at hfin ⊢;exact hfin
   | exit i=>
    obtain⟨rfl,hm,rfl⟩:=hp;have hr:=run_endRound (P:=prog) (some (.exit i)) hL2;rw[hrec] at hr;have hYS:YS W N [w.heap.size+1]:=fun k hk=>by rw[List.mem_singleton.1 hk];exact⟨h.lt,.inr ⟨_,h.loop⟩⟩
    have hKf:Kp [w.heap.size+1] W (W3.putObj (w.heap.size+1) (.loop (rec .done (some (.exit i))))):=hK2.putObj (by simp) _;refine⟨_,_,hr,[w.heap.size+1],hYS,?_,.inr ⟨rfl,?_⟩⟩
    ·rw[hrec] at hKf;exact hKf
    ·have hfin:ScX E t s Ob M i rec w (pre++[p]) (W3.putObj (w.heap.size+1) (.loop (rec .done (some (.exit i))))):=
      ⟨pre,p,v,rfl,hm,h.kp.trans hKf (by intro i hi hlt;simp at hi;omega),hYS.keep hKf h.hSt ⟨by decide,.inl (by decide)⟩,E.keepX _ _ _ h.dev hKf hYS.off,hKf.heap hv1 (hne2 hv1),hv2.keep hKf (fun k hk c fr e=>by rw[List.mem_singleton.1 hk,h.loop] at e;cases e),hKf.hp h.dfr,World.putObj_heap_same (ζ hL2)⟩
     rw[hrec] at hfin ⊢;exact hfin
   | ret=>exact hp.elim
   | goto l=>exact hp.elim
   | panic ch=>exact hp.elim
   | outgrown=>exact hp.elim
  ·exact⟨hK1.mono (by simp),hI1.live.hSt,hI1.live.dev,⟨_,hK1.hp hO,OPA.nil _ _,fun k hk=>by cases hk⟩,Nat.zero_le _,by omega,hD1,hL1⟩
  ·
   rintro e W2 ⟨⟨v,rfl⟩,⟨N,h⟩|⟨pre,hpre,q,p,v2,rfl,hM,hkp,hSt2,hd2,hO2,hOP2,hD2,hL2⟩⟩
   ·obtain⟨v2,hO2,hOP2,_⟩:=h.out;have hr:=run_endLoop (P:=prog) h.loop (by rw[hrec];simp);rw[hrec] at hr;have hKf:Kp [w.heap.size+1] W2 (W2.putObj (w.heap.size+1) (.loop { rec .ready none with state:=.exhausted })):=(Kp.refl _ _).putObj (by simp) _;have hsc:qH1 r.cont lo hi M=r.cont.filter (inR lo hi):=by
     rw[qH1];exact List.take_of_length_le (by have:=h.le;simp;omega)
    have hneL:∀ {k:Nat} {c:Array Value} {u:TypeId} {fr:Nat × Nat},W2.heap[k]?=some (.cells c u fr)→k ∉ [w.heap.size+1]:=fun hk hm=>by rw[List.mem_singleton.1 hm,h.loop] at hk;cases hk
    refine⟨none,_,hr,?_⟩;have:=hdone (W2.putObj (w.heap.size+1) (.loop { rec .ready none with state:=.exhausted })) v2 (h.kp.trans hKf (by intro i hi hlt;simp at hi;omega)) (hKf.heap h.hSt (hneL h.hSt)) (E.keepX _ _ _ h.dev hKf (fun k hk c u fr e=>by rw[List.mem_singleton.1 hk,h.loop] at e;cases e)) (hKf.heap hO2 (hneL hO2)) (by rw[hsc];exact hOP2.keep hKf (fun k hk c fr e=>by rw[List.mem_singleton.1 hk,h.loop] at e;cases e)) (hKf.hp h.dfr) (by have:=ζ h.loop;simp[World.putObj];omega);rw[hrec] at this;exact this
   ·have hr:=run_endLoop (P:=prog) hL2 (by rw[hrec];simp);rw[hrec] at hr;have hKf:Kp [w.heap.size+1] W2 (W2.putObj (w.heap.size+1) (.loop { rec .done (some (.exit id)) with state:=.exhausted })):=(Kp.refl _ _).putObj (by simp) _;have hsc:qH1 r.cont lo hi M=q:=by
     rw[qH1];obtain⟨z,hz⟩:=hpre;rw[←hz,Int.toNat_natCast,List.append_assoc,←hM,List.take_left'];rfl
    have hneL:∀ {k:Nat} {c:Array Value} {u:TypeId} {fr:Nat × Nat},W2.heap[k]?=some (.cells c u fr)→k ∉ [w.heap.size+1]:=fun hk hm=>by rw[List.mem_singleton.1 hm,hL2] at hk;cases hk
    refine⟨some (.exit id),_,hr,?_⟩;have:=hstop (W2.putObj (w.heap.size+1) (.loop { rec .done (some (.exit id)) with state:=.exhausted })) v2 (hkp.trans hKf (by intro i hi hlt;simp at hi;omega)) (hKf.heap hSt2 (hneL hSt2)) (E.keepX _ _ _ hd2 hKf (fun k hk c u fr e=>by rw[List.mem_singleton.1 hk,hL2] at e;cases e)) (hKf.heap hO2 (hneL hO2)) (by rw[hsc];exact hOP2.keep hKf (fun k hk c fr e=>by rw[List.mem_singleton.1 hk,hL2] at e;cases e)) (hKf.hp hD2) (by have:=ζ hL2;simp[World.putObj];omega);rw[hrec] at this;exact this
end
section
attribute [local go_sem] Oper.semAt_some
theorem kQ4(w:World)(a b:Value)(t:TypeId):∀ j u,[a,b][j]?=some u->(w.alloc (.cells #[a,b] t)).cell? ((⟨w.heap.size,0,none⟩:Addr).add j)=some u:=λj u hj=>by
 rw[qG4,ξ (υ _ _)];simpa using hj
theorem jR1{W b:World}{X:Obj}{a:Option Nat}{k:Nat}{o:Obj}(h:W.heap[k]?=some o)(c:(W.alloc X).grownBy b a)(d:a≠some k):b.heap[k]?=some o:=
 (c.block k (by have:=ζ h;simp;omega) (λe=>d e.symm)).trans (ν _ h)
theorem OPA.keepR{S}{w w'}{base n sz:Nat}{v}{xs:List Value}(h:w.ownsRow base 42 sz v n xs)(hK:Kp S w w')(i:∀ k∈S,∀ c fr,w.heap[k]?≠some (.cells c 42 fr)):w'.ownsRow base 42 sz v n xs:=by
 refine⟨h.1,?_⟩;rcases h.2 with b|⟨g,cap,cur,d,e,a,f⟩
 .exact .inl b
 .exact .inr ⟨g,cap,cur,d,e,hK.heap a (λj=>i g j _ _ a),f⟩
theorem xO2(E)(x A n:Nat)(t)(s)(r)(lo a)(g:Int)(w)(O:LiveT E w x A n t s r)(bz:-9223372036854775808<=g)(b0:g<=9223372036854775807):
  Calls prog 71 #[.pointer (some ⟨x,0,none⟩),.string lo,.string a,.int .i64 g] w λe w'=>∃ v,e=.returned (.tuple #[v,.nilIface])/\OPA w' w.heap.size v (qH1 r.cont lo a g)/\BadT E w w' t s:=by
 have HL:=zh O;have b6:=ζ O.hx;have bv:=ζ O.hSt;clear O;obtain⟨M,Z⟩:∃ M:Nat,M=g.toNat:=⟨_,rfl⟩;have a1:Hid (qH1 r.cont lo a g=qH1 r.cont lo a M):=by show _=_;rw[qH1,qH1,Z,Int.toNat_natCast]
 obtain⟨i0,ba,bh,bi,bj⟩:=info_parts zN2;refine (callsIn_wide (n:=9)).1 ?_;refine callsIn_of_wp_marks func71 rfl trivial ?_ rfl;simp only[ntmps71,List.size_toArray,List.length_cons,List.length_nil,Nat.reduceAdd,Nat.reduceSub,Array.replicate_succ,Array.replicate_zero,List.push_toArray,List.append_toArray,List.nil_append,List.cons_append];obtain⟨j,au,an,ap,ai,ao,Y,ad⟩:=alG w (.cells #[ϊ (M:Int)] 3) (.cells #[.slice none 0 0] 29) (.cells #[.nilIface] 38) (.cells #[.slice none 0 0] 29)
 have ag:=zh au;have a0:=zh ad;clear au ad;by_cases hb:g<1
 focus
  obtain⟨bb,aq⟩:=eX true;have m:(0:Int)=(M:Int):=oM
  have X:=zh m;clear m Z
  gi_wp2_with fail
  refine⟨trivial,?_⟩;rw[X.out,<-ag.out]
 rotate_left
 focus
  obtain⟨bb,aq⟩:=eX false;have m:g=(M:Int):=oM
  have X:=zh m;clear m Z
  gi_wp2_with fail
  refine⟨trivial,?_⟩;have G:(((w.alloc (.cells #[ϊ g] 3)).alloc (.cells #[.slice none 0 0] 29)).alloc (.cells #[.nilIface] 38)).alloc (.cells #[.slice none 0 0] 29)=j:=by rw[ag.out,<-X.out]
  rw[G];clear G
 all_goals
  have al:=HL.out.more Y;refine callsIn_wide.2 ((zV3 x lo a j).mono ?_);rintro e w1 ⟨rfl,ah,am,aj,B⟩;have L:AllIn E x A n t s r j.heap.size (j.heap.size+1) (j.heap.size+2) lo a w1:=⟨al.more B,ah,am,aj⟩;have m:=B.hp an;have T:=B.hp ap;have J:=B.hp ai;have Q:=B.hp ao;have ax:=zh (Y.tr B);have b2:=B.size;clear an ap ai ao Y B ah am aj al
  gi_wp2_with fail
  have bu:t.St≠w.heap.size+1+1+1:=oM
  refine kS5 E x A n t s r j.heap.size (j.heap.size+1) (j.heap.size+2) (w.heap.size+1+1+1) M 0 lo a dC rfl rfl L Q (λp Pb=>{ tmps:=#[ϖ x,.string lo,.string a,ϊ g,undef,undef,undef,ϖ w.heap.size,ϖ (w.heap.size+1),ϖ (w.heap.size+1+1),ϖ (w.heap.size+1+1+1),ϖ Pb,.nilIface,ϊ g,.bool bb,ϖ x,.string lo,.string a,.func (.func 176) #[] #[ϖ j.heap.size,ϖ (j.heap.size+1),ϖ (j.heap.size+2)],.agg #[.string p.k,.string p.v],.nilIface,undef,undef,undef,undef,undef,undef,undef,undef,undef,undef,undef,undef],defers:=[] }) ?_ ?_ ?_ ?_
  .intro l p W K hK
   gi_wp2
   subst aq;exact hK
  .intro l z p W v Pb d C S br b1 f bw bx;have P:=f.heap m (by
    simp only[List.mem_cons,not_or];exact⟨oM,oM,λh=>by have:=E.low w HL.dev _ h;omega⟩)
   have a6:=ζ d;have bs:=ζ S;have bq:=ζ P;have o0:=ϻ d 0;have bl:=φ d 0;have p0:=ξ S;have m0:=ϻ P 0;obtain⟨o,q,rfl⟩:=C.form;by_cases hq:z.length=M
   .have bg:(z.length:Int)=(M:Int):=oM
    clear m T J Q L d S P
    gi_wp2
    all_goals exact⟨rfl,hq,rfl⟩
   .have bg:¬(z.length:Int)=(M:Int):=oM
    have af:=zh (n3 d C f);have b5:=f.size;have ay:Hid ((Value.slice o z.length q).ownBlock≠some (w.heap.size+1+1+1)):=λe=>by
     rcases C.2 with⟨h0,_⟩|⟨gb,cap,cur,e1,e2,e3,_⟩
     .rw[h0] at e;cases e
     .rw[e1] at e;cases e;rw[d] at e3;cases e3
    clear m T J Q L d S P C f
    gi_wp2_with (gi_at_builtin;refine wpListIn_append_own _ rfl _ _ 29 rfl w1.heap.size 42 i0 (.agg #[.string ⟨#[]⟩,.string ⟨#[]⟩]) 2 32 underlying29 ba bh bi bj rfl dC _ _ _ rfl (World.ownsRow.alloc af.2.1 _) ⟨W.heap.size,0,none⟩ 1 1 [.string p.k,.string p.v] rfl rfl (kQ4 _ _ _ _) (by simp[Value.oneCell']) (by unfold maxLen;omega) oM sO ?_;intro v5 F aa ab _;obtain⟨g5,c5,rfl⟩:=qO0 aa;have R:=jR1 af.1 ab ay.out;have o5:=ξ R 0;have bm:=φ R 0;simp only[zG,zH] at o5)
    have bf:z.length<M:=oM
    have b3:=ab.size;refine⟨bf,.slice (some ⟨g5,0,none⟩) (z.length+1) c5,[w.heap.size+1+1+1]++(Value.slice o z.length q).ownBlock.toList,?_,?_,μ R 0 _,?_,?_⟩
    .refine ((((Kp.refl _ W).alloc _).grown ab (λk b=>.inl (List.mem_append.2 (.inr (by have bc:(Value.slice o z.length q).ownBlock=some k:=b;rw[bc];simp))))).sc _)
    .intro k b;rcases List.mem_append.1 b with h|h
     .exact .inl (List.mem_singleton.1 h)
     .exact .inr (by simpa using h)
    .have e:=kH7 z p;unfold OPA;rw[e,List.length_append];refine OPA.keepR aa ((Kp.refl [w.heap.size+1+1+1] F).sc _) (λk b c fr e=>?_);rw[List.mem_singleton.1 b,R] at e;cases e
    .intro k b;have:=(World.ownsRow.lt aa k b).2;simp[World.setCell];omega
  all_goals
   intro W v f U V d C H ar;have ac:∀ k,w.heap.size<=k->k≠w.heap.size+1+1+1->k ∉ t.St::(w.heap.size+1+1+1)::E.S:=λk b hne hm=>by
    simp only[List.mem_cons] at hm;rcases hm with h|h|h
    .omega
    .omega
    .have:=E.low w HL.dev _ h;omega
   have y:=f.heap T (ac _ oM oM);have u:=f.heap J (ac _ oM oM);have a6:=ζ d;have bt:=ζ y;have bp:=ζ u;obtain⟨o,q,a9⟩:=C.form;subst a9;have o0:=ϻ d 0;have r0:=ϻ y 0;have bn:=φ y 0;have G:=ϻ u 0;have bk:=φ u 0;obtain⟨I,ae⟩:=eX ((qH1 r.cont lo a M).length);rw[<-ae] at o0;have az:Hid (OPA W w1.heap.size (.slice o I q) (qH1 r.cont lo a M)):=by rw[ae];exact C
   have HW:=zh (n6 U V f y u H);clear m T J Q L U V f y u H d C ae ac
   gi_wp2
   obtain⟨U,V,f,y,u,H⟩:=HW.out;have ad:=a0.out;have ak:=(ax.mono sM).trans f (λ_ h _=>h);have b4:=ak.size;have bo:=E.low w HL.dev;obtain⟨D,av,a7,a3,a2,a5⟩:∃ D,D=(W.setCell ⟨w.heap.size+1,0,none⟩ (.slice o I q)).setCell ⟨w.heap.size+1+1,0,none⟩ .nilIface/\D.heap[w.heap.size+1]?=some (.cells #[.slice o I q] 29)/\D.heap[w.heap.size+1+1]?=some (.cells #[.nilIface] 38)/\Ϙ D w1.heap.size (.deferred (some []))/\Kp [w.heap.size+1,w.heap.size+1+1] W D:=
    ⟨_,rfl,(qB1 oM _ _).trans (μ y 0 _),μ ((qB1 oM _ _).trans u) 0 _,(qB1 oM _ _).trans ((qB1 oM _ _).trans H),((Kp.refl _ _).sc _).sc _⟩
   rw[<-av];clear av;refine⟨sM,.inl ⟨_,_,rfl,run_takeDeferred a2,?_⟩⟩;obtain⟨F,aw,a8,a4,N⟩:∃ F,F=D.putObj w1.heap.size (.deferred none)/\F.heap[w.heap.size+1]?=some (.cells #[.slice o I q] 29)/\F.heap[w.heap.size+1+1]?=some (.cells #[.nilIface] 38)/\Kp [w.heap.size+1,w.heap.size+1+1,w1.heap.size] W F:=
    ⟨_,rfl,(World.putObj_heap_other oM).trans a7,(World.putObj_heap_other oM).trans a3,(a5.mono (by simp +contextual)).putObj sM _⟩
   rw[<-aw];clear aw;have r0:=ξ a8 0;have G:=ξ a4 0;simp only[zG,zH] at r0 G;have bd:=(OffD.one y dC).cons ((OffD.one u dC).cons (λk b c t fr e=>by rw[List.mem_singleton.1 b,H] at e;cases e));have be:=az.out.keep N (λk b c fr e=>by
    simp only[List.mem_cons,List.not_mem_nil,or_false] at b;rcases b with h|h|h
    .rw[h,y] at e;cases e
    .rw[h,u] at e;cases e
    .rw[h,H] at e;cases e)
   refine⟨.tuple #[.slice o I q,.nilIface],?_,.slice o I q,rfl,?_,E.keepX _ _ _ V N bd,N.heap U ?_,ak.trans N ?_ |>.mono ?_⟩
   .simp[results,results71,go_sem,r0,G]
   .rw[a1.out];exact qK4 be oM
   .simp only[List.mem_cons,List.not_mem_nil,or_false,not_or];exact⟨oM,oM,oM⟩
   .intro i a ar;simp at a;omega
   .intro i a ar;simp only[List.mem_cons] at a |-;rcases a with h|h|h
    .exact .inl h
    .omega
    .exact .inr h
end
section
attribute [local go_sem] Oper.semAt_some
theorem ErrV.keep{w w'}{v}{k:Option Int}{S}(h:ErrV w v k)(hK:Kp S w w')(e:∀ i∈S,∀ c fr,w.heap[i]?≠some (.cells c 246 fr)):ErrV w' v k:=by
 cases k with
 | none=>exact h
 | some k=>
  obtain⟨F,b,d,a⟩:=h;exact⟨F,b,d,hK.heap a (λf=>e _ f _ _ a)⟩
theorem xT3(x:Nat)(t)(s)(B f H l m:Nat)(n:World->Prop)(w)(A:w.heap[x]?=some (qA1 t))(J:t.over=true)(j:w.heap[t.St]?=some (θ 0 s))(K:s.po=false)(C:x≠t.St)(i:w.heap[B]?=some (.cells #[.pointer (some ⟨x,0,none⟩)] 32))
  (y:∀ W F g,Kp [t.St] w W->W.heap[t.St]?=some (θ 0 s)->W.heap[F]?=some (.cells #[.string g,.iface 45 (.int .i64 5)] 246)->YieldAt Fence.wide (m-1) prog l #[.agg #[.string ⟨#[]⟩,.string ⟨#[]⟩],.iface 243 (.pointer (some ⟨F,0,none⟩))] W λe W'=>e=.returned (.bool false)/\n W'):
  CallsIn Fence.wide m prog 176 #[.func (.yield l) #[] #[],.pointer (some ⟨B,0,none⟩),.pointer (some ⟨f,0,none⟩),.pointer (some ⟨H,0,none⟩)] w λe M=>(∃ v,e=.returned v)/\n M:=by
 have S:=zM;have G:=zh y;have d:=zh (n3 A C j);have p:=ν (.cells ϛ 89) i;have o:=ξ p 0;simp only[zG,zH] at o;have Q:=ζ i;have R:=ζ j;clear y p A C j i;refine callsIn_of_wp func176 rfl trivial ?_ rfl;simp only[ntmps176,List.size_toArray,lC,List.length_nil,Nat.reduceAdd,Nat.reduceSub,Array.replicate_succ,Array.replicate_zero,List.push_toArray,aT,nA,cA]
 gi_wp2_with fail
 refine⟨trivial,λh=>(by cases h),?_⟩;obtain⟨c,z,b⟩:∃ c,c=w.alloc (.cells ϛ 89)/\Kp [] w c:=⟨_,rfl,kF.alloc _⟩;rw[<-z];clear z o;refine callsIn_wide.2 ((qT1 x t.St 177 t s #[] _ _ c (b.hp d.1) J rfl (b.hp d.2.2) K d.2.1).mono ?_);rintro e w1 ⟨v,rfl,⟨F,g,rfl,hF⟩,hSt1,hK1⟩;have r:=(b.mono sM).trans hK1 (λ_ h _=>h);have T:∀ W:World,Sem.run prog (binOp .eql 38 (.iface 243 (ϖ F)) .nilIface) W=.ok (.bool false) W:=λW=>by kernel_rfl
 have a:Kp [] w1 (w1.alloc (.cells #[.func (.func 178) #[] #[ϖ f]] 92)):=kF.alloc _;obtain⟨D,k⟩:=eX (w1.alloc (.cells #[.func (.func 178) #[] #[ϖ f]] 92));rw[<-k] at a;obtain⟨P,U,N,O,L,u⟩:=G.out D F g (r.tr a) (a.hp hSt1) (a.hp hF);clear b hK1 r a hSt1 hF
 gi_wp2_with fail
 rw[<-k];clear k
 gi_loopw [6] (λI wr=>I=.iface 243 (ϖ F)/\wr=D) (λ_ _=>0)
 case atStart=>exact⟨rfl,rfl⟩
 case round=>
  obtain⟨rfl,rfl⟩:=hrel
  gi_wp2
  refine⟨λh=>(by cases h),u.mono ?_⟩;rintro e V ⟨rfl,q⟩;have E:=zh q;clear q L u
  gi_wp2
  go_end0
  exact⟨⟨_,rfl⟩,E⟩
def xS3(R:World→World→Prop)(W W3:World):Prop:=∃ S3:List Nat,Kp S3 W W3∧(∀ k∈S3,∃ c u fr,W.heap[k]?=some (.cells c u fr)∧u≠169∧u≠246)∧R W W3
def xS4(B1 B2:Nat)(W W3:World):Prop:=∃ F,(∃ call,W.heap[F]?=some (.cells #[.string call,.iface 45 (.int .i64 5)] 246))∧W3.heap[B1]?=some (.cells #[.slice none 0 0] 29)∧W3.heap[B2]?=some (.cells #[.iface 243 (.pointer (some ⟨F,0,none⟩))] 38)∧Kp [B1,B2] W W3
theorem kS8{nn:Nat}{g:Operand}{ps:Array Tmp}{assign body:Code}{Q:Exit->Act->World->Prop}{a:Act}{w:World}(x:Nat)(t:Tx)(s:Sto)(B Lc Hc:Nat)(Ty:TypeId)(h1:1<=nn)
  (hg:a.eval g=.func (.func 176) #[] #[.pointer (some ⟨B,0,none⟩),.pointer (some ⟨Lc,0,none⟩),.pointer (some ⟨Hc,0,none⟩)]) (hps:ps.size=2)
  (hx:w.heap[x]?=some (qA1 t)) (ho:t.over=true) (hSt:w.heap[t.St]?=some (θ 0 s)) (hpo:s.po=false) (hxS:x≠t.St) (hB:w.heap[B]?=some (.cells #[.pointer (some ⟨x,0,none⟩)] 32))
  (a₁:Value->Nat->Act) (R:World->World->Prop)
  (hassign:∀ (l:Nat) (v:Value) (W:World) (K:Act->World->Prop),K (a₁ v W.heap.size) (W.alloc (.cells #[.string ⟨#[]⟩,.string ⟨#[]⟩] 42))->
   assign.wpIn (Fence.wide.inRound l) (nn-1-1) prog (Exit.then K (λ_ _ _=>False)) { tmps:=(ps.zip #[.agg #[.string ⟨#[]⟩,.string ⟨#[]⟩],v]).foldl (λt (p,v)=>t.setIfInBounds p v) a.tmps,defers:=[] } W)
  (hbody:∀ (l F:Nat) (call:ByteArray) (W:World) (Pb:Nat),Kp [t.St] w W->W.heap[t.St]?=some (θ 0 s)->W.heap[F]?=some (.cells #[.string call,.iface 45 (.int .i64 5)] 246)->
   body.wpIn (Fence.wide.inRound l) (nn-1-1) prog (λe _ W3=>match e with
    | .ret=>xS3 R W W3
    | _=>False) (a₁ (.iface 243 (.pointer (some ⟨F,0,none⟩))) Pb) W)
  (hstop:∀ (W:World),(∃ (Wa W3:World) (F:Nat) (call:ByteArray) (S3:List Nat),Kp [t.St] w Wa/\Wa.heap[F]?=some (.cells #[.string call,.iface 45 (.int .i64 5)] 246)/\Wa.heap[t.St]?=some (θ 0 s)/\R Wa W3/\Kp S3 Wa W3/\(∀ k∈S3,∃ c u fr,Wa.heap[k]?=some (.cells c u fr)/\u≠169/\u≠246)/\Kp [w.heap.size+1] W3 W/\(∃ rr,W3.heap[w.heap.size+1]?=some (.loop rr)))->W.heap[w.heap.size]?=some (.deferred (some []))->(Code.ret).wpIn Fence.wide nn prog Q { a with defers:={ target:=.collected w.heap.size,args:=#[] }::a.defers } W):
  (Code.rangeFunc g ps assign body).wpIn Fence.wide nn prog Q a w:=by
 refine wpIn_rangeFunc ?_;intro fn hfn;obtain⟨rec,hrec⟩:∃ rec:LoopState->Option Code->Loop,rec=λst pe=>{ state:=st,pending:=pe,fn,tmps:=a.tmps,params:=ps,assign,body,defers:=w.heap.size }:=⟨_,rfl⟩;obtain⟨W1,hW1⟩:=eY ((w.alloc (.deferred (some []))).alloc (.loop (rec .ready none)));have hL1:W1.heap[w.heap.size+1]?=some (.loop (rec .ready none)):=by
  rw[<-hW1];have:=World.alloc_heap_new (w.alloc (.deferred (some []))) (.loop (rec .ready none));rwa [World.size_alloc] at this
 have hD1:Ϙ W1 w.heap.size (.deferred (some [])):=by
  rw[<-hW1];exact (Below.heap_alloc _ _ _ sM).trans (World.alloc_heap_new w _)
 have hK1:Kp [] w W1:=by rw[<-hW1];exact (kF.alloc _).alloc _
 have hs1:W1.heap.size=w.heap.size+2:=by rw[<-hW1];simp
 have hSts:=ζ hSt;refine⟨w.heap.size+1,[{ target:=.collected w.heap.size,args:=#[] }],W1,{ target:=.fn (.func 176) #[ϖ B,ϖ Lc,ϖ Hc],args:=#[.func (.yield (w.heap.size+1)) #[] #[]] },W1,176,
  #[.func (.yield (w.heap.size+1)) #[] #[],ϖ B,ϖ Lc,ϖ Hc],W1,?_,?_,?_,?_,λh=>(by cases h),?_⟩
 .rw[<-hW1,hrec];exact run_enterLoop_outer _ _ _ _ _
 .simp only[resolve,hg];simp[go_sem]
 .intro f' hf';trivial
 .simp[invoke,go_sem,zY0]
 .refine (xT3 x t s B Lc Hc (w.heap.size+1) (nn-1) (λW=>W.heap[w.heap.size+1]?=some (.loop (rec .done (some .ret)))/\Ϙ W w.heap.size (.deferred (some []))/\∃ (Wa W3:World) (F:Nat) (call:ByteArray) (S3:List Nat),Kp [t.St] w Wa/\Ϙ Wa F (.cells #[.string call,.iface 45 (ϊ 5)] 246)/\Ϙ Wa t.St (θ 0 s)/\R Wa W3/\Kp S3 Wa W3/\(∀ k∈S3,∃ c u fr,Ϙ Wa k (.cells c u fr)/\u≠169/\u≠246)/\Kp [w.heap.size+1] W3 W/\(∃ rr,W3.heap[w.heap.size+1]?=some (.loop rr))) W1 (hK1.hp hx) ho (hK1.hp hSt) hpo hxS (hK1.hp hB) ?_).mono ?_
  .intro W F call hK hStW hF;have hL:=hK.ho hL1;have hD:=hK.ho hD1;have hlt:=ζ hL;have hy:=run_yield (P:=prog) (args:=#[.agg #[.string ⟨#[]⟩,.string ⟨#[]⟩],.iface 243 (ϖ F)]) hL (by rw[hrec];simp[hps]);rw[hrec] at hy;refine⟨fn,_,assign,body,hy,roundIn_of_wpIn hfn (hassign _ _ W _ ?_)⟩;clear hy;have hKa:Kp [] W (W.alloc (.cells ϝ 42)):=kF.alloc _;have hLa:=hKa.hp hL;refine⟨_,run_beginRound hLa (by rw[hrec]),?_⟩;obtain⟨W2,hW2,hL2,hK2⟩:∃ W2,W2=(W.alloc (.cells ϝ 42)).putObj (w.heap.size+1) (.loop { rec .ready none with state:=.busy })/\W2.heap[w.heap.size+1]?=some (.loop { rec .ready none with state:=.busy })/\Kp [w.heap.size+1] W W2:=
    ⟨_,rfl,World.putObj_heap_same sO,((hKa.mono sM).putObj sM _)⟩
   rw[<-hW2];clear hW2 hKa hLa;have hF2:=hK2.heap hF (λhm=>by rw[mS hm,hL] at hF;cases hF);have hSt2:=hK2.heap hStW (λhm=>by rw[mS hm,hL] at hStW;cases hStW);have hKw2:=((hK1.mono (S':=[t.St]) sM).trans hK (λ_ h _=>h)).trans hK2 (by intro i hi hlt;simp at hi;omega);have hD2:=hK2.hp hD;refine wpIn_mono (hbody _ F call W2 W.heap.size hKw2 hSt2 hF2) ?_;rintro e a3 W3 hp
   cases e with
   | ret=>
    obtain⟨S3,hK3,hS3,hR3⟩:=hp;have hno:∀ k o,Ϙ W2 k o->(∀ c u fr,o≠.cells c u fr)->k ∉ S3:=λk o ho' hn hm=>by
     obtain⟨c,u,fr,e,_⟩:=hS3 k hm;rw[ho'] at e;cases e;exact hn _ _ _ rfl
    have hL3:=hK3.heap hL2 (hno _ _ hL2 (by intros;simp));have hr:=run_endRound (P:=prog) (some .ret) hL3;rw[hrec] at hr;refine⟨_,_,hr,rfl,?_⟩;have hfin:(λW:World=>W.heap[w.heap.size+1]?=some (.loop (rec .done (some .ret)))/\Ϙ W w.heap.size (.deferred (some []))/\∃ (Wa W3:World) (F:Nat) (call:ByteArray) (S3:List Nat),Kp [t.St] w Wa/\Ϙ Wa F (.cells #[.string call,.iface 45 (ϊ 5)] 246)/\Ϙ Wa t.St (θ 0 s)/\R Wa W3/\Kp S3 Wa W3/\(∀ k∈S3,∃ c u fr,Ϙ Wa k (.cells c u fr)/\u≠169/\u≠246)/\Kp [w.heap.size+1] W3 W/\(∃ rr,W3.heap[w.heap.size+1]?=some (.loop rr))) (W3.putObj (w.heap.size+1) (.loop (rec .done (some .ret)))):=
     ⟨World.putObj_heap_same (ζ hL3),(World.putObj_heap_other oM).trans (hK3.heap hD2 (hno _ _ hD2 (by intros;simp))),W2,W3,F,call,S3,hKw2,hF2,hSt2,hR3,hK3,hS3,kF.putObj sM _,_,hL3⟩
    rw[hrec] at hfin |-;exact hfin
   | normal=>exact hp.elim
   | exit i=>exact hp.elim
   | goto l=>exact hp.elim
   | panic ch=>exact hp.elim
   | outgrown=>exact hp.elim
  .rintro e W2 ⟨⟨v,rfl⟩,hL,hD,Wa,W3,F,call,S3,p1,p2,p3,p4,p5,p6,p7,rr,p8⟩;have hr:=run_endLoop (P:=prog) hL (by rw[hrec];simp);rw[hrec] at hr;refine⟨some .ret,_,hr,?_⟩;have:=hstop (W2.putObj (w.heap.size+1) (.loop { rec .done (some .ret) with state:=.exhausted })) ⟨Wa,W3,F,call,S3,p1,p2,p3,p4,p5,p6,p7.putObj sM _,rr,p8⟩ ((World.putObj_heap_other oM).trans hD);rw[hrec] at this;exact this
theorem kL7(x:Nat)(t)(s)(lo g)(m:Int)(w)(U:w.heap[x]?=some (qA1 t))(ho:t.over=true)(B:w.heap[t.St]?=some (θ 0 s))(am:s.po=false)(ai:x≠t.St):
  Calls prog 71 #[.pointer (some ⟨x,0,none⟩),.string lo,.string g,.int .i64 m] w λe V=>∃ v,e=.returned (.tuple #[.slice none 0 0,v])/\ErrV V v (some 5)/\V.heap[t.St]?=some (θ 0 s)/\Kp [t.St] w V:=by
 have J:=zh (n3 U ai B);have ax:=ζ U;have au:=ζ B;clear U ai B;refine (callsIn_wide (n:=9)).1 ?_;refine callsIn_of_wp_marks func71 rfl trivial ?_ rfl;simp only[ntmps71,List.size_toArray,lC,List.length_nil,Nat.reduceAdd,Nat.reduceSub,Array.replicate_succ,Array.replicate_zero,List.push_toArray,aT,nA,cA];obtain⟨o,E⟩:∃ o:Int,o=if m<1 then 0 else m:=⟨_,rfl⟩
 obtain⟨a,ag,ac,aa,ab,T⟩:∃ a,a=(((w.alloc (.cells #[ϊ o] 3)).alloc (.cells #[.slice none 0 0] 29)).alloc (.cells #[.nilIface] 38)).alloc (.cells #[.slice none 0 0] 29)/\a.heap[w.heap.size+1]?=some (.cells #[.slice none 0 0] 29)/\a.heap[w.heap.size+1+1]?=some (.cells #[.nilIface] 38)/\Kp [] w a/\a.heap.size=w.heap.size+4:=by
  refine⟨_,rfl,ν _ (ν _ ?_),ν _ ?_,(((kF.alloc _).alloc _).alloc _).alloc _,sM⟩
  .have e:=υ (w.alloc (.cells #[ϊ o] 3)) (.cells #[.slice none 0 0] 29);simpa using e
  .have e:=υ ((w.alloc (.cells #[ϊ o] 3)).alloc (.cells #[.slice none 0 0] 29)) (.cells #[.nilIface] 38);simpa using e
 have Z:=zh ag;have aj:=zh T;clear ag T;by_cases hb:m<1
 focus
  obtain⟨bb,ad⟩:=eX true;have I:Hid (o=0):=by show _=_;rw[E,if_pos hb]
  clear E
  gi_wp2_with fail
  refine⟨trivial,?_⟩;have b:(((w.alloc (.cells #[ϊ 0] 3)).alloc (.cells #[.slice none 0 0] 29)).alloc (.cells #[.nilIface] 38)).alloc (.cells #[.slice none 0 0] 29)=a:=by rw[Z.out,I.out]
  rw[b];clear b
 rotate_left
 focus
  obtain⟨bb,ad⟩:=eX false;have I:Hid (o=m):=by show _=_;rw[E,if_neg hb]
  clear E
  gi_wp2_with fail
  refine⟨trivial,?_⟩;have b:(((w.alloc (.cells #[ϊ m] 3)).alloc (.cells #[.slice none 0 0] 29)).alloc (.cells #[.nilIface] 38)).alloc (.cells #[.slice none 0 0] 29)=a:=by rw[Z.out,I.out]
  rw[b];clear b
 all_goals
  refine callsIn_wide.2 ((zV3 x lo g a).mono ?_);rintro e w1 ⟨rfl,M,al,ak,y⟩;have Q:=y.hp ac;have O:=y.hp aa;have H:=zh (ab.tr y);have av:=y.size;clear ac aa ab y al ak
  gi_wp2_with fail
  refine kS8 x t s a.heap.size (a.heap.size+1) (a.heap.size+2) 0 dC rfl rfl (H.hp J.1) ho (H.hp J.2.2) am J.2.1 M (λv Pb=>{ tmps:=#[ϖ x,.string lo,.string g,ϊ m,undef,undef,undef,ϖ w.heap.size,ϖ (w.heap.size+1),ϖ (w.heap.size+1+1),ϖ (w.heap.size+1+1+1),ϖ Pb,v,ϊ m,.bool bb,ϖ x,.string lo,.string g,.func (.func 176) #[] #[ϖ a.heap.size,ϖ (a.heap.size+1),ϖ (a.heap.size+2)],.agg #[.string ⟨#[]⟩,.string ⟨#[]⟩],v,undef,undef,undef,undef,undef,undef,undef,undef,undef,undef,undef,undef],defers:=[] })  (xS4 (w.heap.size+1) (w.heap.size+1+1)) ?assign ?body ?stop
  case assign=>
   intro l v W K hK
   gi_wp2
   subst ad;exact hK
  case body=>
   intro l F L W Pb ae B hF;have f:=ae.ho Q;have d:=ae.ho O;have ar:=ζ f;have aq:=ζ d;have p:=ϻ f 0;have ap:=φ f 0;have b:=ϻ d 0;have an:=φ d 0;have hq:∀ W:World,Sem.run prog (binOp .neq 38 (.iface 243 (ϖ F)) .nilIface) W=.ok (.bool true) W:=λW=>by kernel_rfl
   have q:=zh (n3 f d hF);clear Q O f d hF B M
   gi_wp2
   refine⟨[w.heap.size+1,w.heap.size+1+1],(kF.sc _).sc _,?_,F,⟨L,q.2.2⟩,(qB1 oM _ _).trans (μ q.1 0 _),μ ((qB1 oM _ _).trans q.2.1) 0 _,(kF.sc _).sc _⟩;intro k j;simp only[mC,lN,or_false] at j;rcases j with rfl|rfl
   .exact⟨_,_,_,q.1,dC,dC⟩
   .exact⟨_,_,_,q.2.1,dC,dC⟩
  case stop=>
   rintro W ⟨Wa,W3,F0,call0,S3,p1,p2,p3,⟨F,⟨L,q1⟩,q2,q3,q4⟩,p5,p6,p7,rr,p8⟩ N;have T:=aj.out;have aw:=lT p1.size (lT p5.size p7.size);have C:∀ {k:Nat} {c:Array Value} {u:TypeId} {fr:Nat × Nat},W3.heap[k]?=some (.cells c u fr)->k ∉ [w1.heap.size+1]:=λj hm=>by rw[mS hm,p8] at j;cases j
   have S:∀ {k:Nat} {c:Array Value} {u:TypeId} {fr:Nat × Nat},Wa.heap[k]?=some (.cells c u fr)->(u=169\/u=246)->k ∉ S3:=λj hu hm=>by
    obtain⟨c',u',ao,e1,e2,e3⟩:=p6 _ hm;rw[j] at e1;cases e1;rcases hu with h|h
    .exact e2 h
    .exact e3 h
   have f:=p7.heap q2 (C q2);have d:=p7.heap q3 (C q3);have P:=p5.heap q1 (S q1 (.inr rfl));have r:=p7.heap P (C P);have R:=p5.heap p3 (S p3 (.inl rfl));have A:=p7.heap R (C R);have p:=ξ f 0;have b:=ξ d 0;simp only[zG,zH] at p b;have D:=(((H.mono (S':=[t.St]) sM).trans p1 (λ_ h _=>h)).trans q4 (by intro i g af;simp at g;omega)).trans p7 (by intro i g af;simp at g;omega);have Y:=zh (n6 r A D f d N);clear Q O M p1 p2 p3 p5 p6 p7 p8 q1 q2 q3 q4 C S f d P r R A D p b
   gi_wp2
   refine⟨sM,.inl ⟨_,_,rfl,run_takeDeferred Y.2.2.2.2.2,?_⟩⟩;obtain⟨r,A,D,f,d,N⟩:=Y.out;obtain⟨X,ah,z⟩:∃ X,X=W.putObj w1.heap.size (.deferred none)/\Kp [w1.heap.size] W X:=⟨_,rfl,kF.putObj sM _⟩;rw[<-ah];clear ah;have G:∀ {k:Nat} {c:Array Value} {u:TypeId} {fr:Nat × Nat},W.heap[k]?=some (.cells c u fr)->k ∉ [w1.heap.size]:=λj hm=>by rw[mS hm,N] at j;cases j
   have p:=ξ (z.heap f (G f)) 0;have b:=ξ (z.heap d (G d)) 0;simp only[zG,zH] at p b;refine⟨.tuple #[.slice none 0 0,.iface 243 (ϖ F)],?_,_,rfl,⟨F,L,rfl,z.heap r (G r)⟩,z.heap A (G A),D.trans z (by intro i g af;simp at g;omega)⟩;simp[results,results71,go_sem,p,b]
end
theorem qH6(k:Int)(w):Calls prog 127 #[.int .i64 k] w λe a=>e=.returned (.int .i64 k)/\a=w:=by
 go_enter func127,ntmps127;go_wp2;go_ret;exact⟨rfl,rfl⟩
theorem qW4(c:Int)(n:Nat)(w)(h:-9223372036854775808<=c)(i:c<=9223372036854775807)(l:1<=n)(m:n<=1000000):
  Calls prog 79 #[.int .i64 c,.int .i64 n] w λe g=>∃ j:Nat,e=.returned (.int .i64 j)/\j<n/\g=w:=by
 have b:¬((n:Int)=0):=oM
 by_cases k:c<0
 .go_enter func79,ntmps79;go_wp2;go_ret;have d:-((c+1).tmod (n:Int))=(-(c+1)) % (n:Int):=by rw[<-Int.neg_tmod,Int.tmod_eq_emod_of_nonneg oM]
  have a:=Int.emod_nonneg (-(c+1)) b;have f:=Int.emod_lt_of_pos (-(c+1)) (show (0:Int)<n by omega);refine⟨((-(c+1)) % (n:Int)).toNat,?_,oM,rfl⟩;rw[Int.toNat_of_nonneg a,<-d];rfl
 .go_enter func79,ntmps79;go_wp2;go_ret;have a:=Int.emod_nonneg c b;have f:=Int.emod_lt_of_pos c (show (0:Int)<n by omega);refine⟨(c % (n:Int)).toNat,?_,oM,rfl⟩;rw[Int.toNat_of_nonneg a];rfl
theorem xY2(c:Int)(w)(h:c<0):Calls prog 122 #[.int .i64 c] w λe a=>e=.returned (.int .i64 0)/\a=w:=by
 go_enter func122,ntmps122;go_wp2;go_ret;exact⟨rfl,rfl⟩
theorem xY1(c:Int)(w)(h:¬c<0):Calls prog 122 #[.int .i64 c] w λe a=>e=.returned (.int .i64 (c % 1000))/\a=w:=by
 go_enter func122,ntmps122;go_wp2;go_ret;exact⟨rfl,rfl⟩
theorem zN1:(prog.info? 126).map (λi=>(i.zero,i.size,i.bytes))=some (some (.agg #[.slice none 0 0]),1,24):=kR
theorem kK6(w)(ty):Sem.run prog (Builtin.append_ #[121,121] ty #[.slice none 0 0,.slice none 0 0]) w=.ok (.slice none 0 0) w:=by
 obtain⟨e,a,b,c,d⟩:=info_parts zN1;simp[Builtin.append_,run_underlying underlying121,sizeOf,typeInfo,a,Builtin.lenOf,Builtin.firstCells]
theorem qX5{P:Program}{c:Array Oper}{d:List Oper}{b:Option Tmp}{ty}{k:String}{e:Array Edge}{a:Act}{w w'}{Q:Exit->Act->World->Prop}{s x:Operand}{t}{vs vx v'}(i:a.eval s=vs)(j:a.eval x=vx)
  (g:Sem.run P (Builtin.append_ #[t,t] ty #[vs,vx]) w=.ok v' w') (h:wpList P c Q d (a.put b v') w'):
  wpList P c Q (⟨b,.call { callee:=.builtin .append,args:=#[s,x],argTypes:=#[t,t] },ty,k,e,none⟩::d) a w:=by
 refine wpList_plain rfl λK hK=>?_;have f:=hK _ _ h;unfold Oper.wp execOp;simp only[resolve,invoke,builtin,Sem.run_bind,Sem.run_pure,Result.andThen_ok,List.map_toArray,List.map_cons,List.map_nil,i,j,g];exact f
def Apart(w:World)(S:List Nat)(t:TypeId):Prop:=∀ k,k∈S→∃ c u fr,w.heap[k]?=some (.cells c u fr)∧u≠t
theorem jN7(may were)(n:Nat)(e c a:Bool)(w)(f:8<=n)(d:n<=400):
  Calls prog 128 #[.agg #[.int .i64 n,may,.bool e,were,.bool c,.bool a]] w λr b=>r=.returned (.bool true)/\Kp [] w b:=by
 go_enter func128,ntmps128;go_wp2;go_ret;exact⟨by show Ending.returned (Value.bool (decide ((n:Int)<=400)))=_;rw[decide_eq_true oM],kF.alloc _⟩
theorem jN6(may were)(n:Nat)(e d b:Bool)(w)(a:n<8\/400<n):
  Calls prog 128 #[.agg #[.int .i64 n,may,.bool e,were,.bool d,.bool b]] w λr c=>r=.returned (.bool false)/\Kp [] w c:=by
 by_cases g:n<8
 .clear a;go_enter func128,ntmps128;go_wp2;go_ret;exact⟨rfl,kF.alloc _⟩
 .have f:400<n:=oM
  clear a;go_enter func128,ntmps128;go_wp2;go_ret;exact⟨by show Ending.returned (Value.bool (decide ((n:Int)<=400)))=_;rw[decide_eq_false oM],kF.alloc _⟩
structure KF where
 A:Nat
 n:Nat
 may:Value
 emp:Bool
 were:Value
 wild:Bool
 bit:Bool
 x:Option Addr
 c:Value
 com:Int
 po:Bool
 ts:Value
 li:Value
 wa:Value
def kob(k:KF):Obj:=
 .cells #[.pointer (some ⟨k.A,0,none⟩),.int .i64 k.n,k.may,.bool k.emp,k.were,.bool k.wild,.bool k.bit,.pointer k.x,k.c,.int .i64 k.com,.bool k.po,k.ts,k.li,k.wa] 130
structure TF where
 x:Nat
 v:Value
 wr:Bool
 dn:Bool
 chg:Int
 most:Int
 com:Int
 stp:Int
 cs:Value
def tob(f:TF):Obj:=
 .cells #[.pointer (some ⟨f.x,0,none⟩),f.v,.bool f.wr,.bool f.dn,.int .i64 f.chg,.int .i64 f.most,.int .i64 f.com,.int .i64 f.stp,f.cs] 197
theorem qJ7(v)(k:Option Int)(w)(g:w.cell? ⟨0,0,none⟩=some qE9)(h:ErrV w v k):
  Calls prog 24 #[v] w λe a=>e=.returned (.int .i64 (k.getD 0))/\Kp [] w a:=by
 cases k with
 | none=>
  have i:v=.nilIface:=h;subst i;exact (zT4 w).mono λe a ⟨c,d⟩=>⟨c,by rw[d];exact Kp.refl _ _⟩
 | some k=>
  obtain⟨F,b,rfl,f⟩:=h;exact kP7 F b k w g f
def qH7(wr dn:Bool)(k v:ByteArray):Int:=if dn then 5 else if wr=false then 6 else if qH9 k=false then 1 else if 12<v.size then 2 else 0
theorem zA9(v cs:Value)(wr j:Bool)(o t p u:Int)(k a:ByteArray)(w:World)(r:∃ b n c,v=.slice b n c):
  Calls prog 192 #[.agg #[v,.bool wr,.bool j,.int .i64 o,.int .i64 t,.int .i64 p,.int .i64 u],.string k,.string a] w λe d=>e=.returned (.int .i64 (qH7 wr j k a))/\Kp [] w d:=by
 obtain⟨b,n,c,rfl⟩:=r;have m:=zS0 k;obtain⟨s,l⟩:=eY (qH9 k);rw[l] at m;have h:=zh l;have f:=zh m;clear l m
 cases j with
 | true=>
  go_enter func192,ntmps192
  go_wp2_with (go_at_call 198;refine (f _).mono ?_;rintro e d ⟨rfl,rfl⟩)
  go_ret;exact⟨rfl,kF.alloc _⟩
 | false=>
  cases wr with
  | false=>
   go_enter func192,ntmps192
   go_wp2_with (go_at_call 198;refine (f _).mono ?_;rintro e d ⟨rfl,rfl⟩)
   go_ret;exact⟨rfl,kF.alloc _⟩
  | true=>
   cases s with
   | false=>
    go_enter func192,ntmps192
    go_wp2_with (go_at_call 198;refine (f _).mono ?_;rintro e d ⟨rfl,rfl⟩)
    go_ret;exact⟨by rw[qH7,h.out];rfl,kF.alloc _⟩
   | true=>
    by_cases g:12<a.size
    .have q:(12:Int)<(a.size:Int):=oM
     have i:=zh g;clear g;go_enter func192,ntmps192
     go_wp2_with (go_at_call 198;refine (f _).mono ?_;rintro e d ⟨rfl,rfl⟩)
     go_ret;refine⟨?_,kF.alloc _⟩;have:qH7 true false k a=2:=by simp[qH7,h.out,i.out]
     rw[this];rfl
    .have q:¬(12:Int)<(a.size:Int):=oM
     have i:=zh g;clear g;go_enter func192,ntmps192
     go_wp2_with (go_at_call 198;refine (f _).mono ?_;rintro e d ⟨rfl,rfl⟩)
     go_ret;refine⟨?_,kF.alloc _⟩;have:qH7 true false k a=0:=by simp[qH7,h.out,i.out]
     rw[this];rfl
end Go.Proofs.YtdohpenfkdckiaaGreatDoor
