import Derived.Test.YtdohpenfkdckiaaGreatDoorJ14
import Derived.Test.YtdohpenfkdckiaaGreatDoorJ15
set_option linter.all false
set_option maxRecDepth 100000
set_option maxHeartbeats 20000000
namespace Go.Proofs.YtdohpenfkdckiaaGreatDoor
open Go.Proofs.Tryz
open Go.RowKit
theorem zZ7(a f g x:Nat)(t)(w)(b:w.heap[a]?=some (.cells #[.pointer (some ⟨x,0,none⟩)] 32))(c:w.heap[x]?=some (qA5 t))(h:t.wrt=false):
  Calls prog 100 #[.pointer (some ⟨a,0,none⟩),.pointer (some ⟨f,0,none⟩),.pointer (some ⟨g,0,none⟩)] w λe i=>e=qB7 (some 6)/\i=w:=by
 have j:=ζ b;have k:=ζ c;have c0:=ϻ b 0;have d:=ξ c 2;simp only[qA5,zG,zH,zI] at d;rw[h] at d;go_enter func100,ntmps100;go_wp2;exact⟨rfl,rfl,rfl,rfl⟩
theorem zZ6(b a j x:Nat)(t)(k)(w)(d:w.heap[b]?=some (.cells #[.pointer (some ⟨x,0,none⟩)] 32))(c:w.heap[a]?=some (.cells #[.string k] 9))(g:w.heap[x]?=some (qA5 t))(l:t.wrt=true)(f:k.size<1\/8<k.size):
  Calls prog 100 #[.pointer (some ⟨b,0,none⟩),.pointer (some ⟨a,0,none⟩),.pointer (some ⟨j,0,none⟩)] w λe m=>e=qB7 (some 1)/\m=w:=by
 have o:=ζ d;have p:=ζ g;have n:=ζ c;have c0:=ϻ d 0;have q:=ϻ c 0;have h:=ξ g 2;simp only[qA5,zG,zH,zI] at h;rw[l] at h;have i:=zh f;clear f;go_enter func100,ntmps100;go_wp2_with fail;refine (xA3 k _ i).mono ?_;rintro e r ⟨rfl,rfl⟩;simp only[qB7];go_wp2;exact⟨rfl,rfl,rfl⟩
theorem jD0(g l m x f:Nat)(t)(key)(first cap)(R:HL->World->Prop)(w)(p:w.heap[g]?=some (.cells #[.pointer (some ⟨x,0,none⟩)] 32))(n:w.heap[l]?=some (.cells #[.string key] 9))(q:w.heap[m]?=some (.cells #[.func (.func f) first cap] 1))(s:w.heap[x]?=some (qA5 t))(B:t.wrt=true)(z:1<=key.size)(A:key.size<=8)(F:0<=t.ch)(G:t.ch<=1000000000)
  (I:∀ W:World,Sem.run prog (callFunc f (first++cap)) W=.ok (.enter f (first++cap)) W)
  (r:Calls prog f (first++cap) w λe b=>e=qB7 none/\∃ a,R a b/\b.heap[x]?=some (qA5 { t with h:=a })/\b.heap[g]?=some (.cells #[.pointer (some ⟨x,0,none⟩)] 32)):
  Calls prog 100 #[.pointer (some ⟨g,0,none⟩),.pointer (some ⟨l,0,none⟩),.pointer (some ⟨m,0,none⟩)] w λe b=>e=qB7 none/\∃ c a,R a c/\c.heap[x]?=some (qA5 { t with h:=a })/\b.heap[x]?=some (qA5 { t with h:=a,ch:=t.ch+1 })/\Kp [x] c b:=by
 have K:=ζ p;have N:=ζ s;have J:=ζ n;have L:=ζ q;have c0:=ϻ p 0;have C:=ϻ n 0;have y:=ϻ q 0;have j:=ξ s 2;simp only[qA5,zG,zH,zI] at j;rw[B] at j;have v:=zh r;clear r;go_enter func100,ntmps100;go_wp2_with fail;refine (zM6 key _ z A).mono ?_;rintro e c ⟨rfl,rfl⟩;simp only[qB7];go_wp2_with fail;refine (show Calls _ _ _ _ _ from v).mono ?_;rintro e c ⟨rfl,a,o,d,i⟩;have u:=zh o;clear o;clear c0 C y j;have M:=ζ d;have H:=ζ i;have k:=zh d;have c0:=ϻ i 0;have D:=ξ d 9;simp only[qA5,zG,zH,zI] at D;have E:=ψ d 9;clear d i;simp only[qB7];go_wp2
 go_end0
 exact⟨rfl,c,a,u,k,μ k 9 _,kF.sc _⟩
theorem zZ8(j:Int)(c b d x f:Nat)(t)(key)(first cap)(R:World->Prop)(w)(i:w.heap[c]?=some (.cells #[.pointer (some ⟨x,0,none⟩)] 32))(g:w.heap[b]?=some (.cells #[.string key] 9))(k:w.heap[d]?=some (.cells #[.func (.func f) first cap] 1))(m:w.heap[x]?=some (qA5 t))(s:t.wrt=true)(q:1<=key.size)(r:key.size<=8)
  (y:∀ W:World,Sem.run prog (callFunc f (first++cap)) W=.ok (.enter f (first++cap)) W)
  (l:Calls prog f (first++cap) w λe a=>e=qB7 (some j)/\R a):
  Calls prog 100 #[.pointer (some ⟨c,0,none⟩),.pointer (some ⟨b,0,none⟩),.pointer (some ⟨d,0,none⟩)] w λe a=>e=qB7 (some j)/\R a:=by
 have A:=ζ i;have C:=ζ m;have z:=ζ g;have B:=ζ k;have c0:=ϻ i 0;have D:=ϻ g 0;have v:=ϻ k 0;have n:=ξ m 2;simp only[qA5,zG,zH,zI] at n;rw[s] at n;have p:=zh l;clear l;go_enter func100,ntmps100;go_wp2_with fail;refine (zM6 key _ q r).mono ?_;rintro e u ⟨rfl,rfl⟩;simp only[qB7];go_wp2_with fail;refine (show Calls _ _ _ _ _ from p).mono ?_;rintro e u ⟨rfl,h⟩;have o:=zh h;clear h;simp only[qB7];go_wp2;exact⟨rfl,rfl,o⟩
theorem jC6(args)(W):Sem.run prog (callFunc 100 args) W=.ok (.enter 100 args) W:=by
 simp[go_sem,func100]
theorem xA1(k:Option Int)(z:k≠some 8)(x f:Nat)(t)(s)(key call)(first cap)(X)(Q:World->World->Prop)(w)(E:w.heap[x]?=some (qA5 t))(T:t.over=false)(r:w.heap[t.St]?=some (ν 0 s))(U:s.po=false)(F:x≠t.St)(y:∀ i,i∈X->i<w.heap.size)
  (C:∀ (W) (j g l:Nat),Kp [t.St] w W->w.heap.size<=j->w.heap.size<=g->w.heap.size<=l->W.heap[t.St]?=some (ν 1 s)->W.heap[j]?=some (.cells #[.pointer (some ⟨x,0,none⟩)] 32)->W.heap[g]?=some (.cells #[.string key] 9)->W.heap[l]?=some (.cells #[.func (.func f) first cap] 1)->
   Calls prog 100 #[.pointer (some ⟨j,0,none⟩),.pointer (some ⟨g,0,none⟩),.pointer (some ⟨l,0,none⟩)] W λe a=>e=qB7 k/\Q W a/\Kp (t.St::X) W a/\a.heap[t.St]?=some (ν 1 s)):
  Calls prog 61 #[.pointer (some ⟨x,0,none⟩),.string call,.string key,.func (.func f) first cap] w λe c=>∃ v,e=.returned v/\ErrV c v k/\c.heap[t.St]?=some (ν 0 s)/\Kp (t.St::X) w c/\∃ W a B,Q W a/\Kp [t.St] w W/\w.heap.size<=B/\B<W.heap.size/\a.heap[B]?=some (.cells #[.nilIface] 38)/\Kp [t.St,B] a c:=by
 have ab:=zM;have I:=zh (C)
 have J:=zh y;have H:=zh z;have K:=zh F;clear C y z F;have ad:=ζ E;have aa:=ζ r;go_enter func61,ntmps61;go_wp2_with fail;obtain⟨Y,D,R,N,M,b,ac⟩:=alE w (.cells #[ϖ x] 32) (.cells #[.string key] 9) (.cells #[.func (.func f) first cap] 1)
 rw[<-D];clear D;have V:=b.hp E;have P:=b.hp r;refine (qT4 k H x t.St 100 t s s #[] _ call X Q Y V T rfl P U K (jC6 _) (λi S=>by have:=J.out i S;omega) ?_).mono ?_
 .intro W hK O;exact I W w.heap.size (w.heap.size+1) (w.heap.size+2) ((b.mono (S':=[t.St]) sM).trans hK (λ_ h _=>h)) lR oM oM O (hK.ho R) (hK.ho N) (hK.ho M)
 rintro e d ⟨v,rfl,A,u,n,W,a,B,q,p,Z,L,m,o⟩;have G:Hid (ErrV d v k/\Ϙ d t.St (ν 0 s)/\Kp (t.St::X) w d/\∃ W a B,Q W a/\Kp [t.St] w W/\w.heap.size<=B/\B<W.heap.size/\Ϙ a B (.cells #[.nilIface] 38)/\Kp [t.St,B] a d):=
  ⟨A,u,(b.mono (S':=t.St::X) sM).trans n (λ_ h _=>h),W,a,B,q,(b.mono (S':=[t.St]) sM).trans p (λ_ h _=>h),oM,L,m,o⟩
 clear A u n q p m o;go_wp2;go_ret;exact⟨v,rfl,G⟩
structure LiveT(E:SEnv)(w:World)(x A n:Nat)(t:Tx)(s:Sto)(r:Root):Prop where
 hx:w.heap[x]?=some (qA5 t)
 over:t.over=false
 on:t.on=some ⟨E.V,0,none⟩
 hSt:w.heap[t.St]?=some (ν 0 s)
 po:s.po=false
 sV:s.V=E.V
 hV:w.heap[E.V]?=some (qE4 A n)
 n1:n≤1000
 bl0:0≤s.bl
 bl1:s.bl≤100000
 dev:E.Dev w
 vS:E.V ∉ E.S
 rr:RR E.toEnv w t.h r
 good:RGood r
 sz:r.cont.length≤70000
 ch0:0≤t.ch
 ch1:t.ch≤100000000
theorem qA1{w:World}{a b:Nat}{c d:Array Value}{t u:TypeId}{g i:Nat × Nat}(j:w.heap[a]?=some (.cells c t g))(f:w.heap[b]?=some (.cells d u i))(h:t≠u):a≠b:=λe=>by
 subst e;rw[j] at f;cases f;exact h rfl
theorem LiveT.xS{E}{w}{x A n:Nat}{t}{s}{r}(h:LiveT E w x A n t s r):x≠t.St:=qA1 h.hx h.hSt dC
theorem LiveT.devS{E}{w W}{x A n:Nat}{t}{s}{r}(h:LiveT E w x A n t s r)(hK:Kp [t.St] w W):E.Dev W:=E.keepX w W [t.St] h.dev hK (OffD.one h.hSt dC)
theorem LiveT.more{E}{w W}{x A n:Nat}{t}{s}{r}(h:LiveT E w x A n t s r)(hK:Kp [] w W):LiveT E W x A n t s r:=
 { h with hx:=hK.hp h.hx,hSt:=hK.hp h.hSt,hV:=hK.hp h.hV,dev:=E.keepX w W [] h.dev hK (λk hk=>by simp at hk),rr:=h.rr.keepT hK (Apt.nil _ _) }
structure FineT(E:SEnv)(w w':World)(x:Nat)(t:Tx)(s:Sto)(r':Root)(h':HL):Prop where
 hx:w'.heap[x]?=some (qA5 { t with h:=h',ch:=t.ch+1 })
 rr:RR E.toEnv w' h' r'
 dev:E.Dev w'
 hSt:w'.heap[t.St]?=some (ν 0 s)
 kp:Kp (t.St::x::E.S) w w'
structure BadT(E:SEnv)(w w':World)(t:Tx)(s:Sto):Prop where
 dev:E.Dev w'
 hSt:w'.heap[t.St]?=some (ν 0 s)
 kp:Kp (t.St::E.S) w w'
theorem qR0{w1}{St B:Nat}{s}{c:Int}(a:w1.heap[St]?=some (ν c s))(b:w1.heap[B]?=some (.cells #[.nilIface] 38)):OffD w1 [St,B]:=(OffD.one a dC).cons (OffD.one b dC)
theorem xV8{w1}{St B:Nat}{s}{c:Int}(a:w1.heap[St]?=some (ν c s))(b:w1.heap[B]?=some (.cells #[.nilIface] 38)):Apt w1 [St,B] qF1:=(Apt.one a dC).cons (Apt.one b dC)
theorem zZ9(E)(j:Int)(y:j≠8)(x A n f:Nat)(t)(s)(r)(key call)(first cap)(w)(a:LiveT E w x A n t s r)
  (z:∀ (W) (g d h:Nat),Kp [t.St] w W->E.Dev W->W.heap[x]?=some (qA5 t)->W.heap[t.St]?=some (ν 1 s)->W.heap[g]?=some (.cells #[.pointer (some ⟨x,0,none⟩)] 32)->W.heap[d]?=some (.cells #[.string key] 9)->W.heap[h]?=some (.cells #[.func (.func f) first cap] 1)->
   Calls prog 100 #[.pointer (some ⟨g,0,none⟩),.pointer (some ⟨d,0,none⟩),.pointer (some ⟨h,0,none⟩)] W λe b=>e=qB7 (some j)/\E.To W b):
  Calls prog 61 #[.pointer (some ⟨x,0,none⟩),.string call,.string key,.func (.func f) first cap] w λe l=>∃ v,e=.returned v/\ErrV l v (some j)/\BadT E w l t s:=by
 refine (xA1 (some j) (by simpa using y) x f t s key call first cap E.S (λW b=>E.To W b/\Ϙ b t.St (ν 1 s)) w a.hx a.over a.hSt a.po a.xS (λi hi=>E.low w a.dev i hi) ?_).mono ?_
 .intro W g d h hK _ _ _ m q p u;have C:=hK.heap a.hx (by simp;exact a.xS);have o:=a.devS hK;refine (z W g d h hK o C m q p u).mono ?_;rintro e b ⟨rfl,c⟩;have k:=E.stay o c m dC;exact⟨rfl,⟨c,k⟩,c.kp.mono (by simp +contextual),k⟩
 .rintro e l ⟨v,rfl,hv,hSt,hK,W,b,B,⟨c,k⟩,hKW,hB1,hB2,hB3,hKB⟩;exact⟨v,rfl,hv,E.keepX b l _ c.dev hKB (qR0 k hB3),hSt,hK⟩
theorem xA0(E)(x A n f:Nat)(t)(s)(r r')(key call)(first cap)(w)(a:LiveT E w x A n t s r)(S:t.wrt=true)(N:1<=key.size)(O:key.size<=8)
  (L:∀ W:World,Sem.run prog (callFunc f (first++cap)) W=.ok (.enter f (first++cap)) W)
  (R:∀ W:World,Kp [t.St] w W->E.Dev W->W.heap[x]?=some (qA5 t)->W.heap[t.St]?=some (ν 1 s)->W.heap[E.V]?=some (qE4 A n)->RR E.toEnv W t.h r->
   Calls prog f (first++cap) W λe b=>e=qB7 none/\∃ d c,E.To W d/\RR E.toEnv b c r'/\b.heap[x]?=some (qA5 { t with h:=c })/\Kp [x] d b):
  Calls prog 61 #[.pointer (some ⟨x,0,none⟩),.string call,.string key,.func (.func f) first cap] w λe y=>e=.returned .nilIface/\∃ c,FineT E w y x t s r' c:=by
 have o:=a.xS;refine (xA1 none dC x f t s key call first cap (x::E.S) (λW b=>E.Dev b/\Ϙ b t.St (ν 1 s)/\∃ c,RR E.toEnv b c r'/\Ϙ b x (qA5 { t with h:=c,ch:=t.ch+1 })) w a.hx a.over a.hSt a.po a.xS (λi hi=>by
   rcases List.mem_cons.1 hi with h|h
   .rw[h];exact ζ a.hx
   .exact E.low w a.dev i h) ?_).mono ?_
 .intro W G F H hK V _ _ z p I K;have l:=hK.heap a.hx (by simp;exact o);have m:=a.devS hK;have J:=hK.heap a.hV (by simp;exact λe=>qA1 a.hV a.hSt dC e);have P:=a.rr.keepT hK (Apt.one a.hSt dC);have U:=qA1 l p dC;have X:Apt W [x] qF1:=Apt.one l dC;refine (jD0 G F H x f t key first cap (λc b=>∃ d,E.To W d/\RR E.toEnv b c r'/\Kp [x] d b) W p I K l S N O a.ch0 (by have:=a.ch1;omega) L ?_).mono ?_
  .refine (R W hK m l z J P).mono ?_;rintro e b ⟨rfl,d,c,g,u,j,k⟩;exact⟨rfl,c,⟨d,g,u,k⟩,j,k.heap (E.stay m g p dC) (by simp;exact λe=>U e.symm)⟩
  .rintro e D ⟨rfl,b,c,⟨d,g,u,k⟩,j,hx2,hk2⟩;have T:=E.stay m g l dC;have q:=E.keepX d b [x] g.dev k (OffD.one T dC);have M:=E.keepX b D [x] q hk2 (OffD.one j dC);have C:Ϙ D t.St (ν 1 s):=hk2.heap (k.heap (E.stay m g z dC) (by simp;exact λe=>o e.symm)) (by simp;exact λe=>o e.symm);refine⟨rfl,⟨M,C,c,u.keepT hk2 (Apt.one j dC),hx2⟩,?_,C⟩;exact (((g.kp.mono (S':=t.St::x::E.S) (by simp +contextual)).trans k (by simp +contextual)).trans hk2 (by simp +contextual))
 .rintro e y ⟨v,rfl,hv,hSt,hK,W,b,B,⟨q,hS1,c,hrr1,j⟩,hKW,hB1,hB2,hB3,hKB⟩;have Q:v=.nilIface:=hv;subst Q;refine⟨rfl,c,hKB.heap j ?_,hrr1.keepT hKB (xV8 hS1 hB3),E.keepX b y _ q hKB (qR0 hS1 hB3),hSt,hK⟩;simp only[mC,lN,or_false,not_or];exact⟨o,qA1 j hB3 dC⟩
theorem zM5(args)(W):Sem.run prog (callFunc 72 args) W=.ok (.enter 72 args) W:=by
 simp[go_sem,func72]
theorem FineT.from{E}{w w0 w'}{x:Nat}{t}{s}{r'}{h'}(hK:Kp [] w w0)(h:FineT E w0 w' x t s r' h'):FineT E w w' x t s r' h':=
 { h with kp:=(hK.mono sM).trans h.kp (λ_ h _=>h) }
theorem BadT.from{E}{w w0 w'}{t}{s}(hK:Kp [] w w0)(h:BadT E w0 w' t s):BadT E w w' t s:=
 { h with kp:=(hK.mono sM).trans h.kp (λ_ h _=>h) }
def qW9(t:Tx)(p:KV)(full:Bool):Option Int:=
 if t.wrt=false then some 6 else if qH4 p.k=false then some 1 else if 12<p.v.size then some 2 else if full then some 3 else none
theorem qV9(k):qH4 k=true↔1<=k.size/\k.size<=8:=by simp[qH4]
theorem zO5{k}(h:qH4 k=false):k.size<1\/8<k.size:=by
 have:=mt (qV9 k).2 (by simp[h]);omega
theorem kB9(E)(x A n:Nat)(t)(s)(r)(p)(w)(a:LiveT E w x A n t s r)(z:t.wrt=true)(g:qC3 p)(h:((r.put p).news:Int)<=(n:Int)-2-s.bl):
  Calls prog 34 #[.pointer (some ⟨x,0,none⟩),.string p.k,.string p.v] w λe C=>e=.returned .nilIface/\∃ c,FineT E w C x t s (r.put p) c:=by
 have HL:=zh a;have k:=zh h;have b:=zh g;have I:=ζ a.hx;have F:=ζ a.hSt;clear a h g;have G:=zM;go_enter func34,ntmps34;go_wp2_with fail;obtain⟨D,i,o,l,u,f,H⟩:=alE w (.cells #[ϖ x] 32) (.cells #[.string p.k] 9) (.cells #[.string p.v] 9)
 rw[<-i];clear i;refine (xA0 E x A n 72 t s r (r.put p) p.k _ #[] #[ϖ (w.heap.size+2),ϖ w.heap.size,ϖ (w.heap.size+1)] D (HL.more f) z b.1 b.2.1 (zM5 _) ?_).mono ?_
 .intro W hK v B m q y;exact kB7 E (w.heap.size+2) w.heap.size (w.heap.size+1) x A n t s r p W ⟨hK.ho u,hK.ho o,hK.ho l,B,HL.on,m,HL.sV,q,HL.n1,HL.bl0,HL.bl1,v,HL.vS,y,HL.good,HL.sz⟩ b k
 .rintro e J ⟨rfl,c,d⟩;have j:=zh (d.from f);clear d;go_wp2;go_ret;exact⟨rfl,c,j⟩
theorem xO2(E)(x A n:Nat)(t)(s)(r)(p)(j:Int)(w)(o:LiveT E w x A n t s r)(K:qW9 t p (decide ((n:Int)-2-s.bl<((r.put p).news:Int)))=some j):
  Calls prog 34 #[.pointer (some ⟨x,0,none⟩),.string p.k,.string p.v] w λe i=>∃ v,e=.returned v/\ErrV i v (some j)/\BadT E w i t s:=by
 have HL:=zh o;have G:=zh K;have Y:=ζ o.hx;have U:=ζ o.hSt;clear o K;have V:=zM;go_enter func34,ntmps34;go_wp2_with fail;obtain⟨T,L,P,N,I,f,X⟩:=alE w (.cells #[ϖ x] 32) (.cells #[.string p.k] 9) (.cells #[.string p.v] 9)
 rw[<-L];clear L;have R:j≠8:=by
  have h:=G.out;unfold qW9 at h
  repeat' split at h
  all_goals first | (cases h;decide) | cases h
 refine (zZ9 E j R x A n 72 t s r p.k _ #[] #[ϖ (w.heap.size+2),ϖ w.heap.size,ϖ (w.heap.size+1)] T (HL.more f) ?_).mono ?_
 .intro W l k m hK u g O q C J;have h:=G.out;unfold qW9 at h;by_cases z:t.wrt=false
  .rw[if_pos z] at h;cases h;exact (zZ7 l k m x t W q g z).mono λe i ⟨a,b⟩=>⟨a,by rw[b];exact Env.To.of0 u kF⟩
  .rw[if_neg z] at h;have F:t.wrt=true:=by simpa using z
   by_cases y:qH4 p.k=false
   .rw[if_pos y] at h;cases h;exact (zZ6 l k m x t p.k W q C g F (zO5 y)).mono λe i ⟨a,b⟩=>⟨a,by rw[b];exact Env.To.of0 u kF⟩
   .rw[if_neg y] at h;have c:=(qV9 p.k).1 (by simpa using y);by_cases d:12<p.v.size
    .rw[if_pos d] at h;cases h;refine zZ8 2 l k m x 72 t p.k #[] _ (λB=>E.To W B) W q C J g F c.1 c.2 (zM5 _) ?_;exact (kB6 (w.heap.size+2) w.heap.size (w.heap.size+1) p.v W (hK.ho I) d).mono λe i ⟨a,b⟩=>⟨a,by rw[b];exact Env.To.of0 u kF⟩
    .rw[if_neg d] at h;by_cases D:(n:Int)-2-s.bl<((r.put p).news:Int)
     .rw[if_pos (by simpa using D)] at h;cases h;refine zZ8 3 l k m x 72 t p.k #[] _ (λB=>E.To W B) W q C J g F c.1 c.2 (zM5 _) ?_;have Q:=hK.heap (f.hp HL.hV) (by simp;exact λe=>qA1 HL.hV HL.hSt dC e);have S:=(HL.more f).rr.keepT hK (Apt.one (f.hp HL.hSt) dC);exact kB8 E (w.heap.size+2) w.heap.size (w.heap.size+1) x A n t s r p W ⟨hK.ho I,hK.ho P,hK.ho N,g,HL.on,O,HL.sV,Q,HL.n1,HL.bl0,HL.bl1,u,HL.vS,S,HL.good,HL.sz⟩ ⟨c.1,c.2,oM⟩ D
     .rw[if_neg (by simpa using D)] at h;cases h
 .rintro e B ⟨v,rfl,d,H⟩;have M:=zh (n2 d (H.from f));clear d H;go_wp2;go_ret;exact⟨v,rfl,M⟩
theorem xA2(x f:Nat)(t)(s)(key call)(first cap)(w)(k:w.heap[x]?=some (qA5 t))(p:t.over=true)(o:w.heap[t.St]?=some (ν 0 s))(q:s.po=false)(l:x≠t.St):
  Calls prog 61 #[.pointer (some ⟨x,0,none⟩),.string call,.string key,.func (.func f) first cap] w λe c=>∃ v,e=.returned v/\ErrV c v (some 5)/\c.heap[t.St]?=some (ν 0 s)/\Kp [t.St] w c:=by
 have r:=zM;have u:=ζ k;have n:=zh l;clear l;go_enter func61,ntmps61;go_wp2_with fail;obtain⟨a,j,b⟩:∃ a,a=((w.alloc (.cells #[ϖ x] 32)).alloc (.cells #[.string key] 9)).alloc (.cells #[.func (.func f) first cap] 1)/\Kp [] w a:=⟨_,rfl,((kF.alloc _).alloc _).alloc _⟩;rw[<-j];clear j;refine (qZ6 x t.St 100 t s #[] _ call a (b.hp k) p rfl (b.hp o) q n).mono ?_;rintro e y ⟨v,rfl,i,g,d⟩;have m:=zh (n3 i g ((b.mono sM).trans d (λ_ h _=>h)));clear i g d;go_wp2;go_ret;exact⟨v,rfl,m⟩
theorem kC1(x:Nat)(t:Tx)(s:Sto)(p:KV)(w:World)(i:w.heap[x]?=some (qA5 t))(n:t.over=true)(m:w.heap[t.St]?=some (ν 0 s))(o:s.po=false)(j:x≠t.St):
  Calls prog 34 #[.pointer (some ⟨x,0,none⟩),.string p.k,.string p.v] w λe b=>∃ v,e=.returned v/\ErrV b v (some 5)/\b.heap[t.St]?=some (ν 0 s)/\Kp [t.St] w b:=by
 have B:=ζ i;have l:=zh j;clear j;have z:=zM;go_enter func34,ntmps34;go_wp2_with fail;obtain⟨q,g,u,r,y,a,A⟩:=alE w (.cells #[ϖ x] 32) (.cells #[.string p.k] 9) (.cells #[.string p.v] 9)
 rw[<-g];clear g;refine (xA2 x 72 t s p.k _ #[] _ q (a.hp i) n (a.hp m) o l).mono ?_;rintro e C ⟨v,rfl,f,c,d⟩;have k:=zh (n3 f c ((a.mono sM).trans d (λ_ h _=>h)));clear f c d;go_wp2;go_ret;exact⟨v,rfl,k⟩
theorem jF0(E:SEnv)(u s x:Nat)(t:Tx)(r:Root)(k:ByteArray)(w:World)(I:w.heap[u]?=some (.cells #[.pointer (some ⟨x,0,none⟩)] 32))(F:w.heap[s]?=some (.cells #[.string k] 9))(i:w.heap[x]?=some (qA5 t))(M:t.on=some ⟨E.V,0,none⟩)(J:E.Dev w)(O:RR E.toEnv w t.h r)(L:RGood r)(X:r.cont.length<=70000):
  Calls prog 62 #[.pointer (some ⟨u,0,none⟩),.pointer (some ⟨s,0,none⟩)] w λe z=>e=qB7 none/\∃ l a,E.To w l/\RR E.toEnv z a (r.del k)/\z.heap[x]?=some (qA5 { t with h:=a })/\Kp [x] l z:=by
 have m:=zh J;have U:=zh O;have T:=zh L;have Z:=ζ i;clear J O L;go_enter func62,ntmps62;go_wp2_with fail;have d:=n2 I F;refine wp_region_held_drew (S:=λW=>W.heap[u]?=some (.cells #[ϖ x] 32)/\W.heap[s]?=some (.cells #[.string k] 9)) kR d (λ_=>?_);refine zV 0 (ϖ x) rfl (λW b=>by have c:=ξ b.1 0;simp at c;clear b;go_simp) d ?_;refine zV 1 (ϖ x) rfl (λW b=>by have c:=ξ b.1 0;simp at c;clear b;go_simp) d ?_;refine zP 2 x 0 d ?_;refine zP 3 x 4 d ?_;refine zV 5 (.string k) rfl (λW b=>by have c:=ξ b.2 0;simp at c;clear b;go_simp) d ?_;have j:=ξ i 4;have A:=ξ i 5;have B:=ξ i 6;have C:=ξ i 7;have D:=ξ i 8;simp only[qA5,zG,zH,zI] at j A B C D;rw[M] at j;refine zq 4 λK hK=>?_;go_simp;clear j A B C D;refine zk hK d ?_
 refine zq 6 λK hK=>?_;go_simp;have p:=(Env.To.of0 m kF).tail (kF.drew);have v:=kM4 E.toEnv r t.h k w.drew p.dev (U.to m p) T oM;rw[τ] at v;refine v.mono ?_;clear v;rintro e l ⟨a,rfl,N,H⟩;have o:=p.trans H;have f:=And.intro (E.stay m o I dC) (E.stay m o F dC);have g:=E.stay m o i dC;have Y:=ζ g;refine zk hK f ?_
 refine zP 7 x 0 f ?_;refine zP 8 x 4 f ?_;have j:=ξ g;simp only[qA5,zG,zH,zI] at j;have V:=ψ g;rw[τ];refine zq 9 λK hK=>?_;go_simp;have y:=xS5 (ϖ E.V) (.string a.key) (ϊ a.b) (.int .u64 a.s) (.pointer a.ptr) g;obtain⟨q,P,Q,n⟩:∃ q,q=((((l.setCell ⟨x,4,none⟩ (ϖ E.V)).setCell ⟨x,5,none⟩ (.string a.key)).setCell ⟨x,6,none⟩ (ϊ a.b)).setCell ⟨x,7,none⟩ (.int .u64 a.s)).setCell ⟨x,8,none⟩ (.pointer a.ptr)/\q.heap[x]?=some (qA5 { t with h:=a })/\Kp [x] l q:=⟨_,rfl,by rw[y.1,qA5,M],y.2⟩;rw[<-P];clear P y j V;have G:=And.intro (n.heap f.1 (by simp;exact qA1 f.1 g dC)) (n.heap f.2 (by simp;exact qA1 f.2 g dC));refine zk hK G ?_
 refine zd ?_;have R:=zh (n4 o (N.keepT n (Apt.one g dC)) Q n);clear G f d Q g N H o p n;go_wp2
 go_end0
 exact⟨rfl,l,a,R⟩
theorem jC7(args)(W):Sem.run prog (callFunc 62 args) W=.ok (.enter 62 args) W:=by
 simp[go_sem,func62]
def qY7(t:Tx)(k:ByteArray):Option Int:=if t.wrt=false then some 6 else if qH4 k=false then some 1 else none
theorem jF2(E)(x A n:Nat)(t)(s)(r)(k)(w)(a:LiveT E w x A n t s r)(p:t.wrt=true)(g:qH4 k=true):
  Calls prog 28 #[.pointer (some ⟨x,0,none⟩),.string k] w λe u=>e=.returned .nilIface/\∃ b,FineT E w u x t s (r.del k) b:=by
 have HL:=zh a;have c:=zh ((qV9 k).1 g);have F:=ζ a.hx;have z:=ζ a.hSt;clear a g;have C:=zM;go_enter func28,ntmps28;go_wp2_with fail;obtain⟨v,h,l,j,f,D⟩:=alC w (.cells #[ϖ x] 32) (.cells #[.string k] 9)
 rw[<-h];clear h;refine (xA0 E x A n 62 t s r (r.del k) k _ #[] #[ϖ w.heap.size,ϖ (w.heap.size+1)] v (HL.more f) p c.1 c.2 (jC7 _) ?_).mono ?_
 .intro W hK m q y B o;exact jF0 E w.heap.size (w.heap.size+1) x t r k W (hK.ho l) (hK.ho j) q HL.on m o HL.good HL.sz
 .rintro e G ⟨rfl,b,d⟩;have i:=zh (d.from f);clear d;go_wp2;go_ret;exact⟨rfl,b,i⟩
theorem jF1(E)(x A n:Nat)(t)(s)(r)(k)(j:Int)(w)(c:LiveT E w x A n t s r)(z:qY7 t k=some j):
  Calls prog 28 #[.pointer (some ⟨x,0,none⟩),.string k] w λe f=>∃ v,e=.returned v/\ErrV f v (some j)/\BadT E w f t s:=by
 have HL:=zh c;have i:=zh z;have R:=ζ c.hx;have M:=ζ c.hSt;clear c z;have P:=zM;go_enter func28,ntmps28;go_wp2_with fail;obtain⟨J,C,N,K,q,Q⟩:=alC w (.cells #[ϖ x] 32) (.cells #[.string k] 9)
 rw[<-C];clear C;have H:j≠8:=by
  have h:=i.out;unfold qY7 at h
  repeat' split at h
  all_goals first | (cases h;decide) | cases h
 refine (zZ9 E j H x A n 62 t s r k _ #[] #[ϖ w.heap.size,ϖ (w.heap.size+1)] J (HL.more q) ?_).mono ?_
 .intro W m l o hK y D L u G O;have h:=i.out;unfold qY7 at h;by_cases d:t.wrt=false
  .rw[if_pos d] at h;cases h;exact (zZ7 m l o x t W u D d).mono λe f ⟨a,b⟩=>⟨a,by rw[b];exact Env.To.of0 y kF⟩
  .rw[if_neg d] at h;have I:t.wrt=true:=by simpa using d
   by_cases g:qH4 k=false
   .rw[if_pos g] at h;cases h;exact (zZ6 m l o x t k W u G D I (zO5 g)).mono λe f ⟨a,b⟩=>⟨a,by rw[b];exact Env.To.of0 y kF⟩
   .rw[if_neg g] at h;cases h
 .rintro e S ⟨v,rfl,B,p⟩;have F:=zh (n2 B (p.from q));clear B p;go_wp2;go_ret;exact⟨v,rfl,F⟩
theorem jF6(x:Nat)(t)(s)(k)(w)(i:w.heap[x]?=some (qA5 t))(o:t.over=true)(n:w.heap[t.St]?=some (ν 0 s))(p:s.po=false)(j:x≠t.St):
  Calls prog 28 #[.pointer (some ⟨x,0,none⟩),.string k] w λe b=>∃ v,e=.returned v/\ErrV b v (some 5)/\b.heap[t.St]?=some (ν 0 s)/\Kp [t.St] w b:=by
 have A:=ζ i;have m:=zh j;clear j;have y:=zM;go_enter func28,ntmps28;go_wp2_with fail;obtain⟨q,g,u,r,a,z⟩:=alC w (.cells #[ϖ x] 32) (.cells #[.string k] 9)
 rw[<-g];clear g;refine (xA2 x 62 t s k _ #[] _ q (a.hp i) o (a.hp n) p m).mono ?_;rintro e B ⟨v,rfl,f,c,d⟩;have l:=zh (n3 f c ((a.mono sM).trans d (λ_ h _=>h)));clear f c d;go_wp2;go_ret;exact⟨v,rfl,l⟩
theorem jM2(a g h d:Nat)(k)(w)(b:w.heap[a]?=some (.cells #[.string k] 9))(c:k.size<1\/8<k.size):
  Calls prog 243 #[.pointer (some ⟨a,0,none⟩),.pointer (some ⟨g,0,none⟩),.pointer (some ⟨h,0,none⟩),.pointer (some ⟨d,0,none⟩)] w λe i=>e=qB7 (some 1)/\i=w:=by
 have j:=ζ b;have l:=ϻ b 0;have f:=zh c;clear c;go_enter func243,ntmps243;go_wp2_with fail;refine (xA3 k _ f).mono ?_;rintro e m ⟨rfl,rfl⟩;simp only[qB7];go_wp2;exact⟨rfl,rfl,rfl⟩
theorem jM3(E:SEnv)(u C b d x:Nat)(t:Tx)(r:Root)(k:ByteArray)(w:World)(A:w.heap[u]?=some (.cells #[.string k] 9))(Q:w.heap[C]?=some (.cells #[.pointer (some ⟨x,0,none⟩)] 32))(ag:w.heap[b]?=some (.cells #[.string ⟨#[]⟩] 9))(af:w.heap[d]?=some (.cells #[.bool false] 4))(X:u≠b)
  (H:w.heap[x]?=some (qA5 t)) (ah:t.on=some ⟨E.V,0,none⟩) (T:E.Dev w) (Y:RR E.toEnv w t.h r) (U:RGood r) (al:r.cont.length<=70000) (V:qH4 k=true):
  Calls prog 243 #[.pointer (some ⟨u,0,none⟩),.pointer (some ⟨C,0,none⟩),.pointer (some ⟨b,0,none⟩),.pointer (some ⟨d,0,none⟩)] w λe I=>e=qB7 none/\I.heap[b]?=some (.cells #[.string (qN0 r.cont k)] 9)/\I.heap[d]?=some (.cells #[.bool (qF7 r.cont k).isSome] 4)/\∃ s,E.To w s/\Kp [b,d] s I:=by
 have j:=zh T;have ac:=zh Y;have HG:=zh U;have HN:=zh X;have G:=(qV9 k).1 V;have am:=ζ H;have ak:=ζ A;have k0:=ϻ A 0;clear T Y U X V;go_enter func243,ntmps243;go_wp2_with fail;refine (zM6 k _ G.1 G.2).mono ?_;rintro e s ⟨rfl,rfl⟩;simp only[qB7];clear k0 G;go_wp2_with fail;have l:=n3 Q A H;refine wp_region_held_drew (S:=λW=>Ϙ W C (.cells #[ϖ x] 32)/\Ϙ W u (.cells #[.string k] 9)/\Ϙ W x (qA5 t)) kR l (λ_=>?_);refine zV 0 (ϖ x) rfl (λW a=>by have c:=ξ a.1 0;simp at c;clear a;go_simp) l ?_;refine zP 1 x 0 l ?_;refine zP 2 x 4 l ?_;refine zV 3 (τ E.V t.h) rfl (λW a=>by have a0:=ξ a.2.2 4;have a1:=ξ a.2.2 5;have a2:=ξ a.2.2 6;have a3:=ξ a.2.2 7;have a4:=ξ a.2.2 8;simp only[qA5,ah,zG,zH,zI] at a0 a1 a2 a3 a4;clear a;rw[τ];go_simp) l ?_;refine zV 4 (.string k) rfl (λW a=>by have c:=ξ a.2.1 0;simp at c;clear a;go_simp) l ?_;refine zq 5 λK hK=>?_;go_simp;have B:=(Env.To.of0 j kF).tail (kF.drew);refine (qZ5 E.toEnv r t.h k s.drew B.dev (ac.to j B) HG oM).mono ?_;rintro e J ⟨rfl,P⟩;have m:=B.trans P;have f:=And.intro (E.stay j m Q dC) (And.intro (E.stay j m A dC) (E.stay j m H dC));have g:=E.stay j m ag dC;have z:=E.stay j m af dC;refine zk hK f ?_
 obtain⟨y,F⟩:=eY (qN0 r.cont k);obtain⟨v,D⟩:=eY ((qF7 r.cont k).isSome);rw[F,D];have L:=zh (n2 F D);clear F D;refine zU 6 (.tuple #[.string y,.bool v]) f ?_;refine zU 7 (.string y) f ?_;refine zU 8 (.bool v) f ?_;have aj:=ζ g;have v0:=ϻ g 0;have ae:=ψ g 0;refine zq 9 λK hK=>?_;go_simp;obtain⟨q,Z,R,o⟩:∃ q,q=J.setCell ⟨b,0,none⟩ (.string y)/\Ϙ q b (.cells #[.string y] 9)/\Kp [b] J q:=⟨_,rfl,μ g 0 _,kF.sc _⟩;rw[<-Z];clear Z v0 ae;have i:=And.intro (o.heap f.1 (by simp;exact qA1 f.1 g dC)) (And.intro (o.heap f.2.1 (by simp;exact HN)) (o.heap f.2.2 (by simp;exact qA1 f.2.2 g dC)));have h:=o.heap z (by simp;exact qA1 z g dC);have N:=qA1 g z dC;have ab:=zh N;clear N;refine zk hK i ?_
 have ai:=ζ h;have b0:=ϻ h 0;have ad:=ψ h 0;refine zq 10 λK hK=>?_;go_simp;obtain⟨n,aa,M,p⟩:∃ n,n=q.setCell ⟨d,0,none⟩ (.bool v)/\Ϙ n d (.cells #[.bool v] 4)/\Kp [d] q n:=⟨_,rfl,μ h 0 _,kF.sc _⟩;rw[<-aa];clear aa b0 ad;have O:=And.intro (p.heap i.1 (by simp;exact qA1 i.1 h dC)) (And.intro (p.heap i.2.1 (by simp;exact qA1 i.2.1 h dC)) (p.heap i.2.2 (by simp;exact qA1 i.2.2 h dC)));refine zk hK O ?_
 refine zd ?_;have HF:Hid (Ϙ n b (.cells #[.string (qN0 r.cont k)] 9)/\Ϙ n d (.cells #[.bool (qF7 r.cont k).isSome] 4)/\∃ w0,E.To s w0/\Kp [b,d] w0 n):=by
  refine⟨?_,?_,J,m,(o.mono (S':=[b,d]) (by simp +contextual)).trans p (by simp +contextual)⟩
  .rw[L.out.1];exact p.heap R (by simp;exact ab)
  .rw[L.out.2];exact M
 clear O i f l R g M h z o p P m B;go_wp2
 go_end0
 exact⟨rfl,HF⟩
theorem zZ4(args)(W):Sem.run prog (callFunc 243 args) W=.ok (.enter 243 args) W:=by
 simp[go_sem,func243]
theorem kM6(E)(x A n:Nat)(t)(s)(r)(k)(w)(j:LiveT E w x A n t s r)(o:qH4 k=true):
  Calls prog 197 #[.pointer (some ⟨x,0,none⟩),.string k] w λe V=>e=.returned (.tuple #[.string (qN0 r.cont k),.bool (qF7 r.cont k).isSome,.nilIface])/\BadT E w V t s:=by
 have HL:=zh j;have M:=zh o;have ae:=ζ j.hx;have Q:=ζ j.hSt;clear j o;have ab:=zM;go_enter func197,ntmps197;go_wp2_with fail;obtain⟨L,K,H,F,J,D,u,ad⟩:=alG w (.cells #[ϖ x] 32) (.cells #[.string k] 9) (.cells #[.string ⟨#[]⟩] 9) (.cells #[.bool false] 4)
 rw[<-K];clear K;have a:=HL.out.more u;refine (qT4 none dC x t.St 243 t s s #[] #[ϖ (w.heap.size+1),ϖ w.heap.size,ϖ (w.heap.size+1+1),ϖ (w.heap.size+1+1+1)] _ ((w.heap.size+1+1)::(w.heap.size+1+1+1)::E.S) (λW b=>E.Dev b/\Ϙ b t.St (ν 1 s)/\b.heap[w.heap.size+1+1]?=some (.cells #[.string (qN0 r.cont k)] 9)/\b.heap[w.heap.size+1+1+1]?=some (.cells #[.bool (qF7 r.cont k).isSome] 4)) L a.hx a.over rfl a.hSt a.po a.xS (zZ4 _) (λi c=>by
  simp only[mC] at c;rcases c with h|h|h
  .omega
  .omega
  .exact E.low L a.dev i h) ?_).mono ?_
 .intro W hK P;have m:=a.devS hK;have I:=hK.ho J;have C:=hK.ho D;refine (jM3 E (w.heap.size+1) w.heap.size (w.heap.size+1+1) (w.heap.size+1+1+1) x t r k W (hK.ho F) (hK.ho H) I C oM (hK.heap a.hx (by simp;exact a.xS)) a.on m (a.rr.keepT hK (Apt.one a.hSt dC)) a.good a.sz M).mono ?_;rintro e f ⟨rfl,R,S,b,d,q⟩;have G:Ϙ f t.St (ν 1 s):=q.heap (E.stay m d P dC) sO;have T:=(OffD.one (E.stay m d I dC) dC).cons (OffD.one (E.stay m d C dC) dC);exact⟨rfl,⟨E.keepX b f _ d.dev q T,G,R,S⟩,(d.kp.mono (S':=t.St::(w.heap.size+1+1)::(w.heap.size+1+1+1)::E.S) (by simp +contextual)).trans q (by intro i c _;simp at c |-;omega),G⟩
 rintro e f ⟨v,rfl,hv,hSt2,hK2,W,b,Bb,⟨hd1,hS1,hV1,hB1⟩,hKW,hb1,hb2,hb3,hKB⟩;have U:v=.nilIface:=hv;subst U;have ac:=Q;have l:=hKB.ho hV1;have g:=hKB.ho hB1;have p:Hid (BadT E w f t s):=⟨E.keepX b f _ hd1 hKB (qR0 hS1 hb3),hSt2,(u.mono (S':=t.St::E.S) sM).trans hK2 (by intro i c aa;simp at c |-;rcases c with h | h | h | h;simp[h];omega;omega;simp[h])⟩;clear hv hSt2 hK2 hd1 hS1 hV1 hB1 hKW hb3 hKB a H F J D u;obtain⟨O,z⟩:=eY (qN0 r.cont k);obtain⟨N,y⟩:=eY ((qF7 r.cont k).isSome);rw[z] at l;rw[y] at g;have B:=zh (n2 z y);clear z y;have Z:=ζ l;have Y:=ζ g;have v0:=ϻ l 0;have X:=ϻ g 0;clear l g;go_wp2_with fail
 go_quiet (fail)
 go_wp2;refine bodyPost_ret (v:=.tuple #[.string O,.bool N,.nilIface]) (by simp[results,results197,go_sem]) rfl ?_;exact⟨by rw[B.out.1,B.out.2],{ p with dev:=E.keepX _ _ [] p.dev ((Kp.refl [] _).drewN _) (λk o=>by simp at o),kp:=p.out.kp.drewN _ }⟩
theorem kM7(E)(x A n:Nat)(t)(s)(r)(k)(w)(d:LiveT E w x A n t s r)(f:qH4 k=false):
  Calls prog 197 #[.pointer (some ⟨x,0,none⟩),.string k] w λe z=>∃ v,e=.returned (.tuple #[.string ⟨#[]⟩,.bool false,v])/\ErrV z v (some 1)/\BadT E w z t s:=by
 have HL:=zh d;have B:=zh f;have M:=ζ d.hx;have H:=ζ d.hSt;clear d f;have K:=zM;go_enter func197,ntmps197;go_wp2_with fail;obtain⟨D,y,C,o,q,m,h,L⟩:=alG w (.cells #[ϖ x] 32) (.cells #[.string k] 9) (.cells #[.string ⟨#[]⟩] 9) (.cells #[.bool false] 4)
 rw[<-y];clear y;have a:=HL.out.more h;refine (qT4 (some 1) dC x t.St 243 t s s #[] #[ϖ (w.heap.size+1),ϖ w.heap.size,ϖ (w.heap.size+1+1),ϖ (w.heap.size+1+1+1)] _ [] (λW b=>E.Dev b/\Ϙ b t.St (ν 1 s)) D a.hx a.over rfl a.hSt a.po a.xS (zZ4 _) sM ?_).mono ?_
 .intro W hK p;refine (jM2 (w.heap.size+1) w.heap.size (w.heap.size+1+1) (w.heap.size+1+1+1) k W (hK.ho o) (zO5 B)).mono ?_;rintro e b ⟨rfl,rfl⟩;exact⟨rfl,⟨a.devS hK,p⟩,Kp.refl _ _,p⟩
 rintro e l ⟨v,rfl,hv,hSt2,hK2,W,b,Bb,⟨hd1,hS1⟩,hKW,hb1,hb2,hb3,hKB⟩;have j:=hK2.ho q;have g:=hK2.ho m;have c:Hid (ErrV l v (some 1)/\BadT E w l t s):=⟨hv,E.keepX b l _ hd1 hKB (qR0 hS1 hb3),hSt2,(h.mono (S':=t.St::E.S) sM).trans hK2 (by intro i u J;simp at u |-;simp[u])⟩;clear hv hSt2 hK2 hd1 hS1 hKW hb3 hKB a C o q m h;have I:=ζ j;have G:=ζ g;have N:=ϻ j 0;have F:=ϻ g 0;clear j g;go_wp2_with fail
 go_quiet (fail)
 go_wp2;refine bodyPost_ret (v:=.tuple #[.string ⟨#[]⟩,.bool false,v]) (by simp[results,results197,go_sem]) rfl ?_;exact⟨v,rfl,c.1,{ c.2 with dev:=E.keepX _ _ [] c.2.dev ((Kp.refl [] _).drewN _) (λk f=>by simp at f),kp:=c.out.2.kp.drewN _ }⟩
theorem kM8(x:Nat)(t)(s)(k)(w)(p:w.heap[x]?=some (qA5 t))(z:t.over=true)(j:w.heap[t.St]?=some (ν 0 s))(A:s.po=false)(q:x≠t.St):
  Calls prog 197 #[.pointer (some ⟨x,0,none⟩),.string k] w λe g=>∃ v,e=.returned (.tuple #[.string ⟨#[]⟩,.bool false,v])/\ErrV g v (some 5)/\g.heap[t.St]?=some (ν 0 s)/\Kp [t.St] w g:=by
 have I:=ζ p;have E:=ζ j;have r:=zh q;clear q;have G:=zM;go_enter func197,ntmps197;go_wp2_with fail;obtain⟨B,o,y,u,m,i,b,H⟩:=alG w (.cells #[ϖ x] 32) (.cells #[.string k] 9) (.cells #[.string ⟨#[]⟩] 9) (.cells #[.bool false] 4)
 rw[<-o];clear o;refine (qZ6 x t.St 243 t s #[] _ _ B (b.hp p) z rfl (b.hp j) A r).mono ?_;rintro e K ⟨v,rfl,n,l,a⟩;have f:=a.ho m;have d:=a.ho i;have c:=zh (n3 n l ((b.mono sM).trans a (λ_ h _=>h)));clear n l a y u m i b;have F:=ζ f;have D:=ζ d;have J:=ϻ f 0;have C:=ϻ d 0;clear f d;go_wp2_with fail
 go_quiet (fail)
 go_wp2;refine bodyPost_ret (v:=.tuple #[.string ⟨#[]⟩,.bool false,v]) (by simp[results,results197,go_sem]) rfl ?_;exact⟨v,rfl,c.1,c.2.1,c.2.2.drewN _⟩
def qP3(on:Option Addr)(h:HL):Obj:=.cells #[.pointer on,.string h.key,.int .i64 h.b,.int .u64 h.s,.pointer h.ptr] 89
def pkv:Option KV→KV
 | none=>⟨⟨#[]⟩,⟨#[]⟩⟩
 | some p=>p
theorem jL3(o:Option KV):qI1 o=.tuple #[.agg #[.string (pkv o).k,.string (pkv o).v],.bool o.isSome]:=by
 cases o<;>rfl
theorem xU7(B b x:Nat)(t)(w)(c:w.heap[B]?=some (.cells #[.pointer (some ⟨x,0,none⟩)] 32))(a:w.heap[b]?=some (qP3 none ⟨⟨#[]⟩,0,0,none⟩))(d:w.heap[x]?=some (qA5 t)):
  Calls prog 177 #[.pointer (some ⟨B,0,none⟩),.pointer (some ⟨b,0,none⟩)] w λe f=>e=qB7 none/\f.heap[b]?=some (qP3 t.on t.h)/\Kp [b] w f:=by
 have o:=ζ c;have q:=ζ d;have p:=ζ a;have n:=ϻ c 0;have h:=ξ d;simp only[qA5,zG,zH,zI] at h;have i:=ξ a 0;have j:=ξ a 1;have k:=ξ a 2;have l:=ξ a 3;have m:=ξ a 4;simp only[qP3,zG,zH,zI] at i j k l m;have r:=ψ a;have g:=zh a;clear a d c;go_enter func177,ntmps177;go_wp2
 go_end0
 exact⟨rfl,μ (μ (μ (μ (μ g 0 _) 1 _) 2 _) 3 _) 4 _,(((((Kp.refl [b] w).sc _).sc _).sc _).sc _).sc _⟩
theorem xU8(a:Nat)(lo k)(w)(b:w.heap[a]?=some (.cells #[.string lo] 9)):
  Calls prog 178 #[.string k,.pointer (some ⟨a,0,none⟩)] w λe c=>e=.returned (.bool !kl k lo)/\Kp [] w c:=by
 have d:=ζ b;have f:=ϻ b 0;go_enter func178,ntmps178;go_wp2;go_ret;exact⟨rfl,Kp.refl _ _⟩
theorem jR1(a b):(!Op.bytesLess a.toList b.toList && !(a.toList == b.toList))=kl b a:=by rw[<-Bool.not_or,xG4];simp
theorem xV0(a:Nat)(p k v)(w)(b:w.heap[a]?=some (.cells #[.string p,.string v] 42)):
  Calls prog 180 #[.string k,.pointer (some ⟨a,0,none⟩)] w λe c=>e=.returned (.bool (kl p k))/\Kp [] w c:=by
 have d:=ζ b;have f:=ϻ b 0;go_enter func180,ntmps180;go_wp2;go_ret;exact⟨by rw[<-jR1];rfl,Kp.refl _ _⟩
theorem xU9(E:SEnv)(C B d Tx g:Nat)(cap:Array Value)(f:ByteArray->Bool)(h:HL)(r:Root)(w:World)(a:w.heap[C]?=some (qP3 (some ⟨E.V,0,none⟩) h))(v:w.heap[B]?=some (.cells #[.func (.func g) #[] cap] 92))
  (F:w.heap[d]?=some (.cells #[.string ⟨#[]⟩,.string ⟨#[]⟩] 42)) (G:w.heap[Tx]?=some (.cells #[.bool false] 4)) (x:E.Dev w) (J:RR E.toEnv w h r) (I:RGood r) (K:Up f) (H:Asks E.toEnv w g cap f)
  (T:∀ (args:Array Value) (W:World),Sem.run prog (callFunc g args) W=.ok (.enter g args) W):
  Calls prog 179 #[.pointer (some ⟨C,0,none⟩),.pointer (some ⟨B,0,none⟩),.pointer (some ⟨d,0,none⟩),.pointer (some ⟨Tx,0,none⟩)] w λe j=>e=qB7 none/\j.heap[d]?=some (.cells #[.string (pkv (r.cont.find? λq=>f q.k)).k,.string (pkv (r.cont.find? λq=>f q.k)).v] 42)/\j.heap[Tx]?=some (.cells #[.bool (r.cont.find? λq=>f q.k).isSome] 4)/\∃ s,E.To w s/\Kp [d,Tx] s j:=by
 have aa:=ζ a;have Y:=ζ v;have L:=ξ a 0;have M:=ξ a 1;have N:=ξ a 2;have O:=ξ a 3;have P:=ξ a 4;simp only[qP3,zG,zH,zI] at L M N O P;have U:=ϻ v 0;have z:=zh x;have Q:Hid (Ω 49 #[.agg (ϟ E.V h),.func (.func g) #[] cap] w λe j=>e=ϱ (qI1 (r.cont.find? λq=>f q.k))/\E.To w j):=kM5 E.toEnv r h g cap f w x J I K H T;have R:=zh F;have S:=zh G;clear x J I K H a v F G;go_enter func179,ntmps179;go_wp2_with fail;refine (show Calls _ _ _ _ _ from Q).mono ?_;rintro e s ⟨rfl,l⟩;rw[jL3];obtain⟨o,y⟩:∃ o,(r.cont.find? λq=>f q.k)=o:=⟨_,rfl⟩;rw[y];obtain⟨t,u,D,i⟩:∃ t u D,(pkv o).k=t/\(pkv o).v=u/\o.isSome=D:=⟨_,_,_,rfl,rfl,rfl⟩;have c:=zh (n2 y i);rw[i.1,i.2.1,i.2.2];clear y i L M N O P U;have b:=E.stay z l R dC;have n:=E.stay z l S dC;have Z:=ζ b;have ab:=ζ n;have A:=zh (qA1 n b dC);have p:=qR6 (.string t) (.string u) b;have m:=p.2.heap n (by simp;exact A);have p0:=ξ b;have V:=ψ b;have t0:=ϻ m 0;have X:=ψ m 0;have k:=zh (n4 l p.1 m p.2);clear l p m b n;go_wp2
 go_end0
 refine⟨rfl,?_,?_,s,k.1,(k.2.2.2.mono (S':=[d,Tx]) (by simp +contextual)).sc _⟩
 .rw[c.out.1,c.out.2.1,c.out.2.2.1];exact (qB2 (λe=>A e.symm) _ _).trans k.2.1
 .rw[c.out.1,c.out.2.2.2];exact μ k.2.2.1 0 _
theorem jC2(args)(W):Sem.run prog (callFunc 177 args) W=.ok (.enter 177 args) W:=by
 simp[go_sem,func177]
theorem jC3(args)(W):Sem.run prog (callFunc 178 args) W=.ok (.enter 178 args) W:=by
 simp[go_sem,func178]
theorem jC4(args)(W):Sem.run prog (callFunc 179 args) W=.ok (.enter 179 args) W:=by
 simp[go_sem,func179]
theorem jC5(args)(W):Sem.run prog (callFunc 180 args) W=.ok (.enter 180 args) W:=by
 simp[go_sem,func180]
theorem zZ2(args)(W):Sem.run prog (callFunc 176 args) W=.ok (.enter 176 args) W:=by
 simp[go_sem,func176]
theorem zW2(x:Nat)(lo hi)(w):
  Calls prog 116 #[.pointer (some ⟨x,0,none⟩),.string lo,.string hi] w λe a=>e=.returned (.func (.func 176) #[] #[.pointer (some ⟨w.heap.size,0,none⟩),.pointer (some ⟨w.heap.size+1,0,none⟩),.pointer (some ⟨w.heap.size+2,0,none⟩)])/\
   a.heap[w.heap.size]?=some (.cells #[.pointer (some ⟨x,0,none⟩)] 32)/\a.heap[w.heap.size+1]?=some (.cells #[.string lo] 9)/\a.heap[w.heap.size+2]?=some (.cells #[.string hi] 9)/\Kp [] w a:=by
 have b:=zM;go_enter func116,ntmps116;go_wp2;go_ret;refine⟨rfl,ρ _ (ρ _ (υ _ _)),ρ _ ?_,?_,((kF.alloc _).alloc _).alloc _⟩
 .have e:=υ (w.alloc (.cells #[ϖ x] 32)) (.cells #[.string lo] 9);simpa using e
 .have e:=υ ((w.alloc (.cells #[ϖ x] 32)).alloc (.cells #[.string lo] 9)) (.cells #[.string hi] 9);simpa using e
end Go.Proofs.YtdohpenfkdckiaaGreatDoor
namespace Go.Proofs.YtdohpenfkdckiaaGreatDoor.Gw
open Go.Proofs.Tryz
open Go.RowKit
open Go.ChangeMaps
structure TK where
 over:Bool
 wrt:Bool
 nr:Int
def cnt(wr:Bool)(ks:List TK):Nat:=ks.countP fun k=>!k.over && (k.wrt == wr)
structure Books(s:Sto)(D:DataW Unit)(ks:List TK):Prop where
 size:Maps.size D=cnt false ks
 keys:∀ m,Maps.has D (ι m)=true↔∃ (j:Nat) (k:TK),ks[j]?=some k∧k.over=false∧k.wrt=false∧k.nr=m
 wrs:∀ (j:Nat) (k:TK),ks[j]?=some k→k.over=false→k.wrt=true→k.nr=s.wr
 wr1:s.wr≠0→∃ (j:Nat) (k:TK),ks[j]?=some k∧k.over=false∧k.wrt=true∧k.nr=s.wr
 nrs:∀ (j:Nat) (k:TK),ks[j]?=some k→1≤k.nr∧k.nr≤s.bg
 four:Maps.size D≤4
 dist:∀ (a b:Nat) (ka kb:TK),ks[a]?=some ka→ks[b]?=some kb→ka.nr=kb.nr→a=b
theorem zG3{a b:Int}(h:ι a=ι b):a=b:=by
 simp only[ι] at h;cases h;rfl
theorem xG1(a:Int):WideAt.IsKeyLit (ι a):=by
 simp[ι,WideAt.IsKeyLit]
theorem Books.none{s}{D}(c:Maps.size D=0)(d:∀ m,Maps.has D (ι m)=false)(e:s.wr=0):Books s D []:=
 ⟨by rw[c];rfl,λm=>by simp[d m],λj k h=>by simp at h,λh=>absurd e h,λj k h=>by simp at h,oM,λa b ka kb h=>by simp at h⟩
theorem qQ4{ks:List TK}{x k:TK}{j:Nat}(h:(ks++[x])[j]?=some k):ks[j]?=some k\/(j=ks.length/\k=x):=by
 rcases Nat.lt_or_ge j ks.length with a|a
 .rw[List.getElem?_append_left a] at h;exact .inl h
 .rw[List.getElem?_append_right a] at h;have:j-ks.length=0:=by
   rcases Nat.eq_zero_or_pos (j-ks.length) with b|b
   .exact b
   .rw[gN sO] at h;cases h
  rw[this] at h;simp at h;exact .inr ⟨oM,h.symm⟩
theorem zL6{ks:List TK}{x k:TK}{j:Nat}(h:ks[j]?=some k):(ks++[x])[j]?=some k:=by
 have:j<ks.length:=by
  rcases Nat.lt_or_ge j ks.length with a|a
  .exact a
  .rw[gN a] at h;cases h
 rw[List.getElem?_append_left this];exact h
theorem zX0{ks:List TK}{k:TK}{j:Nat}(h:ks[j]?=some k):j<ks.length:=by
 rcases Nat.lt_or_ge j ks.length with a|a
 .exact a
 .rw[gN a] at h;cases h
theorem Books.nw{s}{D}{ks:List TK}(h:Books s D ks)(c:s.wr=0){j:Nat}{k:TK}(a:ks[j]?=some k)(b:k.over=false):k.wrt=false:=by
 cases hw:k.wrt with
 | false=>rfl
 | true=>
  have:=h.wrs j k a b hw;have:=(h.nrs j k a).1;omega
theorem Books.born_write{s}{D}{ks:List TK}(h:Books s D ks)(n:s.wr=0)(r:0<=s.bg):Books s.wrote D (ks++[⟨false,true,s.bg+1⟩]):=by
 refine⟨?_,λm=>?_,λj k c ho hw=>?_,λ_=>?_,λj k c=>?_,h.four,λa b ka kb f hb' e=>?_⟩
 .rw[h.size,cnt,cnt,List.countP_append];simp[List.countP_cons]
 .rw[h.keys m];constructor
  .rintro⟨j,k,d,g⟩;exact⟨j,k,zL6 d,g⟩
  .rintro⟨j,k,d,g,i,o⟩;rcases qQ4 d with d|⟨_,rfl⟩
   .exact⟨j,k,d,g,i,o⟩
   .cases i
 .rcases qQ4 c with c|⟨_,rfl⟩
  .have:=h.nw n c ho;rw[hw] at this;cases this
  .rfl
 .exact⟨ks.length,⟨false,true,s.bg+1⟩,sM,rfl,rfl,rfl⟩
 .rcases qQ4 c with c|⟨_,rfl⟩
  .have:=h.nrs j k c;exact⟨this.1,by show k.nr<=s.bg+1;omega⟩
  .exact⟨by show 1<=s.bg+1;omega,iR _⟩
 .rcases qQ4 f with f|⟨p,rfl⟩<;>rcases qQ4 hb' with l|⟨q,rfl⟩
  .exact h.dist a b ka kb f l e
  .have:=(h.nrs a ka f).2;simp only at e;omega
  .have:=(h.nrs b kb l).2;simp only at e;omega
  .omega
theorem Books.born_read{s}{D d}{ks:List TK}(h:Books s D ks)(n:Maps.Tidy D)(x:0<=s.bg)(i:Maps.size D<4):Books s.read (D.put (ι (s.bg+1)) d) (ks++[⟨false,false,s.bg+1⟩]):=by
 have p:Maps.has D (ι (s.bg+1))=false:=by
  cases hh:Maps.has D (ι (s.bg+1)) with
  | false=>rfl
  | true=>
   obtain⟨j,k,c,_,_,i⟩:=(h.keys _).1 hh;have:=(h.nrs j k c).2;omega
 refine⟨?_,λm=>?_,λj k f ho hw=>?_,λhw=>?_,λj k f=>?_,by rw[Maps.size_put n,p,if_neg sM];omega,λa b q r l u e=>?_⟩
 .rw[Maps.size_put n,p,if_neg sM,h.size,cnt,cnt,List.countP_append];simp[List.countP_cons]
 .by_cases e:m=s.bg+1
  .subst e;rw[Maps.has_put_same n.isMap (xG1 _)];simp only[true_iff];exact⟨ks.length,⟨false,false,s.bg+1⟩,sM,rfl,rfl,rfl⟩
  .rw[Maps.has_put_other (λh=>e (zG3 h)),h.keys m];constructor
   .rintro⟨j,k,c,g⟩;exact⟨j,k,zL6 c,g⟩
   .rintro⟨j,k,c,g,t,i⟩;rcases qQ4 c with c|⟨_,rfl⟩
    .exact⟨j,k,c,g,t,i⟩
    .exact absurd i.symm e
 .rcases qQ4 f with f|⟨_,rfl⟩
  .exact h.wrs j k f ho hw
  .cases hw
 .obtain⟨j,k,c,g⟩:=h.wr1 hw;exact⟨j,k,zL6 c,g⟩
 .rcases qQ4 f with f|⟨_,rfl⟩
  .have:=h.nrs j k f;exact⟨this.1,by show k.nr<=s.bg+1;omega⟩
  .exact⟨by show 1<=s.bg+1;omega,iR _⟩
 .rcases qQ4 l with l|⟨v,rfl⟩<;>rcases qQ4 u with o|⟨w,rfl⟩
  .exact h.dist a b q r l o e
  .have:=(h.nrs a q l).2;simp only at e;omega
  .have:=(h.nrs b r o).2;simp only at e;omega
  .omega
theorem Books.left{s}{D}{ks:List TK}(h:Books s D ks)(F:Maps.Tidy D){i:Nat}{k:TK}(f:ks[i]?=some k)(E:k.over=false):Books (s.left k.nr) (D.del (ι k.nr)) (ks.set i ⟨true,k.wrt,k.nr⟩):=by
 have u:=zX0 f;have J:ks[i]=k:=by rw[gQ u] at f;exact Option.some.inj f
 have p:∀ j x,(ks.set i ⟨true,k.wrt,k.nr⟩)[j]?=some x->(j≠i/\ks[j]?=some x)\/(j=i/\x=⟨true,k.wrt,k.nr⟩):=λj x d=>by
  rw[List.getElem?_set] at d;split at d
  .rename_i e;subst e;simp[u] at d;exact .inr ⟨rfl,d.symm⟩
  .rename_i e;exact .inl ⟨λh=>e h.symm,d⟩
 have C:∀ j x,j≠i->ks[j]?=some x->(ks.set i ⟨true,k.wrt,k.nr⟩)[j]?=some x:=λj x q d=>by
  rw[List.getElem?_set_ne (λe=>q e.symm)];exact d
 refine⟨?_,λm=>?_,λj x d ho' hw=>?_,λhw=>?_,λj x d=>?_,by have o:=Maps.size_del (k:=ι k.nr) F;have:=h.four;omega,λa b v w G H e=>?_⟩
 .have o:=Maps.size_del (k:=ι k.nr) F;rw[h.size] at o;have I:cnt false (ks.set i ⟨true,k.wrt,k.nr⟩)=cnt false ks-(if k.wrt=false then 1 else 0):=by
   rw[cnt,List.countP_set u,J,cnt];cases hw:k.wrt<;>simp[E,hw]
  rw[I]
  cases hw:k.wrt with
  | false=>
   have:Maps.has D (ι k.nr)=true:=(h.keys _).2 ⟨i,k,f,E,hw,rfl⟩;rw[this] at o;simp at o |-;omega
  | true=>
   have:Maps.has D (ι k.nr)=false:=by
    cases hh:Maps.has D (ι k.nr) with
    | false=>rfl
    | true=>
     obtain⟨j,x,c,_,n,g⟩:=(h.keys _).1 hh;have:=h.dist j i x k c f g;subst this;rw[f] at c;cases c;rw[hw] at n;cases n
   rw[this] at o;simp at o |-;omega
 .by_cases e:m=k.nr
  .subst e;rw[Maps.has_del_same];simp only[Bool.false_eq_true,false_iff];rintro⟨j,x,c,l,n,g⟩;rcases p j x c with⟨q,c⟩|⟨_,rfl⟩
   .exact q (h.dist j i x k c f g)
   .cases l
  .rw[Maps.has_del_other (λh=>e (zG3 h)),h.keys m];constructor
   .rintro⟨j,x,c,l,n,g⟩;refine⟨j,x,C j x (λt=>?_) c,l,n,g⟩;subst t;rw[f] at c;cases c;exact e g.symm
   .rintro⟨j,x,c,l,n,g⟩;rcases p j x c with⟨_,c⟩|⟨_,rfl⟩
    .exact⟨j,x,c,l,n,g⟩
    .cases l
 .rcases p j x d with⟨q,d⟩|⟨_,rfl⟩
  .have:=h.wrs j x d ho' hw;show x.nr=(s.left k.nr).wr;have r:k.nr≠s.wr:=λe=>q (h.dist j i x k d f (by rw[this,e]));rw[Sto.left];simp only[if_neg r];exact this
  .cases ho'
 .have r:k.nr≠s.wr:=λe=>by
   apply hw;simp[Sto.left,e]
  have K:s.wr≠0:=λe=>by
   apply hw;simp[Sto.left,r,e]
  obtain⟨j,x,c,l,n,g⟩:=h.wr1 K;refine⟨j,x,C j x (λt=>?_) c,l,n,?_⟩
  .subst t;rw[f] at c;cases c;exact r g
  .simp only[Sto.left,if_neg r];exact g
 .rcases p j x d with⟨_,d⟩|⟨_,rfl⟩
  .exact h.nrs j x d
  .exact h.nrs i k f
 .rcases p a v G with⟨c,A⟩|⟨y,rfl⟩<;>rcases p b w H with⟨l,B⟩|⟨z,rfl⟩
  .exact h.dist a b v w A B e
  .subst z;exact h.dist a b v k A f e
  .subst y;exact h.dist a b k w f B e
  .rw[y,z]
theorem Books.busyW{s}{D}{ks:List TK}(h:Books s D ks):s.wr=0↔cnt true ks=0:=by
 rw[cnt,List.countP_eq_zero];constructor
 .intro a k i;obtain⟨j,g,rfl⟩:=gO i;have:=λb=>h.nw a (gQ g) b;cases b:ks[j].over<;>simp[b] at this |-;simp[this]
 .intro f;rcases Decidable.em (s.wr=0) with a|a
  .exact a
  .obtain⟨j,k,c,d,e,l⟩:=h.wr1 a;have:=f k (mO c);simp[d,e] at this
end Go.Proofs.YtdohpenfkdckiaaGreatDoor.Gw
namespace Go.Proofs.YtdohpenfkdckiaaGreatDoor
open Go.Proofs.Tryz
open Go.RowKit
variable {κ:Nat}
theorem jI1(V A n C:Nat)(r z:Int)(i:Nat)(l)(N a rs:Int)(w)(hV:w.heap[V]?=some (qE4 A n))(h:w.heap[A]?=some (qA6 κ n C (.slice none 0 0) r z))
  (hi:i<n) (hn:n<=1000) (hC:w.heap[C]?=some (.cells (enc l) 115)) (hs:n*128<=l.length) (a3:C≠A) (a6:V≠A)
  (hN:qG6 (qE3 (((ω l i).drop 8).take 8))=N) (ax:qG6 (qE3 (((ω l i).drop 6).take 2))=a) (ay:qG6 (qE3 (((ω l i).drop 16).take 8))=rs)
  (P:0<=N) (ba:0<=a) (bb:a<=65535) (bc:0<=rs) (q:Bool) (T:q=(decide (N % 2=(i:Int)) && (toB (qG9 N a rs) == (ω l i).take 32))):
  Calls prog 205 #[.pointer (some ⟨V,0,none⟩),.int .i64 i] w λe w'=>e=.returned (.tuple #[if q then qI6 N a rs else qI6 0 0 0,.bool q])/\
   w'.heap[A]?=some (qA6 κ n C (.slice none 0 0) (nx r) z)/\Kp [A] w w':=by
 have ap:(ω l i).length=128:=by simp[ω];omega
 obtain⟨b,S⟩:=eY (ω l i);rw[S] at hN ax ay T ap;have HB:=zh S;have B:=zh T;clear S T;have bh:=ζ hV;have hA:=ζ h;have bf:=ζ hC;go_enter func205,ntmps205;go_wp2_with fail;refine (zH1 V A n C r z i l _ (ρ _ hV) (ρ _ h) hi hn (ρ _ hC) hs a3 a6).mono ?_;rintro e g ⟨rfl,H,M⟩;rw[HB.out];have aq:(enc b).size=128:=by rw[qH1,ap]
 go_wp2_with fail;have Q:=υ g (.cells zeroCells288 288);have R:Ϙ g w.heap.size (.cells #[.int .u64 0,ϊ 0,.int .u64 0] 166):=M.heap (υ _ _) sO;have O:Kp [A] w g:=(kF.alloc _).tr M;have bg:=ζ R;have be:=ζ H;rw[qQ3 Q (by simp[qK4,aq]) (qJ4 b).one];rw[show (enc b).toList.toArray=enc b from by simp,qO7 (by rw[qK4,aq])];obtain⟨c,an,ah,aa,al,F,az⟩:∃ c,c=(g.alloc (.cells zeroCells288 288)).setRow g.heap.size (enc b)/\Kp [A] w c/\Ϙ c A (qA6 κ n C (.slice none 0 0) (nx r) z)/\
   Ϙ c w.heap.size (.cells #[.int .u64 0,ϊ 0,.int .u64 0] 166)/\Ϙ c g.heap.size (.cells (enc b) 288)/\c.heap.size=g.heap.size+1:=
  ⟨_,rfl,(O.alloc _).setRow (Or.inr O.size) _,(setRow_other _ _ _ _ oM).trans (ρ _ H),(setRow_other _ _ _ _ oM).trans (ρ _ R),setRow_heap _ _ _ _ _ _ Q,by simp[World.setRow]⟩
 rw[<-an];clear an Q R M O H;generalize a8:g.heap.size=G at *;clear a8;go_wp2_with fail;have bd:IntKind.i64.wrap a=a:=by simp only[wK];omega
 rename_i Q0 K0 ag;have key:K0 { tmps:=#[Value.pointer (some ⟨V,0,none⟩),Value.int .i64 ↑i,undef,undef,Value.pointer (some ⟨w.heap.size,0,none⟩),Value.bool false,
     Value.pointer (some ⟨G,0,none⟩),Value.pointer (some ⟨G+1,0,none⟩),Value.pointer (some ⟨V,0,none⟩),Value.int .i64 ↑i,Value.agg (enc b),
     Value.slice (some ⟨G,8,none⟩) 8 120,Value.int .u64 N,Value.slice (some ⟨G,6,none⟩) 2 122,Value.int .u64 a,
     Value.int .i64 a,Value.slice (some ⟨G,16,none⟩) 8 112,Value.int .u64 rs,Value.agg #[ϊ a,.int .u64 rs],
     Value.agg #[.int .u64 N,ϊ a,.int .u64 rs],undef,undef,undef,undef,undef,undef,undef,undef,undef,undef,undef,undef,undef],defers:=[] }
   (c.alloc (.cells #[.int .u64 N,ϊ a,.int .u64 rs] 166)).drew:=by
  refine ag _ _ ?_;clear ag K0 bd;obtain⟨d,ao,ai,ab,am,a4,m⟩:∃ d,d=(c.alloc (.cells #[.int .u64 N,ϊ a,.int .u64 rs] 166)).drew/\Kp [A] w d/\Ϙ d A (qA6 κ n C (.slice none 0 0) (nx r) z)/\
    Ϙ d w.heap.size (.cells #[.int .u64 0,ϊ 0,.int .u64 0] 166)/\Ϙ d G (.cells (enc b) 288)/\d.heap[G+1]?=some (.cells #[.int .u64 N,ϊ a,.int .u64 rs] 166):=
   ⟨_,rfl,(ah.alloc _).drew,ρ _ aa,ρ _ al,ρ _ F,by rw[<-az];exact υ c _⟩
  rw[<-ao];clear ao ah aa al F hN ax ay az;have e0:=ξ m 0;have e1:=ξ m 1;have e2:=ξ m 2;simp at e0 e1 e2;have ae:=ζ m;by_cases p:N % 2=(i:Int)
  .have av:(N % 2 != (i:Int))=false:=by simp[p]
   go_wp2_with fail
   go_region_with (first
    | (go_at_call 209;go_must (refine (zS2 N a rs _ P).mono ?_;rintro e w4 ⟨rfl,j⟩;have u:=(j.block (G+1) ae).trans m;have J:=(j.block G (by have:=ae;show G<d.heap.size;omega)).trans a4;have g0:=ξ u 0;have g1:=ξ u 1;have g2:=ξ u 2;simp at g0 g1 g2))
    | (go_at_call 207;go_must (refine (xQ4 N a rs _ P ba bb bc).mono ?_;rintro e w5 ⟨v5,rfl,ak,I⟩;obtain⟨g5,a0,a1,rfl,ar,a7,au⟩:=xM9 ak;have af:=(I.block G (ζ J)).trans J))
    | (go_at_call 249;go_must (refine (jH2 g5 0 32 a0 G 0 128 (toB (qG9 N a rs)) (b.take 32) _ 5 288 a1 (enc b) (0,0) (0,0) ar af au (by rw[qP2,dZ]) oM oM).mono ?_;rintro e w6 ⟨rfl,rfl⟩)))
   have f:=Kp.of_below j lR;have s:=Kp.of_below I lR;have o:=s.heap (f.heap (k:=w.heap.size) am sM) sM;have ac:=s.heap (f.heap (k:=A) ab sM) sM;have L:=s.hp u;have aj:=((ai.drew).tr f).tr s;clear j f I s g0 g1 g2 e0 e1 e2 af au ak J u ar a7 av;have X:=ξ o 0;have Y:=ξ o 1;have Z:=ξ o 2;have s0:=ξ L 0;have s1:=ξ L 1;have s2:=ξ L 2;simp at X Y Z s0 s1 s2;have rf:=ψ o;have aw:q=(toB (qG9 N a rs) == b.take 32):=by rw[B.out];simp[p]
   clear B p;have D:=zh aw;clear aw;simp only[zZ];by_cases E:(toB (qG9 N a rs) == b.take 32)=true
   .have U:q=true:=by rw[D.out];exact E
    subst U;clear D;simp only[E,Bool.not_true];go_wp2;have y:=μ (μ (μ o 0 (.int .u64 N)) 1 (ϊ a)) 2 (.int .u64 rs);refine bodyPost_ret (qU8 results205 _ _ w.heap.size 166 _ _ _ rfl y underlying166 rfl kR) rfl ⟨rfl,?_,((aj.sc _).sc _).sc _⟩;exact (qB2 oM _ _).trans ((qB2 oM _ _).trans ((qB2 oM _ _).trans ac))
   .have ad:(toB (qG9 N a rs) == b.take 32)=false:=by simpa using E
    have U:q=false:=by rw[D.out];exact ad
    subst U;clear D E;simp only[ad,Bool.not_false];go_wp2;have y:=μ (μ (μ o 0 (.int .u64 0)) 1 (ϊ 0)) 2 (.int .u64 0);refine bodyPost_ret (qU8 results205 _ _ w.heap.size 166 _ _ _ rfl y underlying166 rfl kR) rfl ⟨rfl,?_,((aj.sc _).sc _).sc _⟩;exact (qB2 oM _ _).trans ((qB2 oM _ _).trans ((qB2 oM _ _).trans ac))
  .have av:(N % 2 != (i:Int))=true:=by simp[p]
   have a9:q=false:=by rw[B.out];simp[p]
   clear p B;subst a9;go_wp2_with fail;refine wp_region_any kR ?_;change wpAny _ _ _ _ _ _ _ (World.drew _);refine wpAny_take (i:=2) (v:=.int .i64 i) rfl kR kR kR (λ_ _ _ h=>h) (Or.inl ⟨by rfl,λW=>rfl⟩) ?_;simp only[zZ];refine zQ 0 λK hK=>?_;refine qF2 rfl (qP6 (t:=166) rfl kR 3 kR (G+1) rfl (show d.drew.heap[G+1]?=_ from m) rfl) ?_;refine hK _ _ ?_;simp only[zZ];refine zQ 1 λK hK=>?_;go_simp;refine (zS2 N a rs _ P).mono ?_;rintro e w4 ⟨rfl,j⟩;refine hK _ _ ?_;refine zu 3 (.bool true) ?_;refine wpAny_take (i:=4) (v:=.bool true) rfl kR kR kR (λ_ _ _ h=>h) (Or.inl ⟨by rfl,λW=>rfl⟩) ?_;simp only[zZ];refine wpAny_take (i:=5) (v:=undef) rfl kR kR kR (λ_ _ _ h=>h) (Or.inr ⟨by rfl,rfl⟩) ?_;simp only[zZ];refine wpAny_take (i:=6) (v:=undef) rfl kR kR kR (λ_ _ _ h=>h) (Or.inr ⟨by rfl,rfl⟩) ?_;simp only[zZ];refine wpAny_take (i:=7) (v:=undef) rfl kR kR kR (λ_ _ _ h=>h) (Or.inr ⟨by rfl,rfl⟩) ?_;simp only[zZ];refine wpAny_take (i:=8) (v:=undef) rfl kR kR kR (λ_ _ _ h=>h) (Or.inr ⟨by rfl,rfl⟩) ?_;simp only[zZ];refine wpAny_take (i:=9) (v:=undef) rfl kR kR kR (λ_ _ _ h=>h) (Or.inr ⟨by rfl,rfl⟩) ?_;simp only[zZ];refine zu 10 (.bool true) ?_;refine wpAny_done kR ?_ _;have f:=Kp.of_below j lR;have x:=f.heap (k:=w.heap.size) am sM;have a2:=f.heap (k:=A) ab sM;have a5:=(ai.drew).tr f;clear j f;have X:=ξ x 0;have Y:=ξ x 1;have Z:=ξ x 2;simp at X Y Z;have rf:=ψ x;go_wp2;have y:=μ (μ (μ x 0 (.int .u64 0)) 1 (ϊ 0)) 2 (.int .u64 0);refine bodyPost_ret (qU8 results205 _ _ w.heap.size 166 _ _ _ rfl y underlying166 rfl kR) rfl ⟨rfl,?_,((a5.sc _).sc _).sc _⟩;exact (qB2 oM _ _).trans ((qB2 oM _ _).trans ((qB2 oM _ _).trans a2))
 go_region_with (go_at_call 248;go_must (refine (jW3 _ _ _ _ b 288 _ (by first | exact F | exact ρ _ F) oM oM).mono ?_);rintro e w' ⟨rfl,rfl⟩)
 all_goals exact key
end Go.Proofs.YtdohpenfkdckiaaGreatDoor
