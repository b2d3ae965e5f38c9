import Derived.Test.YtdohpenfkdckiaaGreatDoorJ30
import Derived.Test.YtdohpenfkdckiaaGreatDoorJ32
set_option linter.all false
set_option maxRecDepth 100000
set_option maxHeartbeats 20000000
namespace Go.Proofs.YtdohpenfkdckiaaGreatDoor
open Go.Proofs.Tryz
open Go.RowKit
variable {κ:Nat}
theorem jG2(V:Nat)(s:Int)(d:1<=s)(w):
  Calls prog 92 #[.agg #[.pointer (some ⟨V,0,none⟩),.string ⟨#[]⟩,.int .i64 0,.int .u64 s,.pointer none]] w λe a=>e=.returned (.bool false)/\Kp [] w a:=by
 have c:∀ W:World,Sem.run prog (Op.equalIn 9999 85 (.pointer none) (.pointer none)) W=.ok true W:=λW=>qZ1 9998 W;have b:¬s=0:=oM
 go_enter func92,ntmps92;go_wp2;go_ret;exact⟨rfl,kF.alloc _⟩
theorem kL6(V A N C:Nat)(l)(o:Int)(hN:N<=1000)(ak:N*128<=l.length)(ad:C≠A)(aj:V≠A)(b s:Int)(h0:0<=b)(P:0<=s)(w)(J:Devl V A N C l o w):
  Calls prog 144 #[τ V ⟨⟨#[]⟩,b,s,none⟩] w λe f=>(e=.panicked cor\/∃ r,e=.returned (.int .i64 (qD2 r))/\Lie N l b s r/\RGood r/\qD2 r<=177156)/\Devl V A N C l o f/\Kp [A] w f:=by
 by_cases hz:b=0/\s=0
 .obtain⟨rfl,rfl⟩:=hz;refine (xA4 V w).mono ?_;rintro e f ⟨rfl,hK⟩;exact⟨.inr ⟨.none,rfl,⟨rfl,rfl⟩,trivial,zL _⟩,qD0 J hK (by intro k Y;cases Y),hK.mono sM⟩
 have aa:Hid (∀ W,Ω 92 #[τ V ⟨⟨#[]⟩,b,s,none⟩] W λe f=>e=ϱ (.bool false)/\Kp [] W f):=λW=>by
  rw[show τ V ⟨⟨#[]⟩,b,s,none⟩=.agg #[ϖ V,.string ⟨#[]⟩,ϊ b,.int .u64 s,.pointer none] from rfl];by_cases hb:1<=b
  .exact xB7 V b s hb W
  .have e:b=0:=oM
   subst e;exact jG2 V s oM W
 have am:=zh (λW G P h2=>jE6 V A N C l o hN ak ad aj b s G 0 ⟨#[]⟩ W P h2 oM oM);have ao:Hid (∀ W G q n a ps g,Devl V A N C l o W->W.heap[G]?=some (qB3 V (0+1) ⟨#[]⟩)->RawM W q n ps g->RawAt l n a s ps g->n<6->b=((a:Nat):Int)->2<=a->a<N->min n 1<ps.length+g.length->Ω 210 #[ϖ G,.agg #[.string ⟨#[]⟩,ϊ b,.int .u64 s,.pointer none],ϖ q] W λe f=>(e=.panicked cor\/e=ϱ (.tuple #[])/\∃ r k,Lie N l b s r/\RGood r/\qD2 r<=177156/\f.heap[G]?=some (qB3 V (qD2 r) k))/\Devl V A N C l o f/\Kp [A,G] W f):=λW G q n a ps g j B D p u E F g8 g9=>by
  have aq:qI9 n<=177156:=by
   have:n=0\/n=1\/n=2\/n=3\/n=4\/n=5:=oM
   rcases this with rfl|rfl|rfl|rfl|rfl|rfl<;>decide
  refine (xT0 V A N C l o hN ak ad aj n u ps g q G ⟨⟨#[]⟩,b,s,none⟩ (0+1) ⟨#[]⟩ a s W j B D p oM oM).mono ?_;rintro e f ⟨x,hD,hK⟩;refine⟨?_,hD,hK⟩;rcases x with rfl|⟨rfl,t,m,L,t3,t4,t5⟩
  .exact .inl rfl
  .have ap:cnt n t=ps.length+g.length:=by
    cases n with
    | zero=>obtain⟨rfl,rfl⟩:=m;rfl
    | succ n=>obtain⟨rfl,h⟩:=m;show (η t).length=_;rw[<-h.1];simp
   refine .inr ⟨rfl,.at n ⟨⟨#[]⟩,some (a,s),t⟩,qE0 ⟨#[]⟩ (cont n t),⟨a,E,rfl,m.laid p F g8 u⟩,⟨rfl,L,by rw[ap];exact g9⟩,lT t4 aq,?_⟩;rw[t5];show some (qB3 V (0+1+((qB1 n t:Nat):Int)-1) _)=some (qB3 V ((qB1 n t:Nat):Int) _)
   congr 2
   omega
 have HD:=zh J;have au:A<w.heap.size:=by obtain⟨c,h⟩:=J.hA;exact ζ h
 clear J hz h0 P;rw[show τ V ⟨⟨#[]⟩,b,s,none⟩=.agg #[ϖ V,.string ⟨#[]⟩,ϊ b,.int .u64 s,.pointer none] from rfl] at aa |-;go_enter func144,ntmps144;go_wp2_with fail;obtain⟨w0,Z,ai,af,ah,ar⟩:=alC w (.cells #[ϖ V,.string ⟨#[]⟩,ϊ b,.int .u64 s,.pointer none] 89) (qB3 V 0 ⟨#[]⟩)
 rw[qB3] at Z;rw[<-Z];clear Z;refine (show Calls _ _ _ _ _ from aa w0).mono ?_;rintro e y ⟨rfl,H⟩;have an:=zh (H.hp ai);have al:=zh (H.hp af);have ab:=zh (ah.tr H);clear ah H ai af ar;go_wp2_with fail;have U:Kp [] y y.drew:=(Kp.refl [] _).drew;have ae:=qD0 HD (ab.tr U) (by intro k Y;cases Y);have d:y.drew.heap[w.heap.size]?=some (.cells #[ϖ V,.string ⟨#[]⟩,ϊ b,.int .u64 s,.pointer none] 89):=an.out;have M:Hid (∀ W O,Kp [A,w.heap.size+1] y.drew W->Kp [A,w.heap.size+1] W O->Kp [A] w O):=λW O q1 q2=>((ab.tr U).mono (S':=[A]) sM).trans (q1.tr q2) (by intro i hi hlt;simp at hi |-;rcases hi with h | h;exact h;omega);refine wp_region_held_drew (S:=λW=>W.heap[w.heap.size]?=some (.cells #[ϖ V,.string ⟨#[]⟩,ϊ b,.int .u64 s,.pointer none] 89)) kR d (λ_=>?_);refine zU 0 (ϖ (w.heap.size+1)) d ?_;refine zP 1 w.heap.size 1 d ?_;refine zW 2 (.agg #[.string ⟨#[]⟩,ϊ b,.int .u64 s,.pointer none]) d id ?_;refine zU 3 (ϖ (w.heap.size+1)) d ?_;refine zP 4 w.heap.size 1 d ?_;refine zP 5 w.heap.size 2 d ?_;refine zW 6 (.agg #[ϊ b,.int .u64 s]) d id ?_;refine zq 7 λK hK=>?_;go_simp;refine (show Calls _ _ _ _ _ from am y.drew _ ae al).mono ?_;rintro e z ⟨x,Q,v⟩;rcases x with rfl|⟨q2,n,a,ps,g,rfl,j,B,D,p,u,E,F,ag⟩
 .clear hK;go_wp2;exact⟨rfl,.inl rfl,Q,M z z v kF⟩
 have ac:=Hid.mk' (ao z _ q2 n a ps g Q ag p u E j B D F);clear j B D p u E F ag;have X:=v.ho d;refine zk hK X ?_
 refine zq 8 λK hK=>?_;go_simp;refine (show Calls _ _ _ _ _ from ac).mono ?_;rintro e w3 ⟨x,R,I⟩;rcases x with rfl|⟨rfl,r,kx,m,L,t3,T⟩
 .clear hK;go_wp2;exact⟨rfl,.inl rfl,R,M z w3 v I⟩
 refine hK.out _ _ (I.ho X) (λ_=>?_);refine zd ?_
 try simp only[zZ]
 have HE:=zh (n2 R (M z w3 v I));have HR:=zh (n3 m L t3);have av:=ζ T;have j:=ξ T 1;simp only[qB3,zG,zH,zI] at j;clear T R I X Q v d ae U ac m L t3;go_wp2;go_ret;exact⟨.inr ⟨r,rfl,HR⟩,HE⟩
def emp:DataW Unit:=.map []
structure Dvl(A n C:Nat)(l:List UInt8)(wr:Int)(w:World):Prop where
 hA:∃ calls,w.heap[A]?=some (qA6 (l.length / 128) n C (.slice none 0 0) calls wr)
 hC:w.heap[C]?=some (.cells (enc l) 115)
theorem Dvl.x{A n C:Nat}{l}{wr:Int}{w}(h:Dvl A n C l wr w):Dvx A n C l wr w:=by
 obtain⟨⟨c,a⟩,b⟩:=h;exact⟨⟨c,some ⟨C,0,none⟩,l.length / 128,a,λ_=>⟨rfl,rfl⟩⟩,b⟩
theorem Dvx.dvl{A n C:Nat}{l}{wr:Int}{w}(h:Dvx A n C l wr w)(e:1<=n):Dvl A n C l wr w:=by
 obtain⟨⟨c,p,f,a,d⟩,b⟩:=h;obtain⟨rfl,rfl⟩:=d e;exact⟨⟨c,a⟩,b⟩
theorem kL8(V A N C:Nat)(l)(d:Int)(o:N<=1000)(t:N*128<=l.length)(m:C≠A)(q:V≠A)(h rs:Int)(r)(w)(f:Devl V A N C l d w)(a:Lie N l h rs r)(g:RGood r)(p:N<=400):
  Calls prog 144 #[τ V ⟨⟨#[]⟩,h,rs,none⟩] w λe c=>e=.returned (.int .i64 (qD2 r))/\Devl V A N C l d c/\Kp [A] w c:=by
 have v:=(qW5 a g p).1
 cases r with
 | none=>
  obtain⟨rfl,rfl⟩:=a;refine (xA4 V w).mono ?_;rintro e c ⟨rfl,hK⟩;exact⟨rfl,qD0 f hK (by intro k s;cases s),hK.mono sM⟩
 | «at» n L=>
  obtain⟨b,rfl,i,j⟩:=a;exact kL7 V A N C l d o t m q n b rs L w f j i g (by have u:qD2 (.at n L)=qB1 n L.sub:=rfl;omega)
def TreeQ(N:Nat)(l:List UInt8)(rb rs:Int):Option Root→Prop
 | some r=>Lie N l rb rs r∧RGood r
 | none=>∀ r,Lie N l rb rs r→¬RGood r
theorem TreeQ.is(N:Nat)(l)(a rs:Int):∃ q,TreeQ N l a rs q:=by
 by_cases h:∃ r,Lie N l a rs r/\RGood r
 .obtain⟨r,h⟩:=h;exact⟨some r,h⟩
 .exact⟨none,λr b c=>h ⟨r,b,c⟩⟩
def zJ9:Option Root→Ending
 | some r=>.returned (.int .i64 (qD2 r))
 | none=>.panicked cor
theorem kL9(V A N C:Nat)(l)(b:Int)(g:N<=1000)(j:N*128<=l.length)(f:C≠A)(h:V≠A)(a rs:Int)(q:Option Root)(w)(i:Devl V A N C l b w)(c:TreeQ N l a rs q)(s:N<=400)(k:0<=a)(m:0<=rs):
  Calls prog 144 #[τ V ⟨⟨#[]⟩,a,rs,none⟩] w λe d=>e=zJ9 q/\Devl V A N C l b d/\Kp [A] w d:=by
 cases q with
 | some r=>exact kL8 V A N C l b g j f h a rs r w i c.1 c.2 s
 | none=>
  refine (kL6 V A N C l b g j f h a rs k m w i).mono ?_;rintro e d ⟨rfl|⟨r,_,n,o,_⟩,p⟩
  .exact⟨rfl,p⟩
  .exact absurd o (c r n)
theorem jX5(D X A n C:Nat)(J c:Int)(l)(N b rs:Int)(q:Option Root)(w)(hD:w.heap[D]?=some (.cells #[.iface 27 (.pointer (some ⟨A,0,none⟩))] 206))(hX:w.heap[X]?=some (.cells #[.pointer none] 28))(h:w.heap[A]?=some (qA6 (l.length / 128) n C (.slice none 0 0) J c))
  (h8:8<=n) (aa:n<=400) (hC:w.heap[C]?=some (.cells (enc l) 115)) (S:n*128<=l.length) (y:C≠A) (ar:X≠A) (au:X≠C) (R:Heads l N b rs) (hq:TreeQ n l b rs q):
  Calls prog 143 #[.pointer (some ⟨D,0,none⟩),.pointer (some ⟨X,0,none⟩)] w λe d=>((q=none/\e=qB7 (some 9)/\Dvl A n C l c d/\d.heap[X]?=some (.cells #[.pointer none] 28))\/∃ r,q=some r/\e=qB7 none/\
   ∃ V M St G,w.heap.size<=V/\w.heap.size<=M/\w.heap.size<=St/\w.heap.size<=G/\Devl V A n C l c d/\d.heap[M]?=some (.map #[] 0)/\d.heap[St]?=some (ν 0 ⟨V,M,N,b,rs,qD2 r,false,0,0⟩)/\d.heap[G]?=some (.cells #[.pointer (some ⟨St,0,none⟩)] 102)/\d.heap[X]?=some (.cells #[.pointer (some ⟨G,0,none⟩)] 28))/\Kp [A,C,X] w d:=by
 have bd:=ζ hD;have bk:=ζ hX;have hA:=ζ h;have bc:=ζ hC;have aw:Hid (∀ V W,V≠A->Devl V A n C l c W->Ω 144 #[τ V ⟨⟨#[]⟩,b,rs,none⟩] W λe d=>e=zJ9 q/\Devl V A n C l c d/\Kp [A] W d):=λV W hv hd=>by
  obtain⟨i,hi,_,a9⟩:=R.valid;have hb:=a9.bnd (by simp[ω];omega);exact kL9 V A n C l c oM S y hv b rs q W hd hq aa hb.2.2.1 hb.2.2.2
 have HH:=zh R;clear R hq;have c0:=ξ hD 0;simp at c0;go_enter func143,ntmps143;go_wp2_with fail;refine (zR7 A n C (.slice none 0 0) J c _ h h8 aa).mono ?_;rintro e w1 ⟨V,rfl,a7,B,t⟩;have ab:=t.hp h;have K:=t.hp hC;have an:=t.hp hX;have Q:Kp [A,C,X] w w1:=t.mono sM;have v:Hid (V≠A):=by show V≠A;omega
 have g:=zh (n2 ar au);clear t ar au;go_wp2_with fail;refine (jV5 V A n C J c l N b rs w1 B ab h8 oM K S y v HH).mono ?_;rintro e Y ⟨rfl,ac,m⟩;have al:=m.heap B (by simp[v.out]);have ao:=m.heap an (by simp[g.out.1]);have ad:=m.heap K (by simp[y]);have ah:=Q.trans m (by simp +contextual);have bm:=Q.size;have bn:=m.size;have bg:=ζ B;clear m Q ab K B an c0;go_wp2_with fail;obtain⟨H,P⟩:=eX Y.heap.size;rw[<-P];obtain⟨j,am,ai,ae,ap,L⟩:∃ j,j=Y.alloc (.cells #[.int .u64 N,ϊ b,.int .u64 rs] 166)/\Kp [A,C,X] w j/\Devl V A n C l c j/\Ϙ j X (.cells #[.pointer none] 28)/\Ϙ j H (.cells #[.int .u64 N,ϊ b,.int .u64 rs] 166):=
  ⟨_,rfl,ah.alloc _,⟨ρ _ al,⟨_,ρ _ ac⟩,ρ _ ad⟩,ρ _ ao,by rw[P];exact υ _ _⟩
 rw[<-am];have be:Y.heap.size<=H:=oM
 clear am ah ac ao al P ad;have bf:=ζ L;refine (zW9 V b rs _).mono ?_;rintro e W4 ⟨rfl,o⟩;have aq:=o.hp ap;have af:=qD0 ae o (by intro k hk;cases hk);have ag:=o.hp L;have aj:=ai.tr o;have bo:=o.size;clear o ap ae L ai;go_wp2_with fail;refine (aw V W4 v af).mono ?_;rintro e s ⟨av,f,u⟩;have E:=u.heap aq (by simp[g.out.1]);have O:=u.ho ag;have z:=aj.tr u;have bp:=u.size;obtain⟨Z,x⟩:=f.hA;clear u aq af ag aj
 cases q with
 | none=>
  subst av;have I:=hid (show Dvl A n C l c s/\Ϙ s X (.cells #[.pointer none] 28)/\Kp [A,C,X] w s from⟨⟨⟨_,x⟩,f.hC⟩,E,z⟩);clear x E f O z;rw[zJ9];go_wp2;exact⟨rfl,⟨rfl,I.1,I.2.1⟩,I.2.2⟩
 | some r=>
 subst av;rw[zJ9];go_wp2_with fail;refine (zT6 V A n C s.heap.size (.slice none 0 0) [] Z c l s f.hV x (wN _ _ _ _) sM sM oM f.hC S y).mono ?_;rintro e a ⟨rfl,ay,a0,p⟩;have a5:V≠C:=oM
 have F:=p.heap E (by simp[g.out.1,g.out.2]);have a4:=p.heap f.hV (by simp[v.out,a5]);have a2:=p.ho O;have ak:=z.trans p (by simp +contextual);have bq:=p.size;have ba:Hid (X≠H):=by show X≠H;omega
 have ax:Hid (X≠V):=by show X≠V;omega
 have br:=ak.size;clear p x E f O z;have bl:=@run_makeMap prog;have z0:=ξ a2;have x0:=ϻ F 0;have bb:=ψ F 0;have bj:=ζ F;have bh:X<a.heap.size+1:=oM
 have bi:X<a.heap.size+1+1:=oM
 go_wp2
 go_end0
 obtain⟨U,hU,a3,az,a1,a6,a8,T⟩:∃ U,U=a.setCell ⟨X,0,none⟩ (ϖ (a.heap.size+1+1))/\Kp [A,C,X] w U/\Ϙ U A (qA6 (l.length / 128) n C (.slice none 0 0) (nx Z) c)/\Ϙ U C (.cells (enc l) 115)/\Ϙ U V (qE4 A n)/\Ϙ U X (.cells #[ϖ (a.heap.size+1+1)] 28)/\U.heap.size=a.heap.size:=
  ⟨_,rfl,ak.sc _,(qB2 (λe=>g.1 e.symm) _ _).trans ay,(qB2 (λe=>g.2 e.symm) _ _).trans a0,(qB2 (λe=>ax e.symm) _ _).trans a4,μ F 0 _,by simp[World.setCell]⟩
 rw[<-hU];have e1:=υ U (.map #[] 0);have e2:=υ (U.alloc (.map #[] 0)) (ν 0 ⟨V,a.heap.size,N,b,rs,qD2 r,false,0,0⟩);have e3:=υ ((U.alloc (.map #[] 0)).alloc (ν 0 ⟨V,a.heap.size,N,b,rs,qD2 r,false,0,0⟩)) (.cells #[ϖ (a.heap.size+1)] 102);rw[T] at e1;rw[show (U.alloc (.map #[] 0)).heap.size=a.heap.size+1 from by simp[T]] at e2;rw[show ((U.alloc (.map #[] 0)).alloc (ν 0 ⟨V,a.heap.size,N,b,rs,qD2 r,false,0,0⟩)).heap.size=a.heap.size+1+1 from by simp[T]] at e3;exact⟨.inr ⟨r,rfl,rfl,V,a.heap.size,a.heap.size+1,a.heap.size+1+1,a7,oM,oM,oM,⟨ρ _ (ρ _ (ρ _ a6)),⟨_,ρ _ (ρ _ (ρ _ az))⟩,ρ _ (ρ _ (ρ _ a1))⟩,ρ _ (ρ _ e1),ρ _ e2,e3,ρ _ (ρ _ (ρ _ a8))⟩,((a3.alloc _).alloc _).alloc _⟩
theorem jX3(D X A n C:Nat)(a c:Int)(l)(w)(i:w.heap[D]?=some (.cells #[.iface 27 (.pointer (some ⟨A,0,none⟩))] 206))(h:w.heap[A]?=some (qA6 (l.length / 128) n C (.slice none 0 0) a c))
  (f:8<=n) (q:n<=400) (g:w.heap[C]?=some (.cells (enc l) 115)) (y:n*128<=l.length) (t:C≠A) (o:IsHd l 0 none) (p:IsHd l 1 none):
  Calls prog 143 #[.pointer (some ⟨D,0,none⟩),.pointer (some ⟨X,0,none⟩)] w λe k=>e=qB7 (some 9)/\k.heap[A]?=some (qA6 (l.length / 128) n C (.slice none 0 0) (nx (nx a)) c)/\Kp [A] w k:=by
 have F:=ζ i;have B:=ζ h;have E:=ζ g;have c0:=ξ i 0;simp at c0;go_enter func143,ntmps143;go_wp2_with fail;refine (zR7 A n C (.slice none 0 0) a c _ h f q).mono ?_;rintro e z ⟨V,rfl,G,x,b⟩;have r:=b.hp h;have u:=b.hp g;have m:=hid (show V≠A by omega);go_wp2_with fail;have d:=hid (zQ8 V A n C a c l none none z x r f oM u y t m o p);simp only[qI3,qN1,qI6,Option.isSome_none] at d;refine (show Calls _ _ _ _ _ from d).mono ?_;rintro e H ⟨rfl,s,j⟩;have v:=(b.mono (S':=[A]) sM).tr j;clear j b c0 d;go_wp2;exact⟨rfl,rfl,rfl,ρ _ s,v.alloc _⟩
theorem zS3(A:Nat)(S)(R:Option Int->Option Addr->World->Prop)(w)(m:∀ i∈S,i<w.heap.size)
  (p:∀ D X W,W.heap[D]?=some (.cells #[.iface 27 (.pointer (some ⟨A,0,none⟩))] 206)->W.heap[X]?=some (.cells #[.pointer none] 28)->Kp [] w W->w.heap.size<=X->Calls prog 143 #[.pointer (some ⟨D,0,none⟩),.pointer (some ⟨X,0,none⟩)] W λe b=>∃ k a,e=qB7 k/\b.heap[X]?=some (.cells #[.pointer a] 28)/\R k a b/\Kp (X::S) W b):
  Calls prog 43 #[.pointer (some ⟨A,0,none⟩)] w λe b=>∃ k v a c B,e=.returned (.tuple #[.pointer a,v])/\ErrV b v k/\R k a c/\w.heap.size<=B/\c.heap[B]?=some (.cells #[.nilIface] 38)/\Kp [B] c b/\Kp S w b:=by
 have G:=zM;obtain⟨d,n,l,H,z,C⟩:∃ d,d=(w.alloc (.cells #[.iface 27 (ϖ A)] 206)).alloc (.cells #[.pointer none] 28)/\Kp [] w d/\d.heap.size=w.heap.size+2/\Ϙ d w.heap.size (.cells #[.iface 27 (ϖ A)] 206)/\d.heap[w.heap.size+1]?=some (.cells #[.pointer none] 28):=by
  refine⟨_,rfl,(kF.alloc _).alloc _,sM,ρ _ (υ _ _),?_⟩;have e:=υ (w.alloc (.cells #[.iface 27 (ϖ A)] 206)) (.cells #[.pointer none] 28);simpa using e
 have j:=hid (zM4 143 #[ϖ w.heap.size,ϖ (w.heap.size+1)] ⟨#[79,112,101,110]⟩ d (λk b=>∃ a,b.heap[w.heap.size+1]?=some (.cells #[.pointer a] 28)/\R k a b) ((w.heap.size+1)::S) (λi f=>by rcases List.mem_cons.1 f with rfl | f;omega;have:=m i f;omega) (jC1 _) ((p _ _ _ (ρ _ (ρ _ z)) (ρ _ (ρ _ C)) ((l.alloc _).alloc _) oM).mono λe b ⟨k,a,t,u,x,y⟩=>⟨k,t,⟨a,u,x⟩,y⟩));clear p m;go_enter func43,ntmps43
 go_wp2_with (go_at_call 86;go_in)
 rw[<-n];clear n;refine (show Calls _ _ _ _ _ from j).mono ?_;rintro e g ⟨k,v,c,rfl,hv,hF,⟨a,hx,hR⟩,hE,hK1,hK2⟩;have o:=hK2.ho hx;have F:=ξ o 0;simp at F;have s:=hid (show ∃ k q r c B,Ending.returned (.tuple #[.pointer a,v])=ϱ (.tuple #[.pointer r,q])/\ErrV g q k/\R k r c/\w.heap.size<=B/\Ϙ c B (.cells #[.nilIface] 38)/\Kp [B] c g/\Kp S w g from⟨k,v,a,c,d.heap.size+1,rfl,hv,hR,oM,hE,hK2,((l.mono (S':=(w.heap.size+1)::S) sM).trans hK1 (λ_ h _=>h)).trans hK2 (by intro i f E;simp at f;omega) |>.mono (by intro i f E;rcases List.mem_cons.1 f with rfl | h;omega;exact h)⟩);clear hv hR hE hK1 hK2 hF hx o j;go_wp2
 go_ret2
 exact s
def Lies(n:Nat)(l:List UInt8)(N:Int)(q:Option Root):Prop:=(q=none∧IsHd l 0 none∧IsHd l 1 none∧N=0)∨∃ rb rs,Heads l N rb rs∧TreeQ n l rb rs q
theorem Lies.is(n:Nat)(l):∃ N q,Lies n l N q:=by
 obtain⟨a,c⟩:=IsHd.is l 0;obtain⟨b,d⟩:=IsHd.is l 1
 cases hd:qI3 a b with
 | none=>
  have e:a=none/\b=none:=by
   cases a<;>cases b<;>simp only[qI3] at hd
   .exact⟨rfl,rfl⟩
   .cases hd
   .cases hd
   .split at hd<;>cases hd
  exact⟨0,none,.inl ⟨rfl,e.1 ▸ c,e.2 ▸ d,rfl⟩⟩
 | some x=>
  obtain⟨q,f⟩:=TreeQ.is n l x.2.1 x.2.2;exact⟨x.1,q,.inr ⟨x.2.1,x.2.2,⟨a,b,c,d,hd⟩,f⟩⟩
theorem Dvx.AC{A n C:Nat}{l}{wr:Int}{w}(h:Dvx A n C l wr w):C≠A:=by
 obtain⟨⟨c,p,d,a,_⟩,b⟩:=h;exact qA1 b a dC
theorem Dvx.new{A n C B:Nat}{l}{wr:Int}{w w'}(h:Dvx A n C l wr w)(a:w.heap[B]?=some (.cells #[.nilIface] 38))(hK:Kp [B] w w'):Dvx A n C l wr w':=by
 obtain⟨c,p,d,b,_⟩:=h.hA;exact h.kp hK (by simpa using qA1 b a dC) (by simpa using qA1 h.hC a dC)
theorem xN7(A:Nat)(S)(R:Option Int->World->Prop)(w)(r:∀ i∈S,i<w.heap.size)
  (u:∀ D W,W.heap[D]?=some (.cells #[.iface 27 (.pointer (some ⟨A,0,none⟩))] 206)->Kp [] w W->Calls prog 138 #[.pointer (some ⟨D,0,none⟩)] W λe b=>∃ k,e=qB7 k/\R k b/\Kp S W b):
  Calls prog 42 #[.pointer (some ⟨A,0,none⟩)] w λe b=>∃ k v a B,e=.returned v/\ErrV b v k/\R k a/\a.heap[B]?=some (.cells #[.nilIface] 38)/\Kp [B] a b/\Kp S w b:=by
 have G:=zM;obtain⟨z,s,E,m,H⟩:=qD5 w (.cells #[.iface 27 (ϖ A)] 206);have g:=hid (zM4 138 #[ϖ w.heap.size] ⟨#[70,111,114,109,97,116]⟩ z R S (λi d=>by have:=r i d;omega) (jC0 _) (u _ _ (ρ _ (ρ _ E)) ((m.alloc _).alloc _)));clear u r;go_enter func42,ntmps42
 go_wp2_with (go_at_call 85;go_in)
 rw[<-s];clear s;refine (show Calls _ _ _ _ _ from g).mono ?_;rintro e f ⟨k,v,a,rfl,t,F,p,j,o,c⟩;have y:=hid (show ∃ k x a B,Ending.returned v=ϱ x/\ErrV f x k/\R k a/\Ϙ a B (.cells #[.nilIface] 38)/\Kp [B] a f/\Kp S w f from⟨k,v,a,_,rfl,t,p,j,c,((m.mono (S':=S) sM).trans o (λ_ h _=>h)).trans c (by intro i d hlt;simp at d;omega)⟩);clear t p j o c F g;go_wp2;go_ret;exact y
section
variable {A n C:Nat} {l:List UInt8} {wr N:Int} {q:Option Root} {w:World}
theorem jL1(f:Dvx A n C l wr w)(o:n*128<=l.length):
  Calls prog 42 #[.pointer (some ⟨A,0,none⟩)] w λe a=>∃ v k,e=.returned v/\ErrV a v k/\Kp [A,C] w a/\
   ((k=none/\(8<=n/\n<=400)/\∃ r N,Dvx A n C r (nx (nx wr)) a/\r.length=l.length/\Lies n r N (some .none)/\Hd2 n r [] [])\/(k=some 10/\¬(8<=n/\n<=400)/\Dvx A n C l wr a)):=by
 have R:=f.AC;have H:=f;obtain⟨⟨z,p,κ,h,Z⟩,s⟩:=f;have V:=ζ h;have X:=ζ s;by_cases m:8<=n/\n<=400
 .obtain⟨⟨z,h⟩,s⟩:=H.dvl oM;obtain⟨b,c,N,y,rs,O,P,Q⟩:∃ b c N' y rs,IsHd l 0 b/\IsHd l 1 c/\qN1 (qI3 b c)=qI6 N' y rs:=by
   obtain⟨b,E⟩:=IsHd.is l 0;obtain⟨c,d⟩:=IsHd.is l 1
   cases f:qI3 b c with
   | none=>exact⟨b,c,0,0,0,E,d,by rw[f];rfl⟩
   | some x=>exact⟨b,c,x.1,x.2.1,x.2.2,E,d,by rw[f];rfl⟩
  obtain⟨i,I⟩:∃ i:Nat,upN N % 2=(i:Int):=⟨(upN N % 2).toNat,oM⟩;obtain⟨j,J⟩:∃ j:Nat,upN (upN N) % 2=(j:Int):=⟨(upN (upN N) % 2).toNat,oM⟩;have S:i<2:=oM
  have U:j<2:=oM
  have T:i≠j:=by have d:=zC1 N;have g:=zC1 (upN N);omega
  have t:=qX2 l (qB6 (upN N) 0 0) i n (qI7 _ _ _) o oM;have u:n*128<=(qC7 l i (qB6 (upN N) 0 0)).length:=by rw[t];exact o
  have K:=qX2 _ (qB6 (upN (upN N)) 0 0) j n (qI7 _ _ _) u oM;have G:=qY2 _ (qB6 (upN (upN N)) 0 0) j n (qI7 _ _ _) u oM;have F:ω (qC7 (qC7 l i (qB6 (upN N) 0 0)) j (qB6 (upN (upN N)) 0 0)) i=qB6 (upN N) 0 0:=by rw[qY1 _ _ j i n (qI7 _ _ _) u oM T,qY2 l _ i n (qI7 _ _ _) o oM]
  have L:HeadOk i (upN N) 0 0:=⟨I,(qP4 _).1,(qP4 _).2,dC,dC,dC,dC⟩;have M:HeadOk j (upN (upN N)) 0 0:=⟨J,(qP4 _).1,(qP4 _).2,dC,dC,dC,dC⟩;refine (xN7 A [A,C] (λk a=>k=none/\Dvx A n C (qC7 (qC7 l i (qB6 (upN N) 0 0)) j (qB6 (upN (upN N)) 0 0)) (nx (nx wr)) a) w sO λD W hD hK=>(jL0 D A n C z wr l b c N y rs W hD (hK.hp h) m.1 m.2 (hK.hp s) o R O P Q i j I J).mono λe a ⟨d,g,h3,h4⟩=>⟨none,d,⟨rfl,Dvl.x ⟨by rw[K,t];exact g,h3⟩⟩,h4⟩).mono ?_;rintro e a ⟨k,v,w1,B,rfl,hv,⟨rfl,hd1⟩,hB,hK1,hK⟩;refine⟨v,none,rfl,hv,hK,.inl ⟨rfl,m,_,_,hd1.new hB hK1,K.trans t,.inr ⟨0,0,Heads.made F G S U L M,⟨rfl,rfl⟩,trivial⟩,λk Y=>?_⟩⟩;have e:k=i\/k=j:=oM
  rcases e with rfl|rfl
  .exact⟨_,_,_,.none,F,L,⟨rfl,rfl⟩,.inl rfl⟩
  .exact⟨_,_,_,.none,G,M,⟨rfl,rfl⟩,.inl rfl⟩
 .refine (xN7 A [A,C] (λk a=>k=some 10/\Dvx A n C l wr a) w sO λD W hD hK=>(jK9 D A W hD (hK.hp h) oM).mono λe a ⟨d,g⟩=>⟨some 10,d,⟨rfl,(H.kp hK sM sM).kp g sM sM⟩,g.mono sM⟩).mono ?_;rintro e a ⟨k,v,w1,B,rfl,hv,⟨rfl,hd1⟩,hB,hK1,hK⟩;exact⟨v,some 10,rfl,hv,hK,.inr ⟨rfl,m,hd1.new hB hK1⟩⟩
theorem Devl.new{V B:Nat}{w'}(h:Devl V A n C l wr w)(a:w.heap[B]?=some (.cells #[.nilIface] 38))(hK:Kp [B] w w'):Devl V A n C l wr w':=qD0 h hK (OffD.one a dC)
theorem jX8(G:Dvx A n C l wr w)(K:n*128<=l.length)(hl:8<=n->n<=400->Lies n l N q):
  Calls prog 43 #[.pointer (some ⟨A,0,none⟩)] w λe a=>∃ v k b,e=.returned (.tuple #[.pointer b,v])/\ErrV a v k/\Kp [A,C] w a/\
   ((k=none/\∃ r V M St z o rs,q=some r/\b=some ⟨z,0,none⟩/\w.heap.size<=V/\w.heap.size<=M/\w.heap.size<=St/\w.heap.size<=z/\Sh a z St A C n 0 ⟨V,M,N,o,rs,qD2 r,false,0,0⟩ emp l wr r)\/
    (k=some 9/\q=none/\(8<=n/\n<=400)/\b=none/\Dvx A n C l wr a)\/(k=some 10/\¬(8<=n/\n<=400)/\b=none/\Dvx A n C l wr a)):=by
 have F:=G.AC;have R:=G;obtain⟨⟨y,p,κ,j,hp⟩,m⟩:=G;have ab:=ζ j;have ac:=ζ m;by_cases c:8<=n/\n<=400
 .obtain⟨⟨y,j⟩,m⟩:=R.dvl oM;rcases hl c.1 c.2 with⟨rfl,h0,f,_⟩|⟨o,rs,U,Y⟩
  .refine (zS3 A [A,C] (λk b a=>k=some 9/\b=none/\Dvx A n C l wr a) w sO λD X W hD hX hK hXs=>(jX3 D X A n C y wr l W hD (hK.hp j) c.1 c.2 (hK.hp m) K F h0 f).mono λe a ⟨f,h2,h3⟩=>⟨some 9,none,f,h3.ho hX,⟨rfl,rfl,Dvl.x ⟨⟨_,h2⟩,h3.heap (hK.hp m) (by simpa using F)⟩⟩,h3.mono (by simp +contextual)⟩).mono ?_;rintro e a ⟨k,v,b,w1,B,rfl,hv,⟨rfl,rfl,hd1⟩,hBs,hB,hK1,hK⟩;exact⟨v,_,_,rfl,hv,hK,.inr (.inl ⟨rfl,rfl,c,rfl,hd1.new hB hK1⟩)⟩
  .refine (zS3 A [A,C] (λk b a=>(k=some 9/\q=none/\b=none/\Dvx A n C l wr a)\/(k=none/\∃ r V M St d,q=some r/\b=some ⟨d,0,none⟩/\w.heap.size<=V/\w.heap.size<=M/\w.heap.size<=St/\w.heap.size<=d/\Devl V A n C l wr a/\a.heap[M]?=some (.map #[] 0)/\a.heap[St]?=some (ν 0 ⟨V,M,N,o,rs,qD2 r,false,0,0⟩)/\a.heap[d]?=some (.cells #[ϖ St] 102))) w sO λD X W hD hX hK hXs=>(jX5 D X A n C y wr l N o rs q W hD hX (hK.hp j) c.1 c.2 (hK.hp m) K F oM oM U Y).mono ?_).mono ?_
   .rintro e a ⟨⟨E,e2,e3,e4⟩|⟨r,e0,f,V,M,St,d,L,O,P,Q,u,g,s,t,Z⟩,S⟩
    .exact⟨_,_,e2,e4,.inl ⟨rfl,E,rfl,e3.x⟩,S.mono (by intro i H _;simp at H |-;omega)⟩
    .have ad:=hK.size;exact⟨none,_,f,Z,.inr ⟨rfl,r,V,M,St,d,e0,rfl,oM,oM,oM,oM,u,g,s,t⟩,S.mono (by intro i H _;simp at H |-;omega)⟩
   .rintro e a ⟨k,v,b,w1,B,rfl,hv,⟨rfl,E,rfl,hd1⟩|⟨rfl,r,V,M,St,d,rfl,rfl,L,O,P,Q,u,g,s,t⟩,hBs,hB,hK1,hK⟩
    .exact⟨v,_,_,rfl,hv,hK,.inr (.inl ⟨rfl,E,c,rfl,hd1.new hB hK1⟩)⟩
    obtain⟨aa,T⟩:=Y;have J:M ∉ [B]:=by
     intro J;rw[mS J,hB] at g;cases g
    exact⟨v,none,_,rfl,hv,hK,.inl ⟨rfl,r,V,M,St,d,o,rs,rfl,rfl,L,O,P,Q,{ hDb:=hK1.heap t (by simpa using qA1 t hB dC),hSt:=hK1.heap s (by simpa using qA1 s hB dC),po:=rfl,hM:=⟨#[],0,hK1.heap g J,⟨sM,MapKept.stamped_empty 0,sM⟩,lR,rfl⟩,m4:=by simp[emp,Maps.size],n1:=oM,dev:=u.new hB hK1,N8:=c.1,N4:=c.2,len:=K,lie:=aa,good:=T,heads:=U,bl0:=Int.natCast_nonneg _,bl1:=by have:=qX0 T;show ((qD2 r:Nat):Int)<=_;omega,bg0:=iR _,kb:=λk I=>by simp[emp,Maps.has] at I,rd:=λx h I=>by simp[emp,Maps.has] at I }⟩⟩
 .refine (zS3 A [A,C] (λk b a=>k=some 10/\b=none/\Dvx A n C l wr a) w sO λD X W hD hX hK hXs=>(jX4 D X A W hD (hK.hp j) oM).mono λe a ⟨f,h2⟩=>⟨some 10,none,f,h2.hp hX,⟨rfl,rfl,(R.kp hK sM sM).kp h2 sM sM⟩,h2.mono sM⟩).mono ?_;rintro e a ⟨k,v,b,w1,B,rfl,hv,⟨rfl,rfl,hd1⟩,hBs,hB,hK1,hK⟩;exact⟨v,_,_,rfl,hv,hK,.inr (.inr ⟨rfl,c,rfl,hd1.new hB hK1⟩)⟩
end
end Go.Proofs.YtdohpenfkdckiaaGreatDoor
