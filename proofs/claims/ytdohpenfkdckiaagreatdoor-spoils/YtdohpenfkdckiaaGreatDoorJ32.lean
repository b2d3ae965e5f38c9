import Derived.Test.YtdohpenfkdckiaaGreatDoorJ29
import Derived.Test.YtdohpenfkdckiaaGreatDoorJ31
set_option linter.all false
set_option maxRecDepth 100000
set_option maxHeartbeats 20000000
namespace Go.Proofs.YtdohpenfkdckiaaGreatDoor.Gw
open Go.Proofs.Tryz
open Go.RowKit
theorem WOk.grew{I:DInv}{base:Nat}{T p:Int}{w w4 w5}{b:Nat}{d:List I.G}(h:WOk I base T w b d){pk}{nk l:Nat}{xs v:List Value}{pd}{m:Nat}(j:w.heap[b]?=some (qD6 pk nk l pd d.length m))(x:w.ownsRow base 3 1 (.slice pk nk l) nk xs)(F:(nk:Int)<=T)(y:w.ownsRow base 119 1 (.slice pd d.length m) d.length (qJ7 I d))
  (z:Kp [] w w4) (o) {g f:Nat} (E:w5.ownsRow base 3 1 (.slice (some ⟨g,0,none⟩) (nk+1) f) (nk+1) v) (B:(w4.alloc o).grownBy w5 (Value.slice pk nk l).ownBlock) (H:T+2<=p):
  WOk I base p (w5.setCell ⟨b,0,none⟩ (.slice (some ⟨g,0,none⟩) (nk+1) f)) b (d++[])/\Below base w (w5.setCell ⟨b,0,none⟩ (.slice (some ⟨g,0,none⟩) (nk+1) f)):=by
 have n:=qJ1 x;have K:=ζ j;generalize G:(Value.slice pk nk l).ownBlock=r at *;have A:b ∉ r.toList:=λD=>by
  obtain⟨_,c,e⟩:=n _ D;rw[j] at e;cases e
 have s:=((z.mono (S':=r.toList) sM).alloc o).grown B (λk a=>Or.inl (by simp[a]));have t:=s.heap j A;have hK:Kp (b::r.toList) w (w5.setCell ⟨b,0,none⟩ (.slice (some ⟨g,0,none⟩) (nk+1) f)):=(s.mono (S':=b::r.toList) (λi C _=>mM _ C)).sc _;have q:MutC base qN4 w (b::r.toList):=λk a=>by
  rcases List.mem_cons.1 a with rfl|a
  .exact⟨h.bW,_,_,_,j,dC⟩
  .obtain⟨u,c,e⟩:=n _ a;exact⟨u,_,_,_,e,dC⟩
 have J:=h.len;refine⟨h.turn hK q oM [] sM sM ⟨some ⟨g,0,none⟩,nk+1,f,v,pd,m,?_,?_,oM,?_⟩ sO,hK.below h.hbs (λk a=>(q k a).1)⟩
 .rw[aN];exact μ t 0 _
 .exact qQ1 E (S:=[b]) (kF.sc _) (λk a=>by rw[mS a];exact⟨_,_,_,t,dC⟩)
 .rw[aN];exact qQ1 y hK (λk a=>by
   rcases List.mem_cons.1 a with rfl|a
   .exact⟨_,_,_,j,dC⟩
   .obtain⟨u,c,e⟩:=n _ a;exact⟨_,_,_,e,dC⟩)
theorem jZ4(I:DInv)(base d:Nat)(T:Int)(q:List I.G)(x y a b:Int)(s t)(w)(h:WOk I base T w d q)(hT:T<=70000):
  Calls prog 78 #[.pointer (some ⟨d,0,none⟩),.agg #[.int .i64 1,.int .i64 x,.int .i64 y,.int .i64 a,.int .i64 b,.string s,.string t]] w λe G=>e=.returned (.bool true)/\(∃ ds',WOk I base (T+2) G d ds')/\Below base w G:=by
 have C:=h;obtain⟨p,nk,l,xs,F,B,g,i,m,n⟩:=h.hW;have L:=zh C;have ac:=ζ g;have ae:=h.hbs;have H:=zh (n4 g i m n);clear h C;go_enter func78,ntmps78;go_wp2_with fail;obtain⟨f,D,u,j,o⟩:∃ f,f=w.alloc (.cells #[ϊ 1,ϊ x,ϊ y,ϊ a,ϊ b,.string s,.string t] 66)/\Ϙ f w.heap.size (.cells #[ϊ 1,ϊ x,ϊ y,ϊ a,ϊ b,.string s,.string t] 66)/\Ϙ f d (qD6 p nk l F q.length B)/\Kp [] w f:=⟨_,rfl,υ _ _,ρ _ g,kF.alloc _⟩;rw[<-D];clear D;have r:=qQ1 i o.drew (Apart.nil _ _);have U:=o.size;obtain⟨v5,w5,Q,A,z⟩:=zT0 (f.drew.alloc (.cells #[ϊ a] 3)) base f.drew.heap.size (.slice p nk l) nk xs (ϊ a) 24 3 24 (ϊ 0) underlying24 zG0 rfl (r.alloc _) oM (υ _ _) rfl sO;obtain⟨g5,c5,rfl⟩:=qL7 A;have v:Ϙ w5 d (qD6 p nk l F q.length B):=by
  have O:=qJ1 r;refine Kp.heap (S:=(Value.slice p nk l).ownBlock.toList) (((Kp.refl _ f.drew).alloc _).grown z (λk P=>Or.inl (by simp[P]))) j (λhm=>?_);obtain⟨_,c,E⟩:=O _ hm;rw[show f.drew.heap[d]?=f.heap[d]? from rfl,j] at E;cases E
 have J:=zh z;have N:=zh A;have M:=zh o;have V:=ξ j 0;simp only[qD6,zG,zH,zI] at V;have o3:=ϻ u 3;have Z:=ξ v 0;simp only[qD6,zG,zH,zI] at Z;have aa:=ψ v 0;have ad:=ζ j;have ab:=ζ u;clear A z o v g i m n r U j u;refine shr (α:=Prop) (R:=λX=>X) ?_;apply Exists.intro;apply And.intro
 rotate_left
 .intro HREST;refine wp_region_any kR ?_;change wpAny _ _ _ _ _ _ _ (World.drew _);refine zu 0 (ϖ d) ?_;refine zu 1 (ϖ d) ?_;refine zu 2 (ϖ d) ?_;refine zu 3 (ϖ d) ?_;refine zu 5 (.pointer (some ⟨w.heap.size,3,none⟩)) ?_;refine wpAny_ready (rs:=[4,6]) kR sM ?_;refine AllReady.cons rfl (λK hK=>?_) (AllReady.cons rfl (λK hK=>?_) AllReady.nil)
  .skip
   go_simp;refine hK _ _ ?_
   try simp only[zZ]
   refine zQ 6 λK hK=>?_;go_simp;refine hK _ _ ?_
   try simp only[zZ]
   refine zQ 7 λK hK=>?_;refine qF2 rfl (qP5 rfl (ϊ a) _ _ _ underlying24 zG0 rfl rfl dC dC) ?_;refine hK _ _ ?_
   try simp only[zZ]
   exact HREST
  .skip
   go_simp;refine hK _ _ ?_
   try simp only[zZ]
   refine wpAny_ready (rs:=[4,7]) kR sM ?_;refine AllReady.cons rfl (λK hK=>?_) (AllReady.cons rfl (λK hK=>?_) AllReady.nil)
   .skip
    go_simp;refine hK _ _ ?_
    try simp only[zZ]
    refine zQ 7 λK hK=>?_;refine qF2 rfl (qP5 rfl (ϊ a) _ _ _ underlying24 zG0 rfl rfl dC dC) ?_;refine hK _ _ ?_
    try simp only[zZ]
    exact HREST
   .skip
    refine qF2 rfl (qP5 rfl (ϊ a) _ _ _ underlying24 zG0 rfl rfl dC dC) ?_;refine hK _ _ ?_
    try simp only[zZ]
    refine zQ 4 λK hK=>?_;go_simp;refine hK _ _ ?_
    try simp only[zZ]
    exact HREST
 refine zQ 8 λK hK=>?_;refine qF2 rfl (xC6 rfl rfl rfl Q) ?_;refine hK _ _ ?_
 try simp only[zZ]
 refine zu 9 (ϖ d) ?_;refine zu 10 (ϖ d) ?_;refine zQ 11 λK hK=>?_;go_simp;refine hK _ _ ?_;refine wpAny_done kR ?_ _;go_wp2;go_ret;obtain⟨g,i,m,n⟩:=H.out;obtain⟨W,Y⟩:=L.out.grew g i m n M.drew _ N J (iR _);exact⟨rfl,⟨_,W⟩,Y⟩
def zL1(I:DInv)(ks:List Int):Prop:=∀ (base Wb:Nat) (T:Int) (ds:List I.G) (o:SOp) (w:World),WOk I base T w Wb ds→Fit ks o→26000≤T→T≤60000→
 Calls prog 40 #[.pointer (some ⟨Wb,0,none⟩),.agg #[.int .i64 o.k,.int .i64 o.x,.int .i64 o.y,.int .i64 o.a,.int .i64 o.b,.string o.s,.string o.t]] w fun e w'=>e=.returned (.bool true)∧(∃ ds',WOk I base (T+2) w' Wb ds')∧Below base w w'
theorem kO7(I:DInv)(ks:List Int)(B:zL1 I ks)(p)(n cap:Nat)(f:Nat->SOp)(w)(O:n<=16384)(k:0<w.heap.size)(s:w.cell? ⟨0,0,none⟩=some qF5)(o:Script w p n f)(r:∀ i,i<n->Fit ks (f i)):
  Calls prog 17 #[.slice p n cap] w λe K=>e=.returned (.int .i64 (-1))/\Kp [] w K:=by
 have x:=zh o;have v:=zh r;have l:Kp [] w (w.alloc (qD6 none 0 0 none 0 0)):=kF.alloc _;have y:Hid (WOk I w.heap.size 26000 (w.alloc (qD6 none 0 0 none 0 0)) w.heap.size []):=by
  exact⟨iR _,k,sM,(l.cell (a:=⟨0,0,none⟩) k sM).trans s,lR,⟨none,0,0,[],none,0,υ _ _,wN _ _ _ _,sM,wN _ _ _ _⟩,sM,sM,List.Pairwise.nil⟩
 have t:=zh (l.below lR sM);clear o r k s l;go_enter func17,ntmps17;go_wp2
 go_loopw [4] (λi wr=>∃ (j:Nat) (g:List I.G),j<=n/\i=.int .i64 j/\WOk I w.heap.size (26000+2*j) wr w.heap.size g/\Below w.heap.size w wr) (λi _=>n-(intOf i).toNat)
 case atStart=>exact⟨0,[],zL _,rfl,y,t⟩
 case round=>
  obtain⟨j,g,N,rfl,q,m⟩:=hrel;have z:=zh q;have d:=zh m;clear q m;by_cases c:j<n
  .obtain⟨L,P,rfl,M,b⟩:=(x.keep (Kp.of_below d lR)) oM;have c0:=b j c 0 dC;have C:=b j c 1 dC;have D:=b j c 2 dC;have E:=b j c 3 dC;have F:=b j c 4 dC;have G:=b j c 5 dC;have H:=b j c 6 dC;simp only[SOp.cells,zH,zI,Nat.add_zero] at c0 C D E F G H;have J:(j:Int)<(n:Int):=oM
   clear b;go_wp2_with fail;refine (B w.heap.size w.heap.size (26000+2*j) g (f j) wr z (v j c) oM oM).mono ?_;rintro e Q ⟨rfl,⟨ds',hW2⟩,hB2⟩;have A:=zh hW2;have u:=zh hB2;clear hW2 hB2;go_wp2;exact⟨⟨j+1,ds',oM,by go_num,by have h:=A.out;rw[show ((26000+2*j+2:Int))=26000+2*((j+1:Nat):Int) by omega] at h;exact h,d.trans u⟩,by simp[intOf];omega⟩
  .have J:¬(j:Int)<(n:Int):=oM
   go_wp2;go_ret;exact⟨rfl,Kp.of_below d lR⟩
end Go.Proofs.YtdohpenfkdckiaaGreatDoor.Gw
namespace Go.Proofs.YtdohpenfkdckiaaGreatDoor
open Go.Proofs.Tryz
open Go.RowKit
theorem jR2{k}(h:1<=k.size):kl ⟨#[]⟩ k=true:=by
 by_cases e:kl ⟨#[]⟩ k=true
 .exact e
 .have c:=qZ8 (a:=⟨#[]⟩) (b:=k) (by simpa using e) (qN2 k);rw[<-c] at h;exact absurd h dC
theorem kL7(V A N C:Nat)(l)(f:Int)(r:N<=1000)(u:N*128<=l.length)(m:C≠A)(t:V≠A)(n b:Nat)(s:Int)(L)(w)(F:Devl V A N C l f w)(g:Laid N l n b s L.sub)(aa:L.ref=some (b,s))(j:RGood (.at n L))(ai:qB1 n L.sub<=100000):
  Calls prog 144 #[τ V ⟨⟨#[]⟩,b,s,none⟩] w λe d=>e=.returned (.int .i64 (qB1 n L.sub))/\Devl V A N C l f d/\Kp [A] w d:=by
 have Z:Lie N l b s (.at n L):=⟨b,rfl,aa,g⟩;have I:=j.1;have M:Hid (∀ W,Kp [] w W->Ω 92 #[τ V ⟨⟨#[]⟩,b,s,none⟩] W λe d=>e=ϱ (.bool false)/\Kp [] W d):=λW hW=>by
  have hr:RR (EL V A N C l f r u m t).toEnv W ⟨⟨#[]⟩,b,s,none⟩ (.at n L):=Z.rr j W;exact qZ0 (EL V A N C l f r u m t).toEnv n ⟨⟨#[]⟩,b,s,none⟩ L W hr I
 have H:Good n ⟨#[]⟩ L.sub:=by have:=j.2.1;rw[I] at this;exact this
 have ac:=zh (λW G x y=>jE7 V A N C l f r u m t n b s L.sub G 0 ⟨#[]⟩ W x g y oM oM j.2.2 (by have:=zO9 g;omega));have ae:Hid (∀ W G q,Devl V A N C l f W->W.heap[G]?=some (qB3 V (0+1) ⟨#[]⟩)->RN (Laid N l) n W q L.sub->Ω 210 #[ϖ G,.agg #[.string ⟨#[]⟩,ϊ b,.int .u64 s,.pointer none],ϖ q] W λe d=>e=ϱ (.tuple #[])/\(∃ k,d.heap[G]?=some (qB3 V (qB1 n L.sub) k))/\Devl V A N C l f d/\Kp [A,G] W d):=λW G q x y h3=>by
  have h:=xT1 V A N C l f r u m t n L.sub q G ⟨⟨#[]⟩,b,s,none⟩ _ _ b s W x y h3 g H (λp hp=>jR2 ((qK5 n _ _ H).2 p hp).1.1) oM oM;refine h.mono ?_;rintro e d ⟨e1,e2,e3⟩;refine⟨e1,⟨qE0 ⟨#[]⟩ (cont n L.sub),?_⟩,e3⟩;rw[e2]
  congr 2
  omega
 have HD:=zh F;have ag:A<w.heap.size:=by obtain⟨c,h⟩:=F.hA;exact ζ h
 clear F g aa j H Z I;rw[show τ V ⟨⟨#[]⟩,b,s,none⟩=.agg #[ϖ V,.string ⟨#[]⟩,ϊ b,.int .u64 s,.pointer none] from rfl] at M |-;go_enter func144,ntmps144;go_wp2_with fail;obtain⟨w0,J,X,R,z,af⟩:=alC w (.cells #[ϖ V,.string ⟨#[]⟩,ϊ b,.int .u64 s,.pointer none] 89) (qB3 V 0 ⟨#[]⟩)
 rw[qB3] at J;rw[<-J];clear J;refine (show Calls _ _ _ _ _ from M w0 z).mono ?_;rintro e v ⟨rfl,o⟩;have ad:=zh (o.hp X);have ab:=zh (o.hp R);have O:=zh (z.tr o);clear z o X R af;go_wp2_with fail;have D:Kp [] v v.drew:=(Kp.refl [] _).drew;have Q:=qD0 HD (O.tr D) (by intro k hk;cases hk);have a:v.drew.heap[w.heap.size]?=some (.cells #[ϖ V,.string ⟨#[]⟩,ϊ b,.int .u64 s,.pointer none] 89):=ad.out;refine wp_region_held_drew (S:=λW=>W.heap[w.heap.size]?=some (.cells #[ϖ V,.string ⟨#[]⟩,ϊ b,.int .u64 s,.pointer none] 89)) kR a (λ_=>?_);refine zU 0 (ϖ (w.heap.size+1)) a ?_;refine zP 1 w.heap.size 1 a ?_;refine zW 2 (.agg #[.string ⟨#[]⟩,ϊ b,.int .u64 s,.pointer none]) a id ?_;refine zU 3 (ϖ (w.heap.size+1)) a ?_;refine zP 4 w.heap.size 1 a ?_;refine zP 5 w.heap.size 2 a ?_;refine zW 6 (.agg #[ϊ b,.int .u64 s]) a id ?_;refine zq 7 λK hK=>?_;go_simp;refine (show Calls _ _ _ _ _ from ac v.drew _ Q ab).mono ?_;rintro e w2 ⟨q2,rfl,U,P,T,B⟩;have E:=B.ho a;refine zk hK E ?_
 refine zq 8 λK hK=>?_;go_simp;refine (show Calls _ _ _ _ _ from ae w2 _ q2 P T U).mono ?_;rintro e w3 ⟨rfl,⟨kx,hG3⟩,hD3,hK3⟩;refine hK.out _ _ (hK3.ho E) (λ_=>?_);refine zd ?_
 try simp only[zZ]
 have HE:=zh (n2 hD3 (((O.tr D).mono (S':=[A]) sM).trans (B.tr hK3) (by intro i Y aj;simp at Y |-;rcases Y with h | h;exact h;omega)));have ah:=ζ hG3;have g1:=ξ hG3 1;simp only[qB3,zG,zH,zI] at g1;clear hG3 hD3 hK3 E U P T B a Q D;go_wp2;go_ret;exact⟨rfl,HE⟩
open Go.Maps (Keyed)
theorem jE0(b x n V:Nat)(t)(s)(D)(w)(c:w.heap[b]?=some (.cells #[.pointer (some ⟨x,0,none⟩)] 32))(a:w.heap[x]?=some (qA5 t))(g:w.heap[t.St]?=some (ν 1 s))(p:RM w s.V s.M n D)(Q:0<=t.nr)(R:t.nr<=1000000000)(r:s.M≠t.St)(C:x≠t.St)(B:x≠s.M)(v:b≠s.M)(Y:s.M<w.heap.size)(S:t.on=some ⟨V,0,none⟩)(T:t.wrt=false):
  Calls prog 68 #[.pointer (some ⟨b,0,none⟩)] w λe j=>e=qB7 none/\j.heap[x]?=some (qA5 t.ended)/\j.heap[t.St]?=some (ν 1 (s.left t.nr))/\RM j s.V s.M n (D.del (ι t.nr))/\Kp [t.St,x,s.M] w j:=by
 have ae:=ζ a;have ab:=ζ c;have Z:=ζ g;have z:b≠x:=zB0 c a dC;have y:b≠t.St:=zB0 c g dC;have E:=ϻ c 0;have m:=ξ a 4;have G:=ξ a 5;have H:=ξ a 6;have I:=ξ a 7;have J:=ξ a 8;simp only[qA5,zG,zH,zI] at m G H I J;rw[S] at m;have P:=zh a;have O:=zh c;have N:=zh g;have L:=zh p;have M:Hid (s.M≠t.St/\x≠t.St/\x≠s.M/\b≠s.M/\b≠x/\b≠t.St):=⟨r,C,B,v,z,y⟩;clear a c g p r C B v z y;go_enter func68,ntmps68;go_wp2_with fail;obtain⟨W,A,X,f,ac⟩:=alB w (.cells (ϟ V t.h) 89);rw[<-A];clear A E m G H I J;obtain⟨U,n2,n3,n4,n5,n6⟩:=M.out;refine (qV6 x n t s D W (f.hp P) (f.hp N) (L.kp f sM) Q R U n2 n3).mono ?_;rintro e d ⟨rfl,i,u,q,o⟩;have k:Kp [t.St,x,s.M] w d:=(f.mono sM).trans o (λ_ h _=>h);have l:=k.heap O (by simp;exact⟨n6,n5,n4⟩);have aa:=ζ l;have ad:=ζ i;have E:=ϻ l 0;have F:=ξ i 2;simp only[qA5,Tx.ended,zG,zH,zI] at F;rw[T] at F;have K:Hid (Ϙ d x (qA5 t.ended)/\Ϙ d t.St (ν 1 (s.left t.nr))/\RM d s.V s.M n (D.del (ι t.nr))/\Kp [t.St,x,s.M] w d):=⟨i,u,q,k⟩;clear k u q o l i;go_wp2
 go_end0
 exact⟨rfl,K⟩
theorem kM1(x n V:Nat)(t)(s)(D)(w)(j:w.heap[x]?=some (qA5 t))(F:t.over=false)(k:w.heap[t.St]?=some (ν 0 s))(H:s.po=false)(B:RM w s.V s.M n D)(y:0<=t.nr)(z:t.nr<=1000000000)(c:s.M≠t.St)(a:x≠t.St)(m:x≠s.M)(L:s.M<w.heap.size)(G:t.on=some ⟨V,0,none⟩)(J:t.wrt=false):
  Calls prog 31 #[.pointer (some ⟨x,0,none⟩)] w λe d=>e=.returned .nilIface/\d.heap[x]?=some (qA5 t.ended)/\d.heap[t.St]?=some (ν 0 (s.left t.nr))/\RM d s.V s.M n (D.del (ι t.nr))/\Kp [t.St,x,s.M] w d:=by
 have N:=zM;have P:=ζ j;have M:=ζ k;go_enter func31,ntmps31;go_wp2_with fail;obtain⟨K,l,A,b,O⟩:=alB w (.cells #[ϖ x] 32);rw[<-l];clear l;refine (qT4 none dC x t.St 68 t s (s.left t.nr) #[] #[ϖ w.heap.size] _ [x,s.M] (λW f=>Ϙ f x (qA5 t.ended)/\RM f s.V s.M n (D.del (ι t.nr))) K (b.hp j) F rfl (b.hp k) H a (zZ3 _) (by intro i hi;simp at hi;omega) ?_).mono ?_
 .intro W hK C;have g:=(b.mono sM).trans hK (λ_ h _=>h);have E:w.heap.size≠t.St:=oM
  refine (jE0 w.heap.size x n V t s D W (hK.heap A (by simp;exact E)) (g.heap j (by simp;exact a)) C (B.kp g (by simp;exact c)) y z c a m oM (by have:=g.size;omega) G J).mono ?_;rintro e f ⟨rfl,p,q,r,u⟩;exact⟨rfl,⟨p,r⟩,u,q⟩
 rintro e Q ⟨v,rfl,hv,hSt2,hK2,W,f,Bb,⟨ha,hb⟩,hKW,hB1,hB2,hB3,hKB⟩;have I:v=.nilIface:=hv;subst I;have o:=zh (n4 (hKB.heap ha (by simp;exact⟨a,oM⟩)) hSt2 (hb.kp hKB (by simp;exact⟨c,oM⟩)) ((b.mono sM).trans hK2 (λ_ h _=>h)));clear hv ha hb hSt2 hK2 hKW hKB hB3 c a m;go_wp2;go_ret;exact⟨rfl,o⟩
theorem kM0(x:Nat)(t)(s)(w)(j:w.heap[x]?=some (qA5 t))(o:t.over=true)(n:w.heap[t.St]?=some (ν 0 s))(p:s.po=false)(k:x≠t.St):
  Calls prog 31 #[.pointer (some ⟨x,0,none⟩)] w λe b=>∃ v,e=.returned v/\ErrV b v (some 5)/\b.heap[t.St]?=some (ν 0 s)/\Kp [t.St] w b:=by
 have r:=zM;have y:=ζ j;go_enter func31,ntmps31;go_wp2_with fail;obtain⟨q,i,m,a,u⟩:=qD5 w (.cells #[ϖ x] 32);rw[<-i];clear i;refine (qZ6 x t.St 68 t s #[] #[ϖ w.heap.size] _ q (a.hp j) o rfl (a.hp n) p k).mono ?_;rintro e c ⟨v,rfl,g,f,d⟩;have l:=hid (show ErrV c v (some 5)/\Ϙ c t.St (ν 0 s)/\Kp [t.St] w c from⟨g,f,(a.mono sM).trans d (λ_ h _=>h)⟩);clear g f d k m a;go_wp2;go_ret;exact⟨v,rfl,l⟩
section
variable {w:World} {db St A C N nM:Nat} {s:Sto} {D:DataW Unit} {l:List UInt8} {wr:Int} {nw:Root}
theorem Sh.turn(a:Sh w db St A C N nM s D l wr nw){w'}{L}(hK:Kp L w w')(m:db ∉ L)(n:Devl s.V A N C l wr w'){s'}{b:Nat}{D'}(e:s'.V=s.V/\s'.N=s.N/\s'.rb=s.rb/\s'.rs=s.rs/\s'.bl=s.bl/\s'.po=s.po)
  (hSt:w'.heap[St]?=some (ν 0 s')) (hM:RM w' s'.V s'.M b D') (m4:Maps.size D'<=4) (n1:b<=1000000) (bg0:0<=s'.bg) (kb:∀ k,Maps.has D' k=true->∃ x,k=ι x/\1<=x/\x<=s'.bg)
  (rd:∀ x h,Maps.has D' (ι x)=true->(∀ zd,D'.atKey (ι x) zd=qG2 h)->h.p=none->h.key=⟨#[]⟩/\∃ r,Lie N l h.b h.s r/\RGood r):Sh w' db St A C N b s' D' l wr nw:=by
 obtain⟨g,i,c,d,f,j⟩:=e;exact { hDb:=hK.heap a.hDb m,hSt:=hSt,po:=by rw[j];exact a.po,hM:=hM,m4:=m4,n1:=n1,dev:=by rw[g];exact n,N8:=a.N8,N4:=a.N4,len:=a.len,lie:=by rw[c,d];exact a.lie,good:=a.good,heads:=by rw[i,c,d];exact a.heads,bl0:=by rw[f];exact a.bl0,bl1:=by rw[f];exact a.bl1,bg0:=bg0,kb:=kb,rd:=rd }
theorem Sh.neDb(a:Sh w db St A C N nM s D l wr nw):db≠St/\db≠A/\db≠C/\db≠s.M:=by
 obtain⟨c,h⟩:=a.hA;exact⟨qA1 a.hDb a.hSt dC,qA1 a.hDb h dC,qA1 a.hDb a.dev.hC dC,qD3 a.hDb a.hM⟩
theorem Sh.quiet(a:Sh w db St A C N nM s D l wr nw){w'}{x:Nat}{c}(b:w.heap[x]?=some (.cells c 99))(hK:Kp [St,x,A] w w')(i:Devl s.V A N C l wr w')(h:w'.heap[St]?=some (ν 0 s)):Sh w' db St A C N nM s D l wr nw:=by
 obtain⟨j,n2,n3,n4⟩:=a.neDb;obtain⟨cA,g⟩:=a.hA;have d:=(qD3 a.hSt a.hM).symm;have e:=(qD3 b a.hM).symm;have f:=(qD3 g a.hM).symm;exact a.turn hK (by simp[j,n2];exact qA1 a.hDb b dC) i ⟨rfl,rfl,rfl,rfl,rfl,rfl⟩ h (a.hM.kp hK (by simp[d,e,f])) a.m4 a.n1 a.bg0 a.kb a.rd
theorem Sh.live(a:Sh w db St A C N nM s D l wr nw){x:Nat}{t}(hx:w.heap[x]?=some (qA5 t))(c:t.over=false)(d:t.on=some ⟨s.V,0,none⟩)(e:t.St=St)(b:t.h=⟨⟨#[]⟩,s.rb,s.rs,none⟩)(f:t.ch=0): LiveT a.E w x A N t s nw:=
 { hx:=hx,over:=c,on:=d,hSt:=by rw[e];exact a.hSt,po:=a.po,sV:=rfl,hV:=a.dev.hV,n1:=a.N1,bl0:=a.bl0,bl1:=by have:=a.bl1;have:=(qW5 a.lie a.good a.N4).2;omega,dev:=a.dev,vS:=by show s.V ∉ [A];simpa using a.VA,rr:=by rw[b];exact a.lie.rr a.good w,good:=a.good,sz:=by have:=(qW5 a.lie a.good a.N4).2;omega,ch0:=oM,ch1:=by omega }
theorem Sh.beginW(a:Sh w db St A C N nM s D l wr nw)(m:s.wr=0)(i:s.bg<=100000000):
  Calls prog 29 #[.pointer (some ⟨db,0,none⟩),.bool true] w λe b=>∃ x t,e=.returned (.tuple #[.pointer (some ⟨x,0,none⟩),.nilIface])/\w.heap.size<=x/\t.St=St/\t.nr=s.bg+1/\t.wrt=true/\t.ch=0/\t.h=⟨⟨#[]⟩,s.rb,s.rs,none⟩/\Kp [St] w b/\∃ c:Sh b db St A C N nM s.wrote D l wr nw,LiveT c.E b x A N t s.wrote nw:=by
 obtain⟨d,n2,n3,n4⟩:=a.neDb;have f:=(qD3 a.hSt a.hM).symm;refine (xZ0 db St nM s D w a.hDb a.hSt a.hM a.po d f a.hM.lt m a.bg0 i).mono ?_;rintro e b ⟨x,rfl,o,n,h,g,hK⟩;have c:Sh b db St A C N nM s.wrote D l wr nw:=a.turn hK (by simpa using d) (qD0 a.dev hK (OffD.one a.hSt dC)) ⟨rfl,rfl,rfl,rfl,rfl,rfl⟩ h g a.m4 a.n1 (by show 0<=s.bg+1;have:=a.bg0;omega) (λk j=>by obtain⟨y,e1,e2,e3⟩:=a.kb k j;exact⟨y,e1,e2,by show y<=s.bg+1;omega⟩) a.rd;exact⟨x,_,rfl,o,rfl,rfl,rfl,rfl,rfl,hK,c,c.live n rfl rfl rfl rfl rfl⟩
theorem Sh.beginR(a:Sh w db St A C N nM s D l wr nw)(r:Maps.size D<4)(I:nM<=999999)(z:s.bg<=100000000):
  Calls prog 29 #[.pointer (some ⟨db,0,none⟩),.bool false] w λe b=>∃ x t D',e=.returned (.tuple #[.pointer (some ⟨x,0,none⟩),.nilIface])/\w.heap.size<=x/\t.St=St/\t.nr=s.bg+1/\t.wrt=false/\t.ch=0/\t.h=⟨⟨#[]⟩,s.rb,s.rs,none⟩/\Kp [St,s.M] w b/\D'=D.put (ι (s.bg+1)) (qG2 ⟨⟨#[]⟩,s.rb,s.rs,none⟩)/\∃ d:Sh b db St A C N (nM+1) s.read D' l wr nw,LiveT d.E b x A N t s.read nw:=by
 obtain⟨n,n2,n3,n4⟩:=a.neDb;have q:=(qD3 a.hSt a.hM).symm;refine (xY9 db St nM s D w a.hDb a.hSt a.hM a.po n q n4 a.hM.lt r oM a.bg0 z).mono ?_;rintro e b ⟨x,rfl,G,F,v,u,hK⟩;have E:=(OffD.one a.hSt dC).cons (λk f c J H e=>by rw[mS f] at e;exact absurd rfl (qD3 e a.hM));have B:Maps.has D (ι (s.bg+1))=false:=by
  cases hh:Maps.has D (ι (s.bg+1)) with
  | false=>rfl
  | true=>obtain⟨y,g,i,o⟩:=a.kb _ hh;cases g;omega
 have m:=a.hM.tidy qM3;have d:Sh b db St A C N (nM+1) s.read (D.put (ι (s.bg+1)) (qG2 ⟨⟨#[]⟩,s.rb,s.rs,none⟩)) l wr nw:=by
  refine a.turn hK (by simp[n,n4]) (qD0 a.dev hK E) ⟨rfl,rfl,rfl,rfl,rfl,rfl⟩ v u ?_ oM (by show 0<=s.bg+1;have:=a.bg0;omega) (λk f=>?_) (λy h g1 g2 g3=>?_)
  .rw[Maps.size_put m,if_neg (by simp[B])];omega
  .by_cases e:k=ι (s.bg+1)
   .exact⟨s.bg+1,e,by have:=a.bg0;omega,iR _⟩
   .rw[Maps.has_put_other e] at f;obtain⟨y,g,i,o⟩:=a.kb k f;exact⟨y,g,i,by show y<=s.bg+1;omega⟩
  .by_cases e:ι y=ι (s.bg+1)
   .rw[e] at g2;have j:=g2 (.lit (.int .i64 0));rw[Maps.atKey_put_same m.isMap (show WideAt.IsKeyLit (ι _) from trivial)] at j;have p:=zU3 j.symm g3 rfl;rw[p];exact⟨rfl,nw,a.lie,a.good⟩
   .rw[Maps.has_put_other e] at g1;exact a.rd y h g1 (λzd=>by rw[<-g2 zd,Maps.atKey_put_other e]) g3
 exact⟨x,_,_,rfl,G,rfl,rfl,rfl,rfl,rfl,hK,rfl,d,d.live F rfl rfl rfl rfl rfl⟩
theorem Sh.leave(F:Nat)(a:Sh w db St A C N nM s D l wr nw){x:Nat}{t}{r}(f:LiveT a.E w x A N t s r)(n:t.St=St)(j:Calls prog F #[.pointer (some ⟨x,0,none⟩)] w λe b=>e=.returned .nilIface/\b.heap[x]?=some (qA5 t.ended)/\b.heap[t.St]?=some (ν 0 (s.left t.nr))/\RM b s.V s.M nM (D.del (ι t.nr))/\Kp [t.St,x,s.M] w b):
  Calls prog F #[.pointer (some ⟨x,0,none⟩)] w λe b=>e=.returned .nilIface/\b.heap[x]?=some (qA5 t.ended)/\Sh b db St A C N nM (s.left t.nr) (D.del (ι t.nr)) l wr nw/\Kp [St,x,s.M] w b:=by
 subst n;obtain⟨q,n2,n3,n4⟩:=a.neDb;have m:=(OffD.one f.hSt dC).cons ((OffD.one f.hx dC).cons (λk d c v u e=>by rw[mS d] at e;exact absurd rfl (qD3 e a.hM)));refine j.mono ?_;rintro e b ⟨rfl,p,i,g,hK⟩;have o:=a.hM.tidy qM3;refine⟨rfl,p,a.turn hK (by simp[q,n4];exact qA1 a.hDb f.hx dC) (qD0 a.dev hK m) ⟨rfl,rfl,rfl,rfl,rfl,rfl⟩ i g ?_ a.n1 a.bg0 (λk d=>?_) (λy h g1 g2 g3=>?_),hK⟩
 .have:=Maps.size_del (k:=ι t.nr) o;have:=a.m4;omega
 .by_cases e:k=ι t.nr
  .rw[e,Maps.has_del_same] at d;cases d
  .rw[Maps.has_del_other e] at d;exact a.kb k d
 .by_cases e:ι y=ι t.nr
  .rw[e,Maps.has_del_same] at g1;cases g1
  .rw[Maps.has_del_other e] at g1;exact a.rd y h g1 (λzd=>by rw[<-g2 zd,Maps.atKey_del_other e]) g3
theorem Sh.abort(a:Sh w db St A C N nM s D l wr nw){x:Nat}{t}{r}(b:LiveT a.E w x A N t s r)(d:t.St=St)(f:0<=t.nr)(g:t.nr<=1000000000):
  Calls prog 36 #[.pointer (some ⟨x,0,none⟩)] w λe c=>e=.returned .nilIface/\c.heap[x]?=some (qA5 t.ended)/\Sh c db St A C N nM (s.left t.nr) (D.del (ι t.nr)) l wr nw/\Kp [St,x,s.M] w c:=
 a.leave _ b d (xU5 x nM t s D w b.hx b.over b.hSt a.po a.hM f g (by rw[d];exact (qD3 a.hSt a.hM).symm) b.xS (qD3 b.hx a.hM) a.hM.lt)
theorem Sh.commitR(a:Sh w db St A C N nM s D l wr nw){x:Nat}{t}{r}(b:LiveT a.E w x A N t s r)(d:t.St=St)(f:0<=t.nr)(g:t.nr<=1000000000)(h:t.wrt=false):
  Calls prog 31 #[.pointer (some ⟨x,0,none⟩)] w λe c=>e=.returned .nilIface/\c.heap[x]?=some (qA5 t.ended)/\Sh c db St A C N nM (s.left t.nr) (D.del (ι t.nr)) l wr nw/\Kp [St,x,s.M] w c:=
 a.leave _ b d (kM1 x nM s.V t s D w b.hx b.over b.hSt a.po a.hM f g (by rw[d];exact (qD3 a.hSt a.hM).symm) b.xS (qD3 b.hx a.hM) a.hM.lt b.on h)
theorem Sh.again(c:Sh w db St A C N nM s D l wr nw){w'}{x:Nat}{t}{r}(a:LiveT c.E w x A N t s r)(f:t.St=St)(b:BadT c.E w w' t s):∃ g:Sh w' db St A C N nM s D l wr nw,LiveT g.E w' x A N t s r:=by
 obtain⟨cA,e⟩:=c.hA;have d:Kp [t.St,A] w w':=b.kp;have h:Apt w [t.St,A] qF1:=(Apt.one a.hSt dC).cons (Apt.one e dC);refine⟨c.quiet a.hx (d.mono (by rw[f];intro i j _;simp at j |-;omega)) b.dev (by rw[<-f];exact b.hSt),?_⟩;exact { a with hx:=d.heap a.hx (by simp[a.xS,qA1 a.hx e dC]),hSt:=b.hSt,hV:=d.heap a.hV (by simp[qA1 a.hV a.hSt dC,qA1 a.hV e dC]),dev:=b.dev,rr:=a.rr.keepT d h }
end
end Go.Proofs.YtdohpenfkdckiaaGreatDoor
