import Derived.Test.YtdohpenfkdckiaaGreatDoorJ07
import Derived.BigRegion
set_option linter.all false
set_option maxRecDepth 100000
set_option maxHeartbeats 0
namespace Go.Proofs.YtdohpenfkdckiaaGreatDoor
open Go.Proofs.Tryz Go.RowKit
variable {κ:Kd}
def Qg(A n C:Nat)(cache)(b d:Int)(i:Int)(w)(h:w.heap[A]?=some (Bi κ n C cache b d))(f:0<=i)(g:i<n):Ω 330 #[ϖ A,ϊ i] w λe c=>e=ϱ (ϐ false)/\c=w:=by
 have a:=Y h 0;simp at a;clear h;go_enter func330,ntmps330;go_wp2;go_ret;exact⟨rfl,rfl⟩
def Kl{A n C:Nat}{v:Value}{a b:Int}{w:Ϣ}(h:w.heap[A]?=some (Bi κ n C v a b)):((w.setCell (ϰ A 2) (ϊ (nx a))).setCell (ϰ A 4) (ϊ (nx κ.told))).heap[A]?=some (Bi κ.up n C v (nx a) b):=η (η h 2 _) 4 _
def Kk(A:Nat)(a b)(w):Kp [A] w ((w.setCell (ϰ A 2) a).setCell (ϰ A 4) b):=((Kp.refl _ _).sc _).sc _
def GJ{l}{i n:Nat}(b:n*128<=l.length)(a:i<n):(ρ l i).length=128:=by simp[ρ];omega
def Rt{n:Nat}{a:ϥ}{b:ϧ}(f:∀x∈a,x.1<n/\x.2.length=128)(c:b.toList.take (a.length*129)=a.flatMap B5)(j:Nat)(e:j<a.length):Am b (j*129) 129=(B5 a[j]).toArray:=by
 have d:=Lj B5 129 a (λx g=>by simp[B5,H8,(f x g).2]) j e;have:j*129+129<=a.length*129:=oM
 unfold Am
 congr 1
 rw[<-d,<-c,List.drop_take,List.take_take]
 congr 1
 omega
def Ru{x:Nat×ϣ}(h:x.2.length=128):((B5 x).toArray).size=129/\((B5 x).toArray)[0]?=some (ϊ (x.1:Int))/\Am (B5 x).toArray 1 128=enc x.2/\∀v∈(B5 x).toArray.toList,v.oneCell'=true:=by
 have c:(B5 x).toArray=(ϊ (x.1:Int)::(enc x.2).toList).toArray:=by simp[B5,enc]
 have b:(enc x.2).size=128:=by rw[CF];exact h
 rw[c];refine⟨by simp[b],rfl,by simp[Am,List.take_of_length_le,b],λv a=>?_⟩;simp at a;rcases a with rfl|a
 .rfl
 .exact (Ds x.2).one v (by simpa using a)
def Sg(κ:Kd)(A n C:Nat)(v:Value)(b c:Int)(l:ϣ)(i:Nat)(w:Ϣ)(e:Ending)(a:Ϣ):Prop:=
 ((¬κ.quiet/\e=ϱ (.tuple #[.slice none 0 0,Fd])/\a.heap[A]?=some (Bi κ.up n C v (nx b) c))\/
  ∃g,e=ϱ (.tuple #[.slice (some (ϰ g 0)) 128 128,.nilIface])/\w.heap.size<=g/\a.heap[g]?=some (ϲ (enc (ρ l i)) 5)/\a.heap[A]?=some (Bi κ n C v (nx b) c))/\Kp [A] w a
def ZX(A n C ah:Nat)(v)(a)(c m:Int)(i:Nat)(l)(w)(h:w.heap[A]?=some (Bi κ n C v c m)) (hv:w.ownsRow ah 117 129 v a.length (a.flatMap B5)) (S:∀x∈a,x.1<n/\x.2.length=128) (ar:a.length<=100000) (hi:i<n) (hn:n<=1000) (V:w.heap[C]?=some (ϲ (enc l) 115)) (hs:n*128<=l.length) (ai:C≠A):Ω 327 #[ϖ A,ϊ i] w (Sg κ A n C v c m (laidAll l a) i w):=by (obtain⟨s,f,rfl⟩:∃s f,v=ϒ s a.length f:=by rcases hv.2 with⟨rfl,hl0⟩|⟨g,z,o,rfl,_⟩;rw[hl0];exact⟨_,_,rfl⟩;exact⟨_,_,rfl⟩);(have al:n*128<=(enc l).size:=by rwa[CF]);have T:=Y h 0;have K:=Y h 1;simp at T K;have:=U h;have:=U V;go_enter func327,ntmps327;go_wp2_with fail;apply(Jr A n C _ c m _ h).mono;rintro e w1 (⟨rfl,rfl⟩|⟨hq,rfl,rfl⟩);rotate_left;(.have d:=zh<|n2 hq<|Kl h;clear hq;go_wp2;go_ret2;exact⟨.inl ⟨d.1,rfl,d.2⟩,Kk A _ _ w⟩);go_wp2_with fail;apply mR<|Qg A n C (ϒ s a.length f) (nx c) m i _ (η h 2 _) oM oM;rintro w1 rfl;go_wp2_with (apply Ry (.int .u8 0) (.int .u8 0) 1 1 underlying118 Tryz.qO0 (by simp[Value.cells]) (by simp[Value.cells]) .i64 .i64 128 rfl rfl dC dC;intro Z hZ ao);(have r:((w.setCell (ϰ A 2)<|ϊ<|nx c).alloc<|ϲ Z 5).heap[w.heap.size]?=some (ϲ Z 5):=by simpa using φ (w.setCell (ϰ A 2)<|ϊ<|nx c)<|ϲ Z 5);have W:=ψ (ϲ Z 5)<|(Bd ai 2<|ϊ<|nx c).trans V;rw[Hb (n:=128) 3 underlying118 Tryz.qO8 rfl r W oM oM (Jc (Ds l) _ _).one];obtain⟨b,D,y,q,u⟩:∃b,b=((w.setCell (ϰ A 2)<|ϊ<|nx c).alloc<|ϲ Z 5).setRow w.heap.size (Cz Z 0<|Am (enc l) (i*128) 128)/\Kp [A] w b/\b.heap[A]?=some (Bi κ n C (ϒ s a.length f) (nx c) m)/\b.heap[w.heap.size]?=some (ϲ (enc<|ρ l i) 5):=⟨_,rfl,((kF.sc _).alloc _).setRow sM _,(aU _ _ _ _ oM).trans<|ψ _<|η h 2 _,by rw[cB _ _ _ _ _ _ r,Eu (by rw[FM oM];omega),Ez];rfl⟩;rw[<-D];clear D r W T K al;have K:=Y q 1;simp at K;go_wp2;go_loopw [32] (λk wr=>∃(j:Nat),j<=a.length/\k=.int .i64 j/\Hid (wr.heap[w.heap.size]?=some (ϲ (enc<|ρ (laidAll l<|a.take j) i) 5))/\Hid (wr.heap[A]?=some (Bi κ n C (ϒ s a.length f) (nx c) m))/\Hid (Kp [A] w wr)) λk _=>a.length-(intOf k).toNat;(case atStart=>exact⟨0,zL _,rfl,u,q,y⟩);case round=>obtain⟨j,hj,rfl,F,E,G⟩:=hrel;by_cases R:j<a.length;(.have:(j:Int)<(a.length:Int):=oM;let⟨ae,Q⟩:=S a[j]<|gM R;let⟨P,O,M,ab⟩:=Ru Q;(obtain⟨g,z,o,ag,hg,ap,ak⟩:∃g z o,Value.slice s a.length f=ϑ g 0 a.length z/\w.heap[g]?=some (ϲ o 117)/\a.length*129<=o.size/\Am o (j*129) 129=(B5 a[j]).toArray:=by rcases hv.2 with⟨_,hl0⟩|⟨g,z,o,h1,_,L,h3,_,h4,h5⟩;omega;exact⟨g,z,o,h1,L,by rw[h4];exact bI _ h3,Rt S h5 j R⟩);simp only[vJ,bN]at ag;obtain⟨rfl,rfl⟩:=ag;(have am:g≠A:=by intro e;subst e;have L:=h;rw[hg]at L;simp[Bi]at L);have ad:=G.out.heap hg<|sU am;have H:=zh<|Ly l a j R;have N:Hid (n*128<=(laidAll l<|a.take j).length):=Dy n _ l hs λx hx=>S x<|mT hx;have p:=zh<|n2 ae Q;let⟨X,hX⟩:=eX<|(B5 a[j]).toArray;let⟨k,hk⟩:=eX<|a[j].1;let⟨I,ac⟩:=eX<|a[j].2;rw[<-hX]at P O M ab ak;rw[<-hk]at O H p;rw[<-ac]at M H p;have:j*129+129<=a.length*129:=oM;clear hX hk ac ae Q;have:=U ad;have:=U F;go_wp2_with ((with_reducible refine GE (t:=117) ?_ 129 ?_ g (j*129) ?_ o 117 (0,0) ?_ ?_ ?_);kernel_rfl;kernel_rfl;rfl;exact ad;omega);have r:=φ wr<|ϲ zeroCells117 117;rw[E1 r (by simp[EE,P]) ab];obtain⟨b,D,y,q,u,B,aq⟩:∃b,b=(wr.alloc<|ϲ zeroCells117 117).setRow wr.heap.size (Cz zeroCells117 0 X.toList.toArray)/\Kp [A] w b/\b.heap[A]?=some (Bi κ n C (ϑ g 0 a.length f) (nx c) m)/\b.heap[w.heap.size]?=some (ϲ (enc<|ρ (laidAll l<|a.take j) i) 5)/\b.heap[wr.heap.size]?=some (ϲ X 117)/\b.heap.size=wr.heap.size+1:=⟨_,rfl,(G.alloc _).setRow (Or.inr G.size) _,(aU _ _ _ _<|gG<|U E).trans<|ψ _ E,(aU _ _ _ _<|gG<|U F).trans<|ψ _ F,by rw[cB _ _ _ _ _ _ r,Eu (by simp[EE,P])],sM⟩;have:=U E;rw[<-D];clear D r;have t0:=Y B 0;rw[O]at t0;have:=U B;by_cases af:k=i;(.have:(k:Int)=(i:Int):=oM;(have aj:(enc<|ρ (laidAll l<|a.take j) i).size=128:=by rw[CF];exact GJ N hi);go_wp2_with fail;rw[Hb (n:=128) 3 underlying118 Tryz.qO8 rfl u B oM oM (by rw[M];exact(Ds I).one)];rw[M,Eu (by rw[aj,CF,p.out.2])];(have d:Hid ((b.setRow w.heap.size<|enc I).heap[w.heap.size]?=some (ϲ (enc<|ρ (laidAll l<|a.take<|j+1) i) 5)/\(b.setRow w.heap.size<|enc I).heap[A]?=some (Bi κ n C (ϑ g 0 a.length f) (nx c) m)/\Kp [A] w (b.setRow w.heap.size<|enc I)):=by refine⟨?_,(aU _ _ _ _ oM).trans q,y.setRow (Or.inr lR) _⟩;rw[cB _ _ _ _ _ _ u,H.out,<-af,DM _ _ _ n p.out.2 N.out p.out.1]);clear q u B y;go_wp2;exact⟨⟨j+1,oM,by go_num,d.1,d.2.1,d.2.2⟩,iO⟩);have:¬(k:Int)=(i:Int):=oM;(have d:Hid (b.heap[w.heap.size]?=some (ϲ (enc<|ρ (laidAll l<|a.take<|j+1) i) 5)/\b.heap[A]?=some (Bi κ n C (ϑ g 0 a.length f) (nx c) m)/\Kp [A] w b):=by refine⟨?_,q,y⟩;rwa[H.out,Eo _ _ _ _ n p.out.2 N.out p.out.1 λe=>af e.symm]);clear q u B y;go_wp2;exact⟨⟨j+1,oM,by go_num,d.1,d.2.1,d.2.2⟩,iO⟩);have:¬(j:Int)<(a.length:Int):=oM;have an:a.take j=a:=tL oM;have aa:=F.out;rw[an]at aa;go_wp2;go_ret2;exact⟨.inr ⟨_,rfl,lR,aa,E⟩,G⟩
variable {κ:Kd}
def Sn(κ:Kd)(A n C c k:Nat)(v:Value)(d f:Int)(h:Ϩ)(w:Ϣ)(e:Ending)(a:Ϣ):Prop:=
 (¬κ.quiet/\e=ϱ Fd/\a.heap[A]?=some (Bi κ.up n C v (nx d) f)/\Kp [A] w a)\/
  (e=ϱ .nilIface/\∃b,a.ownsRow c 117 129 b (k+1) h/\a.heap[A]?=some (Bi κ n C b (nx d) (nx f))/\Wr c A w a/\Kp (A::v.ownBlock.toList) w a/\∀g,b.ownBlock=some g->v.ownBlock=some g\/w.heap.size<=g)
def M8(κ:Kd)(A n C:Nat)(v:Value)(b c:Int)(l:ϣ)(w:Ϣ)(e:Ending)(a:Ϣ):Prop:=
 (¬κ.quiet/\e=ϱ Fd/\a.heap[A]?=some (Bi κ.up n C v (nx b) c)/\Kp [A] w a)\/
  (e=ϱ .nilIface/\a.heap[A]?=some (Bi κ n C (.slice none 0 0) (nx b) c)/\a.heap[C]?=some (ϲ (enc l) 115)/\Kp [A,C] w a)
def qJ3(A n C:Nat)(v)(l k:Nat)(H:Ϩ)(d j:Int)(i:Nat)(B m ao:Nat)(src)(tb)(w)(h:w.heap[A]?=some (Bi κ n C v d j)) (hi:i<n) (hn:n<=1000) (hB:w.heap[B]?=some (ϲ src tb)) (hs:m+128<=src.size) (ak:DE src) (ap:B≠A) (hv:w.ownsRow l 117 129 v k H) (hb:l<=w.heap.size) (R:k<=100000):Ω 328 #[ϖ A,ϊ i,.slice (some (ϰ B m)) 128 ao] w (Sn κ A n C l k v d j (H++.int .i64 i::(Am src m 128).toList) w):=by have W:Hid (∀{p:Prop},(_h:p:=by have am:Hid (Kp (A::v.ownBlock.toList) w f):=(((r.drew).alloc _).mono sC).grown s λk R=>Or.inl (by simp[R]);have ae:Hid (Wr l A w f):=((Wr.qN3 ((r.drew).alloc _) b.1).grown b.1 y s);(have an:Hid (f.ownsRow l 117 129 (ϑ D 0 (k+1) z) (k+1)<|H++X.toList):=by (have M:Am X 0 (1*129)=X:=by have:=QD X;rw[F]at this;exact this);rwa[M]at G);have au:=U o;have d1:=Y o 1;simp at d1;have e1:=ω o 1;clear G s L;apply zn 8;apply zn 9;refine zQ 10 λK hK=>?_;go_simp;apply hK _ _;refine eI kR ?_ _;have d3:=Y o 3;simp at d3;have e3:=ω o 3;have aw:wrap64 (j+1)=nx j:=rfl;go_wp2;go_ret;have ab:Kp [A] f ((f.setCell (ϰ A 1)<|ϑ D 0 (k+1) z).setCell (ϰ A 3)<|ϊ<|nx j):=(kF.sc _).sc _;refine .inr ⟨rfl,_,?_,η (η o 1 _) 3 _,ae.trans<|Wr.qN3 ab<|lT b.1 ae.size,am.trans ab sC,V⟩;have h:=an.out;rw[HX.out]at h;exact C3 h ab (λq x c t fr e=>by rw[mS x,o]at e;cases e;decide))->p):=λh=>h;have b:=zh<|n2 hb R;clear hb R;have P:=Y h 1;have Q:=Y h 3;simp at P Q;have hA:=U h;have av:=U hB;go_enter func328,ntmps328;go_wp2_with fail;apply(Jr A n C _ d j _ h).mono;rintro e f (⟨rfl,rfl⟩|⟨x,rfl,rfl⟩);rotate_left;(.have HE:=zh<|n2 x<|Kl h;clear x h;go_wp2;go_ret;exact .inl ⟨HE.1,rfl,HE.2,Kk A _ _ w⟩);go_wp2_with fail;apply mR<|Qg A n C v (nx d) j i _ (η h 2 _) oM oM;rintro f rfl;go_wp2_with fail;(have hN:((w.setCell (ϰ A 2)<|ϊ<|nx d).alloc<|ϲ zeroCells117 117).heap[w.heap.size]?=some (ϲ zeroCells117 117):=by simpa using φ (w.setCell (ϰ A 2)<|ϊ<|nx d)<|ϲ zeroCells117 117);rw[E1 hN (by simp[EE]) (λv hv=>by rcases List.mem_or_eq_of_mem_set hv with h | h;exact qK2 v h;subst h;rfl)];obtain⟨I,ai,aa,af,Z⟩:∃I,I=((w.setCell (ϰ A 2)<|ϊ<|nx d).alloc<|ϲ zeroCells117 117).setRow w.heap.size (Cz zeroCells117 0 (zeroCells117.toList.set 0<|ϊ i).toArray)/\Kp [A] w I/\I.heap[A]?=some (Bi κ n C v (nx d) j)/\I.heap[w.heap.size]?=some (ϲ (zeroCells117.toList.set 0<|ϊ i).toArray 117):=⟨_,rfl,((kF.sc _).alloc _).setRow sM _,(aU _ _ _ _ oM).trans<|ψ _<|η h 2 _,by rw[cB _ _ _ _ _ _ hN,Eu sM]⟩;rw[<-ai];clear ai hN;have ag:=aa.heap hB (by simp[ap]);go_wp2_with fail;rw[Hb (n:=128) 3 underlying118 Tryz.qO8 rfl Z ag (by simp[EE]) hs (Jc ak _ _).one];obtain⟨a,aj,r,E,ah⟩:∃a,a=I.setRow w.heap.size (Cz (zeroCells117.toList.set 0<|ϊ i).toArray 1<|Am src m 128)/\Kp [A] w a/\a.heap[A]?=some (Bi κ n C v (nx d) j)/\a.heap[w.heap.size]?=some (ϲ (ϊ i::(Am src m 128).toList).toArray 117):=⟨_,rfl,aa.setRow sM _,(aU _ _ _ _ oM).trans af,by rw[cB _ _ _ _ _ _ Z];(have e:Cz (zeroCells117.toList.set 0<|ϊ i).toArray 1 (Am src m 128)=(ϊ i::(Am src m 128).toList).toArray:=by (have M:zeroCells117.toList.length=129:=by simp[EE]);(obtain⟨T,O,aq⟩:∃T O,zeroCells117.toList=T::O:=by cases x:zeroCells117.toList with|nil=>rw[x]at M;cases M|cons T O=>exact⟨T,O,rfl⟩);rw[aq]at M |-;have hd:O.drop 128=[]:=dL (by simp at M;omega);unfold Cz;rw[FM (cs:=src) hs];simp[hd]);rw[e]⟩;rw[<-aj];clear aj aa af Z ag P Q;have P:=Y E 1;have Q:=Y E 3;simp at P Q;have f1:=ω E 1;go_wp2_with fail;apply cZ kR;change wpAny _ _ _ _ _ _ _<|World.drew _;apply zn 0;apply zn 1;apply zn 2;apply zn 3;obtain⟨X,N⟩:=eX<|(Value.int .i64 (i:Int)::(Am src m 128).toList).toArray;rw[<-N]at ah;have al:a.drew.heap[w.heap.size]?=some (ϲ X 117):=ah;(have F:X.size=129:=by rw[N];simp[FM hs]);have ac:(a.drew.alloc<|ϲ (Value.agg X).cells 117).heap[a.heap.size]?=some (ϲ X 117):=φ a.drew _;(have ad:∀u∈(Am X 0<|1*129).toList,u.oneCell'=true:=by (have e:Am X 0 (1*129)=X:=by have:=QD X;rw[F]at this;exact this);rw[e,N];intro u S;simp at S;rcases S with rfl|S;rfl;exact(Jc ak m 128).one u<|sU S);have HX:=zh N;clear N;have ar:=U E;have y:Hid ((a.drew.alloc<|ϲ (Value.agg X).cells 117).ownsRow l 117 129 v k H):=C3 hv ((r.drew).alloc _) (λq x c t fr e=>by rw[mS x,h]at e;cases e;decide);apply eB (rs:=[4,5]) kR sM;refine AllReady.cons rfl (λK hK=>?_) (AllReady.cons rfl (λK hK=>?_) AllReady.nil);(.go_simp;apply hK _ _;refine zQ 5 λK hK=>?_;apply BF rfl (Ga (t:=117) rfl kR 129 kR w.heap.size (by simp[Act.eval]) al F);apply hK _ _;simp[zZ];refine zQ 6 λK hK=>?_;apply BF rfl (FE rfl (.agg X) _ _ _ underlying112 GO (by simp[Act.eval]) (by simpa [Value.cells] using F) dC dC);apply hK _ _;simp[zZ];refine zQ 7 λK hK=>?_;apply ME rfl rfl (.agg zeroCells117) 129 136 underlying112 GO (by simp[Value.cells,EE]) dC l v k H (by simp[Act.eval]) y a.heap.size 0 1 1 X 117 (0,0) (by simp[Act.eval]) ac oM ad (oW b.out) (oW b.out) (by have:=r.size;have:=b.out;simp;omega);intro v1 f G s L;obtain⟨D,z,rfl⟩:=D7 (n:=k) G;apply hK _ _;simp[zZ];have o:f.heap[A]?=some (Bi κ n C v (nx d) j):=Fe y s (ψ _ E) dC;(have V:Hid (∀g,(Value.slice (some<|ϰ D 0) (k+1) z).ownBlock=some g->v.ownBlock=some g\/w.heap.size<=g):=λg hg=>(L g hg).imp_right λh=>by have:=r.size;simp at h;omega);exact W);apply BF rfl (Ga (t:=117) rfl kR 129 kR w.heap.size (by simp[Act.eval]) al F);apply hK _ _;simp[zZ];apply eB (rs:=[4,6]) kR sM;refine AllReady.cons rfl (λK hK=>?_) (AllReady.cons rfl (λK hK=>?_) AllReady.nil);(.go_simp;apply hK _ _;refine zQ 6 λK hK=>?_;apply BF rfl (FE rfl (.agg X) _ _ _ underlying112 GO (by simp[Act.eval]) (by simpa [Value.cells] using F) dC dC);apply hK _ _;simp[zZ];refine zQ 7 λK hK=>?_;apply ME rfl rfl (.agg zeroCells117) 129 136 underlying112 GO (by simp[Value.cells,EE]) dC l v k H (by simp[Act.eval]) y a.heap.size 0 1 1 X 117 (0,0) (by simp[Act.eval]) ac oM ad (oW b.out) (oW b.out) (by have:=r.size;have:=b.out;simp;omega);intro v1 f G s L;obtain⟨D,z,rfl⟩:=D7 (n:=k) G;apply hK _ _;simp[zZ];have o:f.heap[A]?=some (Bi κ n C v (nx d) j):=Fe y s (ψ _ E) dC;(have V:Hid (∀g,(Value.slice (some<|ϰ D 0) (k+1) z).ownBlock=some g->v.ownBlock=some g\/w.heap.size<=g):=λg hg=>(L g hg).imp_right λh=>by have:=r.size;simp at h;omega);exact W);apply BF rfl (FE rfl (.agg X) _ _ _ underlying112 GO (by simp[Act.eval]) (by simpa [Value.cells] using F) dC dC);apply hK _ _;simp[zZ];refine zQ 4 λK hK=>?_;go_simp;apply hK _ _;refine zQ 7 λK hK=>?_;apply ME rfl rfl (.agg zeroCells117) 129 136 underlying112 GO (by simp[Value.cells,EE]) dC l v k H (by simp[Act.eval]) y a.heap.size 0 1 1 X 117 (0,0) (by simp[Act.eval]) ac oM ad (oW b.out) (oW b.out) (by have:=r.size;have:=b.out;simp;omega);intro v1 f G s L;obtain⟨D,z,rfl⟩:=D7 (n:=k) G;apply hK _ _;simp[zZ];have o:f.heap[A]?=some (Bi κ n C v (nx d) j):=Fe y s (ψ _ E) dC;(have V:Hid (∀g,(Value.slice (some<|ϰ D 0) (k+1) z).ownBlock=some g->v.ownBlock=some g\/w.heap.size<=g):=λg hg=>(L g hg).imp_right λh=>by have:=r.size;simp at h;omega);exact W
def V9(A n C:Nat)(a b:Int)(l)(w)(h:w.heap[A]?=some (Bi κ n C (.slice none 0 0) a b))(g:w.heap[C]?=some (ϲ (enc l) 115))(f:C≠A):Ω 326 #[ϖ A] w (M8 κ A n C (.slice none 0 0) a b l w):=by
 have d:=Y h 1;simp at d;have:=ω h 1;go_enter func326,ntmps326;go_wp2_with fail;apply(Jr A n C _ a b _ h).mono;rintro e j (⟨rfl,rfl⟩|⟨i,rfl,rfl⟩)
 rotate_left
 .have c:=zh (n2 i (Kl h));go_wp2;go_ret;exact .inl ⟨c.1,rfl,c.2,Kk A _ _ w⟩
 go_wp2;apply wp_loop_rounds 1;rw[rounds_succ];go_wp2;go_ret;have hK:Kp [A] w ((w.setCell (ϰ A 2) (ϊ (nx a))).setCell (ϰ A 1) (ϒ none 0 0)):=(kF.sc _).sc _;exact .inr ⟨rfl,η (η h 2 _) 1 _,hK.heap g (sU f),hK.mono sM⟩
def V8(A n C al:Nat)(v)(a)(d k:Int)(l)(w)(h:w.heap[A]?=some (Bi κ n C v d k)) (r:w.ownsRow al 117 129 v a.length (a.flatMap B5)) (V:∀x∈a,x.1<n/\x.2.length=128) (a8:a.length<=100000) (hn:n<=1000) (G:w.heap[C]?=some (ϲ (enc l) 115)) (hs:n*128<=l.length) (E:C≠A):Ω 326 #[ϖ A] w (M8 κ A n C v d k (laidAll l a) w):=by rcases r.2 with⟨rfl,a3⟩|⟨g,s,cur,rfl,a6,q,a4,_,ax,ay⟩;have e:=cC a3;subst e;exact V9 A n C d k l w h G E;(have a0:g≠A:=by intro e;subst e;rw[h]at q;simp[Bi]at q);(have a1:g≠C:=by intro e;subst e;rw[G]at q;simp at q);have:=U h;have:=U G;have:=U q;(have aj:Hid (a.length*129<=cur.size):=by show _<=_;rw[ax];exact bI _ a4);have N:=Y h 1;simp at N;have:=ω h 1;go_enter func326,ntmps326;go_wp2_with fail;refine(Jr A n C _ d k _ h).mono ?_;rintro e w1 (⟨rfl,rfl⟩|⟨hq,rfl,rfl⟩);rotate_left;(.have HE:=zh<|n2 hq<|Kl h;go_wp2;go_ret;exact .inl ⟨HE.1,rfl,HE.2,Kk A _ _ w⟩);have am:=η h 2<|ϊ<|nx d;have az:=(Bd a0 2<|ϊ<|nx d).trans q;have ap:Kp [A,C] w (w.setCell (ϰ A 2)<|ϊ<|nx d):=kF.sc _;go_wp2;go_loopw [13] (λi wr=>∃(j:Nat),j<=a.length/\i=.int .i64 j/\Hid (wr.heap[A]?=some (Bi κ n C (ϑ g 0 a.length s) (nx d) k))/\Hid (wr.heap[C]?=some (ϲ (enc<|laidAll l<|a.take j) 115))/\Hid (wr.heap[g]?=some (ϲ cur 117))/\Hid (Kp [A,C] w wr)) λi _=>a.length-(intOf i).toNat;(case atStart=>exact⟨0,zL _,rfl,am,(Bd E 2<|ϊ<|nx d).trans G,az,ap⟩);case round=>obtain⟨j,hj,rfl,z,B,L,M⟩:=hrel;by_cases R:j<a.length;(.have:(j:Int)<(a.length:Int):=oM;let⟨hi,aw⟩:=V a[j]<|gM R;let⟨X,Q⟩:=eX<|(B5 a[j]).toArray;let⟨i,I⟩:=eX<|a[j].1;let⟨p,y⟩:=eX<|enc a[j].2;(have T:p.size=128:=by rwa[y,CF]);(have ai:DE p:=by rw[y];exact Ds _);(have u:X=(ϊ (i:Int)::p.toList).toArray:=by rw[Q,I,y];simp[B5,enc]);(have ah:X.size=129:=by rw[u];simp[T]);(have ar:X[0]?=some (ϊ i):=by rw[u];rfl);(have av:Am X 1 128=p:=by rw[u];simp[Am,tL,T]);(have au:∀v∈X.toList,v.oneCell'=true:=by rw[u];intro v r;simp at r;rcases r with rfl|r;rfl;exact ai.one v<|sU r);have:j*129+129<=a.length*129:=oM;(have:Am cur (j*129) 129=X:=by have hf:=Lj B5 129 a (λx Z=>by simp[B5,H8,(V x Z).2]) j R;rw[Q];unfold Am;congr 1;rw[<-hf,<-ay,dU,cP];congr 1;omega);(have ak:Hid (Cz (enc<|laidAll l<|a.take j) (i*128) p=enc (laidAll l<|a.take<|j+1)):=by show _=_;rw[y,I,Lz,Ly l a j R];rfl);(have:n*128<=(enc<|laidAll l<|a.take j).size:=by rw[CF];exact Dy n _ l hs λx Z=>V x<|mT Z);rw[<-I]at hi;have:=aj.out;clear Q I y u aw;go_wp2_with ((with_reducible refine GE (t:=117) ?_ 129 ?_ g (j*129) ?_ cur 117 (0,0) ?_ ?_ ?_);kernel_rfl;kernel_rfl;rfl;exact L;omega);have P:=φ wr<|ϲ zeroCells117 117;rw[E1 P (by simp[EE,ah]) au];obtain⟨b,af,ad,D,O,ac,H,a5⟩:∃b,b=(wr.alloc<|ϲ zeroCells117 117).setRow wr.heap.size (Cz zeroCells117 0 X.toList.toArray)/\Kp [A,C] w b/\b.heap[A]?=some (Bi κ n C (ϑ g 0 a.length s) (nx d) k)/\b.heap[C]?=some (ϲ (enc<|laidAll l<|a.take j) 115)/\b.heap[g]?=some (ϲ cur 117)/\b.heap[wr.heap.size]?=some (ϲ X 117)/\b.heap.size=wr.heap.size+1:=⟨_,rfl,(M.alloc _).setRow (Or.inr M.size) _,(aU _ _ _ _<|gG<|U z).trans<|ψ _ z,(aU _ _ _ _<|gG<|U B).trans<|ψ _ B,(aU _ _ _ _<|gG<|U L).trans<|ψ _ L,by rw[cB _ _ _ _ _ _ P,Eu (by simp[EE,ah])],sM⟩;have:=U z;have:=U B;rw[<-af];clear af P;go_wp2_with fail;refine aB (S:=λW=>W.heap[A]?=some (Bi κ n C (ϑ g 0 a.length s) (nx d) k)/\W.heap[wr.heap.size]?=some (ϲ X 117)) kR ⟨D,H⟩ λ_=>?_;have f:b.drew.heap[A]?=some (Bi κ n C (ϑ g 0 a.length s) (nx d) k)/\b.drew.heap[wr.heap.size]?=some (ϲ X 117):=⟨D,H⟩;refine zN 0 f ?_;refine zV 1 _ rfl (λW o=>by have:=U o.1;go_simp;rfl) f ?_;refine zN 2 f ?_;refine zV 3 _ rfl (λW o=>by have c:=Y o.1 0;simp at c;go_simp;rfl) f ?_;refine zN 4 f ?_;refine zV 5 _ rfl (λW o=>by have c:=Y o.2 0;rw[ar]at c;go_simp;rfl) f ?_;refine zN 6 f ?_;refine zV 7 _ rfl (λW o=>DP (t:=115) rfl kR 128 kR wr.heap.size 1 rfl o.2 oM av) f ?_;refine zN 8 f ?_;refine zq 9 λK hK=>?_;refine qD7 rfl (VJ (t:=115) rfl p (by rw[T];kernel_rfl) C (i*128) rfl rfl (cur:=enc<|laidAll l<|a.take j) (tb:=115) O oM ai.one) ?_;rw[ak.out];obtain⟨m,ag,aa,ae,an,ao,aq,a7⟩:∃m,m=b.drew.setRow C (enc<|laidAll l<|a.take<|j+1)/\m.heap[A]?=some (Bi κ n C (ϑ g 0 a.length s) (nx d) k)/\m.heap[wr.heap.size]?=some (ϲ X 117)/\m.heap[C]?=some (ϲ (enc<|laidAll l<|a.take<|j+1) 115)/\m.heap[g]?=some (ϲ cur 117)/\Kp [A,C] w m/\m.heap.size=wr.heap.size+1:=⟨_,rfl,(aU b.drew C A _ E.symm).trans D,(aU b.drew C wr.heap.size _ oM).trans H,cB b.drew C _ _ _ _ O,(aU b.drew C g _ a1).trans ac,(ad.drew).setRow (g:=C) sM _,by simp[a5]⟩;rw[<-ag];clear ag;refine hK.out _ _ ⟨aa,ae⟩ λ_=>?_;refine zd ?_;simp[zZ];clear D H O ac ad ae f;go_wp2;exact⟨⟨j+1,oM,by go_num,aa,an,ao,aq⟩,iO⟩);have:¬(j:Int)<(a.length:Int):=oM;have a2:a.take j=a:=tL oM;have ab:=B.out;rw[a2]at ab;have F:=z.out;have:=U F;have N:=Y F 1;simp at N;have:=ω F 1;go_wp2;go_ret;exact .inr ⟨rfl,η F 1 _,(Bd E _ _).trans ab,M.sc _⟩
variable {κ:Kd}
def D6{w:Ϣ}{a b:Nat}{c d:ϧ}{t u:Ϯ}{g i:Nat×Nat}(f:w.heap[a]?=some (ϲ c t g))(j:w.heap[b]?=some (ϲ d u i))(h:t≠u):a≠b:=λe=>by
 rw[e,j]at f;cases f;exact h rfl
def H6:List TypeId:=[114,263,115,117,382,398]
def Sd(w:Ϣ)(L:Ϥ):Prop:=∀k∈L,∀c t fr,w.heap[k]?=some (ϲ c t fr)->t∉H6
def A5(w:World)(A:Nat):List Nat:=match w.heap[A]? with
 | some (.cells c _ _)=>(c[1]?.bind Value.ownBlock).toList
 | _=>[]
def F8{w}{A n C:Nat}{v}{calls wr:Int}(h:w.heap[A]?=some (Bi κ n C v calls wr)):A5 w A=v.ownBlock.toList:=by simp[A5,h,Bi]
def DN{w w'}{A:Nat}(h:w'.heap[A]?=w.heap[A]?):A5 w' A=A5 w A:=by simp[A5,h]
structure Dk(κ:Kd)(V A N C base:Nat)(l:ϣ)(ws:ϥ)(wr:Int)(w:Ϣ):Prop where
 hV:w.heap[V]?=some (DK A N)
 hA:∃v a,w.heap[A]?=some (Bi κ N C v a wr)/\w.ownsRow base 117 129 v ws.length (ws.flatMap B5)/\(ws=[]->v=.slice none 0 0)
 hC:w.heap[C]?=some (ϲ (enc l) 115)
 gl:Gl w
 low:base<=w.heap.size
 fit:∀x∈ws,x.1<N/\x.2.length=128
 wl:ws.length<=100000
 len:N*128<=l.length
 N1:N<=1000
section
variable {V A N C base:Nat} {l:ϣ} {ws:ϥ} {wr:Int} {w w':Ϣ}
def Dk.AC(h:Dk κ V A N C base l ws wr w):C≠A:=by let⟨v,c,a,_⟩:=h.hA;exact D6 h.hC a dC
def Dk.VA(h:Dk κ V A N C base l ws wr w):V≠A:=by let⟨v,c,a,_⟩:=h.hA;exact D6 h.hV a dC
def Dk.VC(h:Dk κ V A N C base l ws wr w):V≠C:=D6 h.hV h.hC dC
def Dk.sA(h:Dk κ V A N C base l ws wr w):A<w.heap.size:=by let⟨v,c,a,_⟩:=h.hA;exact U a
def Dk.qK4{L}(h:Dk κ V A N C base l ws wr w)(hK:Kp L w w')(b:Sd w L):Dk κ V A N C base l ws wr w':=by
 let⟨v,c,d,f,g⟩:=h.hA;exact⟨hK.heap h.hV (λa=>b _ a _ _ _ h.hV dC),⟨v,c,hK.heap d (λa=>b _ a _ _ _ d dC),C3 f hK (λq hq c t fr e a=>b q hq c t fr e (by rw[mS a];decide)),g⟩,hK.heap h.hC (λa=>b _ a _ _ _ h.hC dC),h.gl.qK4 hK (λk hk c t fr e a=>b k hk c t fr e (by simp[Fo]at a;rcases a with rfl | rfl<;>decide)),lT h.low hK.size,h.fit,h.wl,h.len,h.N1⟩
def Dk.qK5(h:Dk κ V A N C base l ws wr w)(hK:Kp [] w w'):Dk κ V A N C base l ws wr w':=h.qK4 hK (by intro k a;cases a)
def Dk.qM5{κ'}{v}{a b:Int}(h:Dk κ V A N C base l ws wr w)(q:κ'.quiet↔κ.quiet)(hK:Kp [A] w w')(f:w'.heap[A]?=some (Bi κ' N C v a b))(g:w'.ownsRow base 117 129 v ws.length (ws.flatMap B5))(i:ws=[]->v=.slice none 0 0):Dk κ' V A N C base l ws b w':=by
 let⟨r,n,d,p,_⟩:=h.hA;exact⟨hK.heap h.hV (sU h.VA),⟨v,a,f,g,i⟩,hK.heap h.hC (sU h.AC),h.gl.qK4 hK (λk j c t o e m=>by rw[mS j,d]at e;cases e;revert m;decide),lT h.low hK.size,h.fit,h.wl,h.len,h.N1⟩
def Qu{v}{n:Nat}{a:Ϩ}{b:Int}{v0}(h:w.ownsRow base 117 129 v n a)(d:w.heap[A]?=some (Bi κ N C v0 b wr))(hK:Kp [A] w w'):w'.ownsRow base 117 129 v n a:=
 C3 h hK (λq f c t g e=>by rw[mS f,d]at e;cases e;decide)
end
def RJ{p:Prop}(_h:p:=by
 have HFIN:Hid (∀κ' W c,(κ'.quiet↔κ.quiet)->Kp [A] w W->W.heap[A]?=some (Bi κ' N C v c wr)->Dk κ' V A N C base l ws wr W):=λκ' W c hq hK h1=>hd.qM5 hq hK h1 (Qu bm bh hK) bj;have HCC:Hid (∀κ' W c,W.heap[A]?=some (Bi κ' N C v c wr)->A5 W A=A5 w A):=λκ' W c h1=>by rw[F8 h1,F8 bh]
 exact Tz.out):p:=_h
def PU{V A N C base:Nat}{l}{ws}{wr:Int}{w}(hd:Dk κ V A N C base l ws wr w)(i:Nat)(hi:i<N):Ω 247 #[ϖ V,ϊ i] w λe w'=>((Io κ e/\Dk κ.up V A N C base l ws wr w')\/(e=ϱ (.agg (enc (ρ (laidAll l ws) i)))/\Dk κ V A N C base l ws wr w'))/\Kp [A] w w'/\A5 w' A=A5 w A:=by
 let⟨v,j,bh,bm,bj⟩:=hd.hA;have u:=Dy N ws l hd.len hd.fit;have bx:=GJ u hi;have y:=zh (λW hK=>
  ZX A N C base v ws j wr i l W (hK.hp bh) (C3 bm hK (χ.nil _ _)) hd.fit hd.wl hi hd.N1 (hK.hp hd.hC) hd.len hd.AC)
 have Tz:Hid (∀{p:Prop},(_h:p:=by
  have x:Hid (¬κ.quiet->∀W,Kp [A] w W->Gl W):=λhq W hK=>by
   exact hd.gl.qK4 hK (λk hk c t fr e F=>by rw[List.mem_singleton.1 hk,bh]at e;cases e;revert F;decide)
  have c0:=Y hd.hV 0;simp at c0;have:=U hd.hV;have:=U bh;have E:i<=1000000:=by have:=hd.N1;omega
  generalize laidAll l ws=L at *;clear bh bm bj u;go_enter func247,ntmps247;go_wp2_with fail;refine(y _ ((Kp.refl _ _).alloc _)).mono ?_;rintro e w1 ⟨(⟨hq,rfl,d⟩|⟨g,rfl,hg,hG,d⟩),hK1⟩
  .have hK2:Kp [A] w w1:=((Kp.refl _ _).alloc _).tr hK1;have o:=x.out hq w1 hK2;have HE:=zh (n3 hq (HFIN κ.up w1 _ Kd.qO9 hK2 d) (HCC _ _ _ d));unfold Fd;clear d hq hK1 c0;go_wp2_with fail;refine(Pc i E w1 o.is).mono ?_;rintro e w2 ⟨s,rfl,G,f⟩;have D:=o.qK4 f (by intro k hk;cases hk);go_wp2_with fail;refine(show Calls _ _ _ _ _ from Lb _ w2 D).mono ?_;rintro e H ⟨⟨p,rfl⟩,hK4⟩;go_wp2;have hKK:=f.tr hK4;exact⟨rfl,.inl ⟨⟨HE.1,p,rfl⟩,HE.2.1.qK5 hKK⟩,hK2.tr hKK,(DN (hKK.block A HE.2.1.sA sM)).trans HE.2.2⟩
  let⟨bl,hb0⟩:=eY (ρ L i);rw[hb0]at hG bx;have hR:w1.heap[w.heap.size]?=some (ϲ zeroCells288 288):=hK1.heap (φ _ _) sO;have hK2:Kp [A] w w1:=((Kp.refl _ _).alloc _).tr hK1;have:w.heap.size+1<=g:=by simpa using hg
  have:=U hG;have:=U d;clear hK1 hg c0;go_wp2_with fail;have hN:=φ w1 (ϲ zeroCells288 288);rw[Hb (n:=128) 3 underlying118 Tryz.qO8 rfl hN (ψ _ hG) (by simp[Ec]) (by rw[CF];omega) (Jc (Ds _) _ _).one];rw[Ez,List.drop_zero,List.take_of_length_le oM,Eu (by rw[Ec,CF,bx])];obtain⟨a,q,f,z,bq,B⟩:∃a,a=(w1.alloc (ϲ zeroCells288 288)).setRow w1.heap.size (enc bl)/\Kp [A] w a/\a.heap[A]?=some (Bi κ N C v (nx j) wr)/\
    a.heap[w.heap.size]?=some (ϲ zeroCells288 288)/\a.heap[w1.heap.size]?=some (ϲ (enc bl) 288):=
   ⟨_,rfl,(hK2.alloc _).setRow (Or.inr hK2.size) _,(setRow_other _ _ _ _ oM).trans (ψ _ d),(setRow_other _ _ _ _ oM).trans (ψ _ hR),setRow_heap _ _ _ _ _ _ hN⟩
  rw[<-q];clear q hN;have:Am (enc bl) 0 128=enc bl:=by rw[Ez,List.drop_zero,List.take_of_length_le oM]
  have hes:(enc bl).size=128:=by rw[CF,bx]
  go_wp2_with (
   with_reducible refine GE (t:=288) ?_ 128 ?_ w1.heap.size 0 ?_ (enc bl) 288 (0,0) ?_ ?_ ?_
   .kernel_rfl
   .kernel_rfl
   .rfl
   .exact B
   .rw[CF];omega)
  rw[E1 bq (by simp[Ec,hes]) (Ds bl).one];rw[show(enc bl).toList.toArray=enc bl from by simp,Eu (by rw[Ec,hes])];obtain⟨b,r,hK4,m,hR4⟩:∃b,b=a.setRow w.heap.size (enc bl)/\Kp [A] w b/\b.heap[A]?=some (Bi κ N C v (nx j) wr)/\b.heap[w.heap.size]?=some (ϲ (enc bl) 288):=
   ⟨_,rfl,f.setRow sM _,(setRow_other _ _ _ _ oM).trans z,setRow_heap _ _ _ _ _ _ bq⟩
  rw[<-r];clear r;go_wp2_with fail;exact bodyPost_ret (results_cell_row results247 _ _ w.heap.size _ _ _ _ rfl hR4 underlying288 rfl (by rw[hes];kernel_rfl)) rfl ⟨.inr ⟨by rw[hb0],HFIN κ b _ Iff.rfl hK4 m⟩,hK4,HCC _ _ _ m⟩)->p):=λh=>h;exact RJ
def Mx{V A N C base:Nat}{l}{ws}{wr:Int}{w}(hd:Dk κ V A N C base l ws wr w):Ω 145 #[ϖ V] w λe w'=>(Io κ e/\Dk κ.up V A N C base l ws wr w'/\Kp [A] w w'/\A5 w' A=A5 w A)\/(e=ϱ (.tuple #[])/\Dk κ V A N C base (laidAll l ws) [] wr w'/\Kp [A,C] w w'):=by
 let⟨v,d,bh,bm,bj⟩:=hd.hA;have g:=Hid.mk' (V8 A N C base v ws d wr l w bh bm hd.fit hd.wl hd.N1 hd.hC hd.len hd.AC);have Tz:Hid (∀{p:Prop},(_h:p:=by
  have i:Hid (¬κ.quiet->∀W,Kp [A] w W->Gl W):=λhq W hK=>by
   exact hd.gl.qK4 hK (λk hk c t fr e b=>by rw[mS hk,bh]at e;cases e;revert b;decide)
  have f:Hid (∀W,Kp [A,C] w W->W.heap[A]?=some (Bi κ N C (.slice none 0 0) (nx d) wr)->W.heap[C]?=some (ϲ (enc (laidAll l ws)) 115)->Dk κ V A N C base (laidAll l ws) [] wr W):=λW hK h1 h2=>by
   exact⟨hK.heap hd.hV (by simpa using⟨hd.VA,hd.VC⟩),⟨_,_,h1,wN _ _ _ _,λ_=>rfl⟩,h2,hd.gl.qK4 hK (λk hk c t fr e b=>by
    simp at hk;rcases hk with rfl|rfl
    .rw[bh]at e;cases e;revert b;decide
    .rw[hd.hC]at e;cases e;revert b;decide),lT hd.low hK.size,sM,sM,Dy N ws l hd.len hd.fit,hd.N1⟩
  have c0:=Y hd.hV 0;simp at c0;clear bh bm bj;go_enter func145,ntmps145;go_wp2_with fail;refine(g).mono ?_;rintro e w1 (⟨hq,rfl,a,hK1⟩|⟨rfl,a,j,hK1⟩)
  .have m:=i.out hq w1 hK1;have HE:=zh (n3 hq (HFIN κ.up w1 _ Kd.qO9 hK1 a) (HCC _ _ _ a));have HF:=Hid.mk' (λs=>Lb s w1 m);unfold Fd at HF |-;go_wp2_with fail;refine(show Calls _ _ _ _ _ from HF _).mono ?_;rintro e n ⟨⟨p,rfl⟩,hK4⟩;go_wp2;exact⟨rfl,.inl ⟨⟨HE.1,p,rfl⟩,HE.2.1.qK5 hK4,hK1.tr hK4,(DN (hK4.block A HE.2.1.sA sM)).trans HE.2.2⟩⟩
  have HE:=Hid.mk' (f w1 hK1 a j);go_wp2
  go_end0
  exact .inr ⟨rfl,HE,hK1⟩)->p):=λh=>h;exact RJ
variable {κ:Kd}
def QS{V A N C f:Nat}{l}{ws}{wr:Int}{w}(a:Dk κ V A N C f l ws wr w)(i:Nat)(hi:i<N)(bl)(X:bl.length=128)(an:ws.length<100000):Ω 208 #[ϖ V,ϊ i,.agg (enc bl)] w λe b=>((Io κ e/\Dk κ.up V A N C f l ws wr b)\/(e=ϱ (.tuple #[])/\Dk κ V A N C f l (ws++[(i,bl)]) (nx wr) b))/\Wr f A w b/\Kp (A::A5 w A) w b/\(∀k∈A5 b A,k∈A5 w A\/w.heap.size<=k):=by
 let⟨v,ac,t,R,Q⟩:=a.hA;have:(enc bl).size=128:=by rw[CF,X]
 have aa:Am (enc bl) 0 128=enc bl:=by rw[Ez,dZ,tL oM]
 have Z:List.flatMap B5 [(i,bl)]=.int .i64 (i:Int)::(enc bl).toList:=by simp[B5,enc]
 have ab:Hid (∀W B,Kp [] w W->Ϙ W B (ϲ (enc bl) 288)->w.heap.size<=B->Ω 328 #[ϖ A,ϊ i,ϑ B 0 128 128] W λe b=>∃y,e=ϱ y/\((¬κ.quiet/\y=Fd/\Dk κ.up V A N C f l ws wr b)\/(y=.nilIface/\Dk κ V A N C f l (ws++[(i,bl)]) (nx wr) b))/\Wr f A w b/\Kp (A::A5 w A) w b/\(∀k∈A5 b A,k∈A5 w A\/w.heap.size<=k)):=λW B hK hB hBs=>by
  rw[F8 t];have z:=hK.hp t;have S:=C3 R hK (χ.nil _ _);have m:=a.qK5 hK;apply(qJ3 A N C v f ws.length (ws.flatMap B5) ac wr i B 0 128 (enc bl) 288 W z hi a.N1 hB oM (Ds bl) (oW (U t)) S m.low a.wl).mono;rintro e b (⟨H,rfl,r,j⟩|⟨rfl,v',r,M,q,ah,ai⟩)
  .exact⟨_,rfl,.inl ⟨H,rfl,m.qM5 Kd.qO9 j r (Qu S z j) Q⟩,(Wr.qN3 (hK.mono sM) a.low).trans (Wr.qN3 j m.low),(hK.mono sM).trans j (by simp +contextual),λk n=>.inl (by rw[F8 r]at n;exact n)⟩
  .refine⟨_,rfl,.inr ⟨rfl,?_⟩,(Wr.qN3 (hK.mono sM) a.low).trans q,(hK.mono sM).trans ah (λ_ h _=>h),λk n=>by
    rw[F8 M]at n;rcases ai k (sU n) with h|h
    .exact .inl (by simp[h])
    .exact .inr (oW hK.size)⟩
   rw[aa]at r;refine⟨q.oth _ _ _ _ m.hV dC a.VA,⟨v',_,M,by rw[lA,fA,Z];exact r,sM⟩,q.oth _ _ _ _ m.hC dC a.AC,?_,lT m.low q.size,?_,sO,a.len,a.N1⟩
   .have g:=m.gl;let⟨fr,K⟩:=g.tab;let⟨c,ad,s,L,g3⟩:=g.word;exact⟨⟨fr,q.oth _ _ _ _ K dC (D6 K z dC)⟩,⟨c,ad,s,q.oth _ _ _ _ L dC (D6 L z dC),g3⟩⟩
   .intro x u;rcases mA u with u|u
    .exact a.fit x u
    .rw[mS u];exact⟨hi,X⟩
 have:=zh a.low;have:=U a.hV;have:=U t;have aj:i<=1000000:=by have:=a.N1;omega
 have:∀W:World,(method 513 27 (ϖ A) "Write").run prog W=.ok (328,ϖ A) W:=λ_=>by kernel_rfl
 clear t R Q Z aa;go_enter func208,ntmps208;go_wp2_with fail;let⟨W1,T,ae,j,am⟩:=BH w (ϲ (enc bl) 288);rw[<-T];clear T;have I:=Y (j.hp a.hV) 0;simp at I
 go_region_with (go_at_call 328;go_must (apply(ab W1.drew w.heap.size j.drew ae lR).mono);rintro e w2 ⟨y,rfl,ak,F,E,G⟩)
 rcases ak with⟨H,rfl,o⟩|⟨rfl,o⟩
 .have O:=o.gl;have d:=zh (n6 H o F E G o.sA);unfold Fd;go_wp2_with fail;apply(Pc i aj w2 O.is).mono;rintro e w3 ⟨s,rfl,al,P⟩;have af:=O.qK4 P (by intro k n;cases n);go_wp2_with fail;apply(show Calls _ _ _ _ _ from Lb _ w3 af).mono;rintro e w4 ⟨⟨p,rfl⟩,ag⟩;go_wp2;have D:=P.tr ag;exact⟨rfl,.inl ⟨⟨d.1,p,rfl⟩,d.2.1.qK5 D⟩,d.2.2.1.trans (Wr.qN3 (D.mono sM) d.2.1.low),d.2.2.2.1.tr D,by rw[DN (D.block A d.out.2.2.2.2.2 sM)];exact d.2.2.2.2.1⟩
 have d:=zh (n4 o F E G);clear o F E G I;go_wp2
 go_end0
 exact⟨.inr ⟨rfl,d.1⟩,d.2⟩
variable {κ:Kd}
def YN{V A N C m:Nat}{l}{ws}{wr:Int}(i:Nat)(q:Nat)(d:Int)(vp vl)(b)(hs)(w) (u:w.heap[q]?=some (Aq d vp vl)) (I:0<=d) (K:d<256) (ab:Ai w 185 2 vp b.length (Aj b)) (aa:Ai w 87 4 vl hs.length (Ap hs)) (L:2+qK3 μ b+qK3 Ab hs<=128) (H:b.length+hs.length<=255) (O:∀p∈b,A2 p) (M:∀p∈hs,p.key.size<=8/\0<=p.b/\p.b<=1000000/\0<=p.s) (s:Dk κ V A N C m l ws wr w) (am:ws.length<100000) (hi:i<N):Ω 240 #[ϖ q,ϖ V,ϊ i] w λe P=>((Io κ e/\Dk κ.up V A N C m l ws wr P)\/(e=ϱ (.agg #[ϊ i,.int .u64 (A9 (Az d b hs))])/\Dk κ V A N C m l (ws++[(i,ι (Az d b hs))]) (nx wr) P))/\Wr m A w P:=by
 have G:=Cj d b hs I K H O (λp hp=>(M p hp).1);have r:=EZ d b hs L;have x:=zh (λW hK=>
  KZ q d vp vl b hs W (hK.hp u) I K (ab.qK5 hK) (aa.qK5 hK) L H O M)
 let⟨a,v⟩:=eX (Az d b hs);rw[<-v]at G r x;have:=zh v;rw[<-v];have:=s.sA;have:=U s.hV;have F:=s.low;clear u ab aa L H O M I K v;have X:(Ax a).toArray=enc (ι a):=by unfold enc;rw[Ov a G]
 rw[X]at x;clear X;go_enter func240,ntmps240;go_wp2_with fail;let⟨w0,ac,ag,Q,an⟩:=BH w (ϲ #[ϊ 0,.int .u64 0] 84);rw[<-ac];clear ac;refine(x w0 Q).mono ?_;rintro e f ⟨rfl,B⟩;have D:=Q.tr B;have S:=B.hp ag;have:=B.size;have Z:(enc (ι a)).size=128:=by rw[CF,DJ,r]
 go_wp2_with fail;have E:=φ f (ϲ zeroCells288 288);rw[E1 E (by simp[Ec,Z]) (Ds _).one];rw[show(enc (ι a)).toList.toArray=enc (ι a) from by simp,Eu (by rw[Ec,Z])];obtain⟨g,ad,y,T,o,al⟩:∃g,g=(f.alloc (ϲ zeroCells288 288)).setRow f.heap.size (enc (ι a))/\g.heap[f.heap.size]?=some (ϲ (enc (ι a)) 288)/\g.heap[w.heap.size]?=some (ϲ #[ϊ 0,.int .u64 0] 84)/\Kp [] w g/\g.heap.size=f.heap.size+1:=
  ⟨_,rfl,setRow_heap _ _ _ _ _ _ E,(setRow_other _ _ _ _ oM).trans (ψ _ S),(D.alloc _).setRow (Or.inr (by have:=D.size;omega)) _,sM⟩
 rw[<-ad];clear ad E S;have ak:Am (enc (ι a)) 0 128=enc (ι a):=by rw[Ez,List.drop_zero,List.take_of_length_le (by rw[DJ];omega)]
 go_wp2_with (
  with_reducible refine GE (t:=288) ?_ 128 ?_ f.heap.size 0 ?_ (enc (ι a)) 288 (0,0) ?_ ?_ ?_
  .kernel_rfl
  .kernel_rfl
  .rfl
  .exact y
  .omega)
 refine(QS (s.qK5 o) i hi (ι a) (by rw[DJ,r]) am).mono ?_;rintro e w3 ⟨(⟨ai,n⟩|⟨rfl,n⟩),k,_,_⟩
 .obtain⟨aj,p,rfl⟩:=ai;go_wp2;exact⟨rfl,.inl ⟨⟨aj,p,rfl⟩,n⟩,(Wr.qN3 (o.mono sM) F).trans k⟩
 have:=al;have z:=k.oth _ _ _ _ y dC oM;have h:=k.oth _ _ _ _ T dC oM;have ae:=zh n;have af:=zh ((Wr.qN3 (o.mono sM) F).trans k);have:=U h;have:=U z;clear n k y T ak o D;go_wp2_with fail;refine(MH f.heap.size 0 128 128 a w3 r oM (λj hj=>?_)).mono ?_
 .rw[Y z];unfold enc;rw[<-Kn a G];simp only[Nat.zero_add,zG,Ax,List.getElem?_map,List.getD];rw[List.getElem?_eq_getElem oM];rfl
 rintro e w4 ⟨rfl,rfl⟩;have:=Y h;have:=ω h;clear z;go_wp2;have R:Kp [w.heap.size] w4 ((w4.setCell (ϰ w.heap.size 0) (ϊ (i:Int))).setCell (ϰ w.heap.size 1) (.int .u64 (A9 a))):=((Kp.refl _ _).sc _).sc _;have ah:=η (η h 0 (ϊ (i:Int))) 1 (.int .u64 (A9 a));refine bodyPost_ret (results_cell_row results240 _ _ w.heap.size 84 #[ϊ (i:Int),.int .u64 (A9 a)] (0,0) _ rfl ah underlying84 rfl kR) rfl ⟨.inr ⟨rfl,ae.qK4 R (λq u c t fr e=>by rw[List.mem_singleton.1 u,h]at e;cases e;decide)⟩,af.tail R sM F⟩
variable {κ:Kd}
structure BM(κ:Kd)(wn:Int)(V A N C base F:Nat)(l:ϣ)(ws:ϥ)(fr:Ϥ)(w:Ϣ):Prop where
 dk:Dk κ V A N C base l ws (nk wn ws.length) w
 hF:∃a,w.heap[F]?=some (ϲ #[a] 24)/\Ai w 3 1 a fr.length (ints fr)
def Eh(κ:Kd)(wn:Int)(V A N C base:Nat)(l:ϣ)(ws:ϥ)(fr:Ϥ)(k:Nat)(e:Ending)(w:Ϣ):Prop:=
 Io κ e/\∃a,Dk κ.up V A N C base l a (nk wn a.length) w/\(∀x∈a,x∈ws\/x.1∈fr)/\a.length<=ws.length+k
section
variable {wn:Int} {V A N C base F:Nat} {l:ϣ} {ws:ϥ} {fr:Ϥ} {w w':Ϣ}
def BM.low(h:BM κ wn V A N C base F l ws fr w):base<=w.heap.size:=h.dk.low
def BM.sF(h:BM κ wn V A N C base F l ws fr w):F<w.heap.size:=by let⟨b,a,_⟩:=h.hF;exact U a
def BM.qK4(h:BM κ wn V A N C base F l ws fr w)(hK:Kp [] w w'):BM κ wn V A N C base F l ws fr w':=by
 let⟨c,a,b⟩:=h.hF;exact⟨h.dk.qK5 hK,⟨c,hK.hp a,b.qK5 hK⟩⟩
def BM.qM5{S}(h:BM κ wn V A N C base F l ws fr w)(hK:Kp S w w')(a:χ w S (H6++[24,3])):BM κ wn V A N C base F l ws fr w':=by
 let⟨i,d,f⟩:=h.hF;exact⟨h.dk.qK4 hK (λk g c t fr e b=>a k g c t fr e (List.mem_append_left _ b)),⟨i,hK.heap d (λb=>a _ b _ _ _ d dC),f.qK4 hK (a.sub dC)⟩⟩
def BM.apt(h:BM κ wn V A N C base F l ws fr w):χ w [A,F] BU:=λq a c t f e=>by
 let⟨v,g,b,i,_⟩:=h.dk.hA;let⟨k,d,j⟩:=h.hF;rcases List.mem_cons.1 a with rfl|a
 .rw[b]at e;cases e;decide
 .rw[mS a,d]at e;cases e;decide
end
def BM.next{wn:Int}{V A N C base F b:Nat}{l}{ws}{fr}{w}(h:BM κ wn V A N C base F l ws (b::fr) w)(i:fr.length<=100000):Ω 175 #[ϖ F] w λe w'=>e=ϱ (ϊ b)/\BM κ wn V A N C base F l ws fr w'/\Wx base [A,F] w w':=by
 let⟨m,a,d⟩:=h.hF;refine mR (YM F b fr m w a d i) ?_;rintro w' ⟨k,f,g,hK⟩;exact⟨rfl,⟨h.dk.qK4 hK (λq j c t fr e=>by rw[mS j,a]at e;cases e;decide),⟨k,f,g⟩⟩,Wx.qN3 (hK.mono sM) h.low⟩
def BM.lay{wn:Int}{V A N C base F i:Nat}{l}{ws}{fr}{w}(h:BM κ wn V A N C base F l ws fr w)(I:ws.length<100000)(x:i<N) (q:Nat) (b:Int) (vp vl) (a) (hs) (E:w.heap[q]?=some (Aq b vp vl)) (z:0<=b) (B:b<256) (H:Ai w 185 2 vp a.length (Aj a)) (G:Ai w 87 4 vl hs.length (Ap hs)) (D:2+qK3 μ a+qK3 Ab hs<=128) (u:a.length+hs.length<=255) (L:∀p∈a,A2 p) (K:∀p∈hs,p.key.size<=8/\0<=p.b/\p.b<=1000000/\0<=p.s):Ω 240 #[ϖ q,ϖ V,ϊ i] w λe w'=>((Io κ e/\Dk κ.up V A N C base l ws (nk wn ws.length) w')\/(e=ϱ (.agg #[ϊ i,.int .u64 (A9 (Az b a hs))])/\BM κ wn V A N C base F l (ws++[(i,ι (Az b a hs))]) fr w'))/\Wx base [A,F] w w':=by
 let⟨S,j,k⟩:=h.hF;let⟨v,T,f,_⟩:=h.dk.hA;refine(YN i q b vp vl a hs w E z B H G D u L K h.dk I x).mono ?_;rintro e w' ⟨(⟨y,d⟩|⟨rfl,d⟩),c⟩
 .exact⟨.inl ⟨y,d⟩,Wx.of c sM⟩
 have t:=D6 j f dC;refine⟨.inr ⟨rfl,⟨by rw[lA];exact d,⟨S,c.oth _ _ _ _ j dC t,k.len,?_⟩⟩⟩,Wx.of c sM⟩;rcases k.val with s|⟨g,R,n,o,r,M,O,P,m,Q⟩
 .exact Or.inl s
 .exact Or.inr ⟨g,R,n,o,r,M,O,P,c.oth _ _ _ _ m dC (D6 m f dC),Q⟩
def Eh.of{wn:Int}{V A N C base:Nat}{l}{ws a}{fr}{k:Nat}{e:Ending}{w}(c:Io κ e)(b:Dk κ.up V A N C base l a (nk wn a.length) w)(f:∀x∈a,x∈ws\/x.1∈fr)(d:a.length<=ws.length+k):Eh κ wn V A N C base l ws fr k e w:=⟨c,a,b,f,d⟩
def Eh.zA0{wn:Int}{V A N C base:Nat}{l}{ws a}{fr fr1}{k c:Nat}{e:Ending}{w}(h:Eh κ wn V A N C base l a fr1 c e w)(m:∀x∈a,x∈ws\/x.1∈fr)(j:∀b∈fr1,b∈fr)(q:a.length+c<=ws.length+k):Eh κ wn V A N C base l ws fr k e w:=by
 let⟨d,o,f,i,p⟩:=h;exact⟨d,o,f,λx n=>(i x n).elim (m x) (λg=>.inr (j _ g)),oM⟩
def XQ(wn:Int)(V A N C base F:Nat)(l:ϣ)(ws:ϥ)(fr:Ϥ)(b:Nat)(r h:HL)(q:Nat)(O:BN)(L:θ (Tn 0))(w:Ϣ)(s:BM κ wn V A N C base F l ws (b::fr) w)(hb:b<N)(a5:ws.length<100000)(a2:fr.length<=100000)(hp:h.p=some q)(k:RN O 0 w q L.sub) (hz:∀p∈ζ L.sub,A2 p) (hm:2+qK3 μ (ζ L.sub)<=128) (hn:(ζ L.sub).length<=126):Ω 174 #[υ V r,AY h,.func (.func 175) #[] #[ϖ F]] w λe w'=>(Eh κ wn V A N C base l ws (b::fr) 1 e w'\/(e=ϱ (AY ⟨h.key,(b:Int),A9 (Az 0 (ζ L.sub) []),none⟩)/\BM κ wn V A N C base F l (ws++[(b,ι (Az 0 (ζ L.sub) []))]) fr w'))/\Wx base [A,F] w w':=by let⟨vp,k,ae⟩:=k;obtain⟨D,E,rfl⟩:=DU ae;let⟨G,T⟩:=eX<|(ζ L.sub).length;obtain⟨g,ac⟩:∃g:Int,g=0:=⟨_,rfl⟩;let⟨vl,af⟩:=eX<|Value.slice none 0 0;rw[<-ac,<-af,<-T]at k;rw[<-T]at ae;have n:=zh<|n3 T ac af;clear T ac af;have:=U k;(have al:h.ptr=some (ϰ q 0):=by simp[HL.ptr,hp]);rw[υ,AY,al];clear hp al;go_enter func174,ntmps174;go_wp2_with fail;let⟨H,ag,aj,ai,aa,Z,ad⟩:=Hu w (ϲ (ϟ V r) 89) (ϲ #[ϕ h.key,ϊ h.b,.int .u64 h.s,ϖ q] 87)<|ϲ Di 87;unfold Di at aa ag;rw[<-ag];clear ag;have d:H.drew.heap[w.heap.size+1]?=some (ϲ #[ϕ h.key,ϊ h.b,.int .u64 h.s,ϖ q] 87)/\Ϙ H.drew q (Aq g (ϒ D G E) vl):=⟨ai,Z.hp k⟩;refine aB (S:=λW=>W.heap[w.heap.size+1]?=some (ϲ #[ϕ h.key,ϊ h.b,.int .u64 h.s,ϖ q] 87)/\Ϙ W q (Aq g (ϒ D G E) vl)) kR d λ_=>?_;apply zN 0 d;apply zV 1 _ rfl (λW a=>by have:=ϻ a.1 3;clear a;go_simp;rfl) d;apply zV 2 _ rfl (λW a=>by have:=U a.2;clear a;go_simp;rfl) d;apply zN 3 d;refine zV 4 _ rfl (λW a=>by have:=ϻ a.2 0;clear a;go_simp;rfl) d ?_;apply zN 5 d;refine zV 6 _ rfl (λW a=>by have:=ϻ a.1 3;clear a;go_simp;rfl) d ?_;refine zV 7 _ rfl (λW a=>by have c:=U a.2;clear a;go_simp;rfl) d ?_;apply zN 8 d;apply zV 9 _ rfl (λW a=>by have:=ϻ a.2 1;clear a;go_simp;rfl) d;apply zN 10 d;refine zq 11 λK hK=>?_;go_simp;obtain⟨m,ah,y,v⟩:∃m,m=(H.alloc<|ϲ #[ϊ 0,ϒ none 0 0,ϒ none 0 0] 213).drew/\m.heap[w.heap.size+3]?=some (ϲ #[ϊ 0,ϒ none 0 0,ϒ none 0 0] 213)/\Kp [] H m:=⟨_,rfl,by rw[<-ad];exact φ H _,(kF.alloc _).drew⟩;rw[<-ah];(have a4:m.heap.size=w.heap.size+4:=by rw[ah];simp[ad]);clear ah;refine hK.out _ _ ⟨v.hp d.1,v.hp d.2⟩ λ_=>?_;(try simp[zZ]);refine zq 12 λK hK=>?_;have z0:=Y y;have X:=ω y;have au:=U y;go_simp;obtain⟨f,am,av,M⟩:∃f,f=((m.setCell (ϰ (w.heap.size+3) 0)<|ϊ g).setCell (ϰ (w.heap.size+3) 1)<|ϒ D G E).setCell (ϰ (w.heap.size+3) 2) (ϒ none 0 0)/\f.heap[w.heap.size+3]?=some (Aq g (ϒ D G E)<|ϒ none 0 0)/\Kp [w.heap.size+3] m f:=⟨_,rfl,η (η (η y 0 _) 1 _) 2 _,((kF.sc _).sc _).sc _⟩;rw[<-am];clear am z0 X;have Q:=(Z.tr v).tr M;have u:=v.trans M sO;have o:=n2 (u.hp d.1)<|u.hp d.2;refine hK.out _ _ o λ_=>?_;refine zd ?_;(try simp[zZ]);(have:w.heap.size+4<=f.heap.size:=by have:=M.size;omega);have az:=u.hp aj;have aw:=u.hp aa;have:=ϻ o.1 3;have q2:=ϻ o.2 2;have ao:=zh o.1;have:=U o.2;clear d o u M v Z aj ai aa y au a4 ad;rw[n.out.2.2]at q2;have:=s.dk.sA;have:=s.sF;go_wp2_with fail;refine dS 1 ?_;rw[cN];go_wp2_with fail;have I:=zh<|s.qK4 Q;have i:f.drew.heap[w.heap.size+1]?=some (ϲ #[ϕ h.key,ϊ h.b,.int .u64 h.s,ϖ q] 87)/\Ϙ f.drew w.heap.size (ϲ (ϟ V r) 89):=⟨ao,az⟩;refine aB (S:=λW=>W.heap[w.heap.size+1]?=some (ϲ #[ϕ h.key,ϊ h.b,.int .u64 h.s,ϖ q] 87)/\Ϙ W w.heap.size (ϲ (ϟ V r) 89)) kR i λ_=>?_;refine zN 0 i ?_;apply zV 1 _ rfl (λW a=>by have:=ϻ a.1 0;clear a;go_simp;rfl) i;refine zN 2 i ?_;refine zV 3 _ rfl (λW a=>by have:=ϻ a.2 0;clear a;go_simp;rfl) i ?_;refine zN 4 i ?_;refine zq 5 λK hK=>?_;have a1:=Ob;go_simp;refine mR ((I.qK4<|(kE _ f).drew).next a2) ?_;rintro w3 ⟨a6,j⟩;have ab:=n2 (j.oth _ _ _ _ i.1 dC sO)<|j.oth _ _ _ _ i.2 dC sO;have ax:=j.oth _ _ _ _ aw dC sO;have:=j.size;refine hK.out _ _ ab λ_=>?_;clear hK K a1;(try simp[zZ]);refine zq 6 λK hK=>?_;go_simp;refine(a6.lay a5 hb (w.heap.size+3) g (ϒ D G E) (ϒ none 0 0) (ζ L.sub) [] (j.oth _ _ _ _ av dC sO) (oW n.out) (oW n.out) (by have h:=((ae.qK5 Q).qK5<|(kE _ f).drew).wx j dC<|(I.qK4<|(kE _ f).drew).apt.sub dC;rw[n.out.1]at h |-;exact h) ⟨rfl,Or.inl ⟨rfl,none,0,rfl,λ_=>rfl⟩⟩ (by simpa [Bf] using hm) sO hz sM).mono ?_;rintro e w4 ⟨(⟨a3,ar⟩|⟨rfl,a7⟩),B⟩;(.obtain⟨hnq,p,rfl⟩:=a3;go_wp2;exact⟨rfl,.inl<|Eh.of ⟨hnq,p,rfl⟩ ar (λx hx=>.inl hx) oM,((Wx.qN3 (Q.mono sM) s.low).trans<|((Wx.qN3 (Kp.mono (S:=[]) ((kE _ f).drew) sM) I.low).trans j).trans B)⟩);have R:=n2 (B.oth _ _ _ _ ab.1 dC sO)<|B.oth _ _ _ _ ab.2 dC sO;have z:=B.oth _ _ _ _ ax dC sO;refine zk hK R ?_;apply zN 7 R;refine zq 8 λK hK=>?_;have z0:=Y z;have X:=ω z;have:=U z;have ak:=Gk (ϕ h.key) (ϊ (b:Int)) (.int .u64<|A9<|Az g (ζ L.sub) []) (ϗ none) z;go_simp;let⟨w5,an,ay,P⟩:=gE ak;rw[<-an];clear an ak z0 X;refine hK.out _ _ ⟨P.hp R.1,P.ho R.2⟩ λ_=>?_;refine zd ?_;(try simp[zZ]);(have a0:χ w4 [w.heap.size+1+1] (H6++[24,3]):=λq k c t fr e=>by rw[mS k,z]at e;cases e;decide);have aq:=zh<|a7.qM5 P a0;have ap:=zh<|((Wx.qN3 (Q.mono sM) s.low).trans<|((Wx.qN3 (Kp.mono (S:=[]) ((kE _ f).drew) sM) I.low).trans j).trans B).tail P sO s.low;go_wp2_with fail;exact aG (aL results174 _ _ (w.heap.size+1+1) 87 #[ϕ h.key,ϊ (b:Int),.int .u64<|A9<|Az g (ζ L.sub) [],ϗ none] (0,0) _ rfl ay underlying87 rfl kR) rfl ⟨.inr ⟨by simp[AY,HL.ptr,n.out.2.1,Option.map_none],by have h:=aq.out;rwa[n.out.2.1]at h⟩,ap⟩
def Hr(κ:Kd)(wn:Int)(V A N C base F:Nat)(l:ϣ)(O:BN)(n:Nat):Prop:=∀(h r:HL) (L:θ (Tn n)) (fr:Ϥ) (ws:ϥ) (w:Ϣ),BM κ wn V A N C base F l ws fr w->RL O n w h L->Ej n L->news n L<=fr.length->(∀b∈fr,b<N)->ws.length+fr.length<=100000->
 Ω 174 #[υ V r,AY h,FI F] w λe w'=>(Eh κ wn V A N C base l ws fr (news n L) e w'\/(e=ϱ (AY (AU (Ac n L fr).1))/\BM κ wn V A N C base F l (ws++(Ac n L fr).2.1) (Ac n L fr).2.2 w'))/\Wx base [A,F] w w'
def XO(wn:Int)(V A N C base F:Nat)(l)(O:BN):Hr κ wn V A N C base F l O 0:=by
 intro h r L fr ws w d m t j p i
 cases hx:L.ref with
 | some x=>
  have n:L.ref.isSome:=by rw[hx];rfl
  let⟨c,o⟩:=Ma m n;have e:Ac 0 L fr=(L,[],fr):=by simp[Ac,if_pos n]
  rw[e];apply mR (LK V r h (FI F) w c);rintro w' hK;exact⟨.inr ⟨by rw[<-o],sU (d.qK4 hK)⟩,Wx.qN3 (hK.mono sM) d.low⟩
 | none=>
  let⟨s,q,c,u⟩:=LZ m hx;have k:¬L.ref.isSome=true:=by rw[hx];simp
  have f:news 0 L=1:=by simp[news,if_neg k]
  cases fr with
  | nil=>rw[f]at j;simp at j
  | cons b fr=>
   let⟨v,y,z⟩:=t.2 hx;have e:Ac 0 L (b::fr)=(⟨L.key,some (b,A9 (Az 0 (ζ L.sub) [])),L.sub⟩,[(b,ι (Az 0 (ζ L.sub) []))],fr):=by simp[Ac,if_neg k,List.headD_cons,List.tail_cons]
   rw[e];refine(XQ wn V A N C base F l ws fr b r h q O L w d (p b sM) (by simp at i;omega) (by simp at i;omega) c u v y z).mono ?_;rintro e w' ⟨(a|⟨rfl,a⟩),g⟩
   .exact⟨.inl (by rw[f];exact a),g⟩
   exact⟨.inr ⟨by simp[AU,s,Option.getD_some],a⟩,g⟩
variable {κ:Kd}
def Pv(n:Nat)(b)(a)(c:qK3 (news n) b<=a.length):∀x∈(AA (Ac n) b a).2.1,x.1∈a:=λx hx=>by
 have:x.1∈(AA (Ac n) b a).2.1.map Prod.fst:=List.mem_map_of_mem hx;rw[LD (Ac n) (news n) b a (λl _ a h=>⟨Ip n l a h,D5 n l a⟩) c]at this;exact mT this
def XP(wn:Int)(V A N C z F:Nat)(l:List UInt8)(O:BN)(hO:∀(n b:Nat)(s:Int)(t:Tn n),O n b s t->b<=1000000/\0<=s)(n:Nat)(IH:Hr κ wn V A N C z F l O n)(dj:N<=1000)(h r:HL)(q:Nat)(L:θ (Tn (n+1)))(b:Nat)(a o:List Nat)(M:List (Nat×List UInt8))(w:World)
  (hy:BM κ wn V A N C z F l M a w) (hp:h.p=some q) (Q:RN O (n+1) w q L.sub) (d4:n+1<256) (bu:∀m∈J L.sub,Ej n m) (hm:2+qK3 Af (J L.sub)<=128) (d6:(J L.sub).length<=126)
  (hn:qK3 (news n) (J L.sub)<=a.length) (hf:∀b∈a,b<N) (hl:M.length+a.length<=100000) (ak:(AA (Ac n) (J L.sub) a).2.2=b::o):
  Calls prog 174 #[υ V r,AY h,FI F] w λe w'=>(Eh κ wn V A N C z l M a (1+qK3 (news n) (J L.sub)) e w'\/(e=.returned (AY ⟨h.key,(b:Int),A9 (Az ((n+1:Nat):Int) [] ((AA (Ac n) (J L.sub) a).1.map AU)),none⟩)/\
   BM κ wn V A N C z F l (M++(AA (Ac n) (J L.sub) a).2.1++[(b,ι (Az ((n+1:Nat):Int) [] ((AA (Ac n) (J L.sub) a).1.map AU)))]) o w'))/\Wx z [A,F] w w':=by
 have Sy:Hid (∀{p:Prop},(_h:p:=by
  refine zq 6 λK hK=>?_;go_simp;let⟨w3,a6,ba,T,dv⟩:=BH I (ϲ #[ϕ X.key,ϊ X.b,.int .u64 X.s,ϗ none] 87);rw[<-a6];clear a6;let⟨d,hd⟩:=eX I.heap.size;rw[<-hd]at ba |-;clear hd;have Z:=And.intro (T.hp D.1) (T.hp D.2);have bo:=T.hp ah;refine zk hK Z ?_
  exact Sz.out)->p):=λh=>h
 have Sz:Hid (∀{p:Prop},(_h:p:=by
  have dt:=C3 a7.out au.out (χ.nil _ _);have cx:=C3 (Zj dt G dC (bq.apt.sub dC)) T (χ.nil _ _);refine zq 7 λK hK=>?_;apply Ke rfl rfl (.agg #[ϕ ⟨#[]⟩,ϊ 0,.int .u64 0,ϗ none]) 4 40 underlying156 GP rfl dC (w.heap.size+4) vj j _ (by simp[Act.eval]) cx d 0 1 1 #[ϕ X.key,ϊ X.b,.int .u64 X.s,ϗ none] 87 (0,0) (by simp[Act.eval]) ba sM (by simp[Am,Value.oneCell']) oM oM oM;intro v4 w4 cy dp _;obtain⟨g1,a9,rfl⟩:=D7 (n:=j) cy;have ag:Kp vj.ownBlock.toList w3 w4:=(Kp.refl _ _).grown dp (λk hk=>Or.inl (by simp[hk]));have bj:∀k,k<w.heap.size+4\/k=wr.heap.size->k∉vj.ownBlock.toList:=λk hk hm=>by
   have h1:=Mh a7.out k (sU hm);omega
  have ab:=And.intro (ag.heap Z.1 (bj _ oM)) (ag.heap Z.2 (bj _ (Or.inr rfl)));have a4:=ag.heap bo (bj _ oM);have:=U a4;refine zk hK ab ?_
  refine zU 8 (ϗ (some (ϰ (w.heap.size+3) 2))) ab ?_;refine zq 9 λK hK=>?_;have d2:=ϻ a4 2;have e2:=ω a4 2;go_simp;have ae:Kp [w.heap.size+3] w4 (w4.setCell (ϰ (w.heap.size+3) 2) (ϑ g1 0 (j+1) a9)):=(Kp.refl _ _).sc _;have be:=η a4 2 (ϑ g1 0 (j+1) a9);have cr:∀{Ts:List TypeId},213∉Ts->χ w4 [w.heap.size+3] Ts:=λhT q Q c t o e=>by rw[List.mem_singleton.1 Q,a4]at e;cases e;exact hT
  generalize w4.setCell (ϰ (w.heap.size+3) 2) (ϑ g1 0 (j+1) a9)=w5 at ae be |-;refine hK.out _ _ ⟨ae.hp ab.1,ae.ho ab.2⟩ (λ_=>?_);clear hK K d2 e2;refine zd ?_
  try simp[zZ]
  have bl:Wx z [A,F] w w5:=((((af.out.trans ((Wx.qN3 (au.out.mono sM) av.out.low).trans G)).tail T sM HY.out.low).tail ag (λk hk=>by have:=Mh a7.out k (sU hk);omega) HY.out.low).tail ae sM HY.out.low);have dy:=((c8.qK4 T).qM5 ag (Zh cx dC)).qM5 ae (cr dC);have dh:∀k c t o,Ϙ w3 k (ϲ c t o)->k<w.heap.size+3->Ϙ w5 k (ϲ c t o):=λk c t o e hk=>ae.heap (ag.heap e (bj k oM)) sO;have b4:∀k c t o,Ϙ wr k (ϲ c t o)->t≠117->w.heap.size<=k->k<w.heap.size+3->Ϙ w5 k (ϲ c t o):=λk c t o e ht h1 h2=>dh k c t o (T.heap (G.oth _ _ _ _ (au.out.hp e) ht sO) sM) h2;show K0 _ w5;refine HREST g1 a9 d w5 ⟨oX ae.size ag.size,b4 _ _ _ _ cb.out dC oM oM,b4 _ _ _ _ bn.out dC oM oM,b4 _ _ _ _ ce.out dC oM oM,be,?_,dy,bl⟩;have e:Ap ((AA (Ac n) ((J L.sub).take (j+1)) a).1.map AU)=Ap ((AA (Ac n) ((J L.sub).take j) a).1.map AU)++(Am #[ϕ X.key,ϊ X.b,.int .u64 X.s,ϗ none] 0 (1*4)).toList:=by
   rw[cf.out,List.map_append,List.map_cons,List.map_nil,<-HX.out];simp[Ap,Fi,Am,cq]
  rw[e];exact C3 cy ae (cr dC))->p):=λh=>h
 let⟨vl,Q,v,b1,aq⟩:=Q;obtain⟨lb,lc,rfl⟩:=DU b1;let⟨ln,bi⟩:=eX v.length;obtain⟨P,bv⟩:∃P:Option Addr,P=none:=⟨_,rfl⟩;let⟨pn,bx⟩:=eX 0;let⟨pc,bw⟩:=eX 0;obtain⟨B,bs⟩:∃B:Int,B=((n+1:Nat):Int):=⟨_,rfl⟩;let⟨vl,b5⟩:=eX (Value.slice lb ln lc);rw[<-bs,<-bi,<-b5]at Q;rw[<-bi]at b1;have c4:Ϙ w q (Aq B (ϒ P pn pc) vl):=by rw[bv,bx,bw];exact Q
 have HQ:=zh c4;have aa:=zh (n6 bv bx bw bs b5 bi);have d7:=U Q;have HY:=zh hy;have cz:h.ptr=some (ϰ q 0):=by simp[HL.ptr,hp]
 rw[υ,AY,cz,FI];let⟨R,an⟩:=eX (AA (Ac n) (J L.sub) a);rw[<-an];have a8:=zh (n2 an ak);clear Q c4 hy hp cz bv bx bw bs b5 bi an ak;go_enter func174,ntmps174;go_wp2_with fail;let⟨w0,b6,co,cl,bp,al,b0⟩:=Hu w (ϲ (ϟ V r) 89) (ϲ #[ϕ h.key,ϊ h.b,.int .u64 h.s,ϖ q] 87) (ϲ Di 87);unfold Di at bp b6;rw[<-b6];clear b6;have y:w0.drew.heap[w.heap.size+1]?=some (ϲ #[ϕ h.key,ϊ h.b,.int .u64 h.s,ϖ q] 87)/\Ϙ w0.drew q (Aq B (ϒ P pn pc) vl):=⟨cl,al.hp HQ.out⟩;refine wp_region_held_drew (S:=λW=>W.heap[w.heap.size+1]?=some (ϲ #[ϕ h.key,ϊ h.b,.int .u64 h.s,ϖ q] 87)/\Ϙ W q (Aq B (ϒ P pn pc) vl)) kR y (λ_=>?_);apply zU 0 (ϗ (some (ϰ (w.heap.size+1) 3))) y;apply zV 1 (ϖ q) rfl (λW f=>by have:=ϻ f.1 3;clear f;go_simp) y;apply zV 2 (ϖ q) rfl (λW f=>by have c:=U f.2;clear f;go_simp) y;apply zP 3 q 0 y;refine zV 4 (ϊ B) rfl (λW f=>by have:=ϻ f.2 0;clear f;go_simp) y ?_;apply zU 5 (ϗ (some (ϰ (w.heap.size+1) 3))) y;refine zV 6 (ϖ q) rfl (λW f=>by have:=ϻ f.1 3;clear f;go_simp) y ?_;refine zV 7 (ϖ q) rfl (λW f=>by have c:=U f.2;clear f;go_simp) y ?_;apply zP 8 q 1 y;apply zV 9 (ϒ P pn pc) rfl (λW f=>by have:=ϻ f.2 1;clear f;go_simp) y;apply zU 10 (.agg #[ϊ B,ϒ P pn pc,ϒ none 0 0]) y;refine zq 11 λK hK=>?_;go_simp;obtain⟨E,ar,az,ac⟩:∃E,E=(w0.alloc (ϲ #[ϊ 0,ϒ none 0 0,ϒ none 0 0] 213)).drew/\E.heap[w.heap.size+3]?=some (ϲ #[ϊ 0,ϒ none 0 0,ϒ none 0 0] 213)/\Kp [] w0 E:=⟨_,rfl,by rw[<-b0];exact φ w0 _,((Kp.refl _ _).alloc _).drew⟩;rw[<-ar];have c6:E.heap.size=w.heap.size+4:=by rw[ar];simp[b0]
 clear ar;refine hK.out _ _ ⟨ac.hp y.1,ac.hp y.2⟩ (λ_=>?_)
 try simp[zZ]
 refine zq 12 λK hK=>?_;have z0:=Y az;have f0:=ω az;have di:=U az;go_simp;obtain⟨I,c7,ah,bb⟩:∃I,I=((E.setCell (ϰ (w.heap.size+3) 0) (ϊ B)).setCell (ϰ (w.heap.size+3) 1) (ϒ P pn pc)).setCell (ϰ (w.heap.size+3) 2) (ϒ none 0 0)/\I.heap[w.heap.size+3]?=some (Aq B (ϒ P pn pc) (ϒ none 0 0))/\Kp [w.heap.size+3] E I:=
  ⟨_,rfl,η (η (η az 0 _) 1 _) 2 _,(((Kp.refl _ _).sc _).sc _).sc _⟩
 rw[<-c7];clear c7 z0 f0;have ck:=(al.tr ac).tr bb;have aw:=ac.trans bb sO;have D:=And.intro (aw.hp y.1) (aw.hp y.2);refine hK.out _ _ D (λ_=>?_);refine zd ?_
 try simp[zZ]
 have bk:w.heap.size+4<=I.heap.size:=by have:=bb.size;omega
 have cp:=aw.hp co;have cm:=aw.hp bp;have l3:=ϻ D.1 3;have q2:=ϻ D.2 2;have ca:=zh D.1;have du:=U D.2;clear y D aw bb ac al co cl bp az di c6 b0;rw[aa.out.2.2.2.2.1]at q2;have:=HY.out.dk.sA;have d1:=HY.out.sF;have ci:=zh (HY.out.qK4 ck);have ch:Hid (Wx z [A,F] w I):=Wx.qN3 (ck.mono sM) HY.out.low;go_wp2_with fail
 go_loopw [31] (λi wr=>∃(j:Nat)(vj:Value),j<=ln/\i=.int .i64 j/\w.heap.size+4<=wr.heap.size/\Hid (wr.heap[w.heap.size+1]?=some (ϲ #[ϕ h.key,ϊ h.b,.int .u64 h.s,ϖ q] 87))/\Hid (Ϙ wr w.heap.size (ϲ (ϟ V r) 89))/\Hid (wr.heap[w.heap.size+1+1]?=some (ϲ ϙ 87))/\Hid (wr.heap[w.heap.size+3]?=some (Aq B (ϒ P pn pc) vj))/\Hid (wr.ownsRow (w.heap.size+4) 87 4 vj j (Ap ((AA (Ac n) ((J L.sub).take j) a).1.map AU)))/\Hid (BM κ wn V A N C z F l (M++(AA (Ac n) ((J L.sub).take j) a).2.1) (AA (Ac n) ((J L.sub).take j) a).2.2 wr)/\Hid (Wx z [A,F] w wr)) (λi _=>ln-(intOf i).toNat)
 case atStart=>exact⟨0,ϒ none 0 0,Nat.zero_le _,rfl,bk,ca,cp,cm,ah,by show World.ownsRow _ _ _ _ _ _ _;exact World.ownsRow_nil _ _ _ _,by show BM _ _ _ _ _ _ _ _ _ _ _ _;simpa [AA] using ci.out,ch⟩
 case round=>
  obtain⟨j,vj,hj,rfl,d8,cb,bn,ce,cd,a7,av,af⟩:=hrel;clear l3 q2 ca cp cm ah ci ch bk du;by_cases d3:j<ln
  .have br:j<v.length:=by have:=aa.out;omega
   have bg:j<(J L.sub).length:=by rw[<-aq.1];exact br
   have b2:=b1;rw[aa.out.2.2.2.2.2]at b2;let⟨gb,bm,dz,d0,fq,hv,dm,bz,cs⟩:=b2.link oM;let⟨c0,c1,c2,c3⟩:=cs j br;simp[Value.slice.injEq,true_and]at hv;obtain⟨rfl,rfl⟩:=hv;have ap:=HY.out.apt;have hR:=af.out.oth _ _ _ _ bz dC (λhm=>ap _ hm _ _ _ bz dC);have a0:=Y hR (bm+j*4);have a1:=Y hR (bm+j*4+1);have a2:=Y hR (bm+j*4+2);have a3:=Y hR (bm+j*4+3);rw[c0]at a0;rw[c1]at a1;rw[c2]at a2;rw[c3]at a3;have dq:=U hR;have ds:(j:Int)<(ln:Int):=oM
   have dd:Hid (RL O n wr v[j] (J L.sub)[j]):=(aq.2 j br bg).mono (λq Q=>RN.wx af.out ap n q _ Q) (λ_ _ h=>h);clear cs b2 dm ap;go_wp2_with fail;rename_i K0 al;let⟨X,hX⟩:=eX (AU (Ac n (J L.sub)[j] (AA (Ac n) ((J L.sub).take j) a).2.2).1);have cq:X.ptr=none:=by rw[hX];rfl
   have b3:=Px (Ac n) ((J L.sub).take j) (J L.sub)[j] a;rw[<-List.take_succ_eq_append_getElem bg]at b3;have cf:=zh b3;have HX:=zh hX;let⟨E,ar,cj,ac,c6⟩:=BH wr (ϲ #[ϕ v[j].key,ϊ v[j].b,.int .u64 v[j].s,ϗ v[j].ptr] 87);rw[<-ar];clear ar b3 hX a0 a1 a2 a3 hR bz c0 c1 c2 c3 dq ds;have u:Ϙ E.drew w.heap.size (ϲ (ϟ V r) 89)/\Ϙ E.drew wr.heap.size (ϲ #[ϕ v[j].key,ϊ v[j].b,.int .u64 v[j].s,ϗ v[j].ptr] 87):=⟨ac.hp bn.out,cj⟩;have ay:=ac.drew;have bc:=ay.hp cd.out;have bq:=av.out.qK4 ay;have b9:Hid (Ω 174 #[υ V r,AY v[j],FI F] E.drew λe w'=>(Eh κ wn V A N C z l M a (1+qK3 (news n) (J L.sub)) e w'\/(e=ϱ (.agg #[ϕ X.key,ϊ X.b,.int .u64 X.s,ϗ none])/\BM κ wn V A N C z F l (M++(AA (Ac n) ((J L.sub).take (j+1)) a).2.1) (AA (Ac n) ((J L.sub).take (j+1)) a).2.2 w'))/\Wx z [A,F] E.drew w'):=by
    have bf:=ES (Ac n) (news n) ((J L.sub).take j) a (λl _ o=>D5 n l o);have aj:=JI (Ac n) (news n) ((J L.sub).take j) a (λl _ o=>GX n l o);have d5:=IA (news n) (J L.sub) j bg;refine(IH v[j] r (J L.sub)[j] _ _ E.drew bq (RL.qK4 dd.out ay (χ.nil _ _)) (bu _ (List.getElem_mem bg)) (by rw[bf,List.length_drop];omega) (λb hb=>hf b (by rw[bf]at hb;exact List.mem_of_mem_drop hb)) (by rw[bf,List.length_append,aj,List.length_drop];omega)).mono ?_;rintro e w' ⟨(h1|⟨rfl,h1⟩),h2⟩
    .refine⟨.inl (h1.zA0 (λx H=>?_) (λb hb=>?_) ?_),h2⟩
     .rcases List.mem_append.1 H with H|H
      .exact .inl H
      .exact .inr (Pv n _ a (oW (EJ (news n) (J L.sub) j)) x H)
     .rw[bf]at hb;exact List.mem_of_mem_drop hb
     .rw[List.length_append,aj];omega
    rw[cf.out,<-List.append_assoc];exact⟨.inr ⟨by rw[<-HX.out,AY,cq],h1⟩,h2⟩
   have au:=zh ay;refine Ka (α:=Nat->Nat->Nat->Act) (R:=λA0=>∀g c d W,(w.heap.size+4<=W.heap.size/\W.heap[w.heap.size+1]?=some (ϲ #[ϕ h.key,ϊ h.b,.int .u64 h.s,ϖ q] 87)/\Ϙ W w.heap.size (ϲ (ϟ V r) 89)/\W.heap[w.heap.size+1+1]?=some (ϲ ϙ 87)/\W.heap[w.heap.size+3]?=some (Aq B (ϒ P pn pc) (ϑ g 0 (j+1) c))/\W.ownsRow (w.heap.size+4) 87 4 (ϑ g 0 (j+1) c) (j+1) (Ap ((AA (Ac n) ((J L.sub).take (j+1)) a).1.map AU))/\BM κ wn V A N C z F l (M++(AA (Ac n) ((J L.sub).take (j+1)) a).2.1) (AA (Ac n) ((J L.sub).take (j+1)) a).2.2 W/\Wx z [A,F] w W)->K0 (A0 g c d) W) ?_;apply Exists.intro;apply And.intro
   rotate_left
   .intro HREST;refine wp_region_held_drew (S:=λW=>Ϙ W w.heap.size (ϲ (ϟ V r) 89)/\Ϙ W wr.heap.size (ϲ #[ϕ v[j].key,ϊ v[j].b,.int .u64 v[j].s,ϗ v[j].ptr] 87)) kR u (λ_=>?_);refine zU 0 (ϗ (some (ϰ (w.heap.size+3) 2))) u ?_;apply zV 2 (.agg (ϟ V r)) rfl (λW f=>by have:=Y f.1;clear f;go_simp) u;apply zV 3 (.agg #[ϕ v[j].key,ϊ v[j].b,.int .u64 v[j].s,ϗ v[j].ptr]) rfl (λW f=>by have:=Y f.2;clear f;go_simp) u;refine zU 4 (.func (.func 175) #[] #[ϖ F]) u ?_;refine zr 1 5 (λK hK=>?_) λK hK=>?_
    .skip
     have c2:=ϻ bc 2;go_simp;refine hK.out _ _ u (λ_=>?_);clear hK K c2
     try simp[zZ]
     refine zq 5 λK hK=>?_;go_simp;refine(show Calls _ _ _ _ _ from b9.out).mono ?_;rintro e I ⟨(b7|⟨rfl,c8⟩),G⟩
     .obtain⟨⟨a5,p,rfl⟩,b8⟩:=b7;clear hK;go_wp2;exact⟨rfl,.inl ⟨⟨a5,p,rfl⟩,b8⟩,af.out.trans ((Wx.qN3 (au.out.mono sM) av.out.low).trans G)⟩
     have D:=And.intro (G.oth _ _ _ _ u.1 dC sO) (G.oth _ _ _ _ u.2 dC sO);have ah:=G.oth _ _ _ _ bc dC sO;have bk:E.heap.size<=I.heap.size:=G.size;apply zk hK D
     exact Sy.out
    .skip
     go_simp;refine(show Calls _ _ _ _ _ from b9.out).mono ?_;rintro e I ⟨(b7|⟨rfl,c8⟩),G⟩
     .obtain⟨⟨a5,p,rfl⟩,b8⟩:=b7;clear hK;go_wp2;exact⟨rfl,.inl ⟨⟨a5,p,rfl⟩,b8⟩,af.out.trans ((Wx.qN3 (au.out.mono sM) av.out.low).trans G)⟩
     have D:=And.intro (G.oth _ _ _ _ u.1 dC sO) (G.oth _ _ _ _ u.2 dC sO);have ah:=G.oth _ _ _ _ bc dC sO;have bk:E.heap.size<=I.heap.size:=G.size;apply zk hK D
     refine zr 1 6 (λK hK=>?_) λK hK=>?_
     .skip
      have c2:=ϻ ah 2;go_simp;refine hK.out _ _ D (λ_=>?_);clear hK K c2
      try simp[zZ]
      exact Sy.out
     .skip
      go_simp;let⟨w3,a6,ba,T,dv⟩:=BH I (ϲ #[ϕ X.key,ϊ X.b,.int .u64 X.s,ϗ none] 87);rw[<-a6];clear a6;let⟨d,hd⟩:=eX I.heap.size;rw[<-hd]at ba |-;clear hd;have Z:=And.intro (T.hp D.1) (T.hp D.2);have bo:=T.hp ah;refine zk hK Z ?_
      refine zq 1 λK hK=>?_;have c2:=ϻ bo 2;go_simp;refine hK.out _ _ Z (λ_=>?_);clear hK K c2
      try simp[zZ]
      exact Sz.out
   rintro g c d W ⟨e1,e2,e3,e4,e5,e6,e7,e8⟩;apply al _ _;have HE:Hid (w.heap.size+4<=W.heap.size/\W.heap[w.heap.size+1]?=some (ϲ #[ϕ h.key,ϊ h.b,.int .u64 h.s,ϖ q] 87)/\Ϙ W w.heap.size (ϲ (ϟ V r) 89)/\W.heap[w.heap.size+1+1]?=some (ϲ ϙ 87)/\W.heap[w.heap.size+3]?=some (Aq B (ϒ P pn pc) (ϑ g 0 (j+1) c))/\W.ownsRow (w.heap.size+4) 87 4 (ϑ g 0 (j+1) c) (j+1) (Ap ((AA (Ac n) ((J L.sub).take (j+1)) a).1.map AU))/\BM κ wn V A N C z F l (M++(AA (Ac n) ((J L.sub).take (j+1)) a).2.1) (AA (Ac n) ((J L.sub).take (j+1)) a).2.2 W/\Wx z [A,F] w W):=⟨e1,e2,e3,e4,e5,e6,e7,e8⟩;clear e1 e2 e3 e4 e5 e6 e7 e8 u ay bc bq cj ac al K0;go_wp2;exact⟨⟨j+1,_,oM,by go_num,HE.out.1,HE.out.2.1,HE.out.2.2.1,HE.out.2.2.2.1,HE.out.2.2.2.2.1,HE.out.2.2.2.2.2.1,HE.out.2.2.2.2.2.2.1,HE.out.2.2.2.2.2.2.2⟩,by simp[intOf];omega⟩
  .have cu:(J L.sub).take j=J L.sub:=List.take_of_length_le (by rw[<-aq.1];have:=aa.out;omega);have cv:j=(J L.sub).length:=by rw[<-aq.1];have:=aa.out;omega
   have:¬(j:Int)<(ln:Int):=oM
   have ak:=a8.out.2;have an:=a8.out.1;have bd:=a7.out;have ai:=av.out;rw[cu]at bd ai;rw[ak]at ai;have hb:=hf b (by have h:=ES (Ac n) (news n) (J L.sub) a (λl _ o=>D5 n l o);rw[ak]at h;exact List.mem_of_mem_drop (h ▸ List.mem_cons_self));have aj:=JI (Ac n) (news n) (J L.sub) a (λl _ o=>GX n l o);have bh:=LE (Ac n) (J L.sub) a;have dn:o.length<=100000:=by have h:=congrArg List.length (ES (Ac n) (news n) (J L.sub) a (λl _ o=>D5 n l o));rw[ak]at h;simp at h;omega
   have bt:=JJ n (J L.sub) a;have db:=PQ N n dj (J L.sub) a (λl hl=>by
    obtain⟨i,hi,rfl⟩:=List.getElem_of_mem hl;refine⟨by have h:=bu _ hl;cases n with | zero=>exact h.1 | succ n=>exact h.1,λx H=>?_⟩;have h2:=(aq.2 i (by rw[aq.1];exact hi) hi).2;rw[H]at h2;exact hO _ _ _ _ h2.2.2.2) hf
   rw[<-an]at bd ai aj bh bt db;have ct:(b::o).length+qK3 (news n) (J L.sub)=a.length:=by have h:=congrArg List.length (ES (Ac n) (news n) (J L.sub) a (λl _ o=>D5 n l o));rw[a8.out.2,List.length_drop]at h;omega
   have dx:(M++R.2.1).length<100000:=by rw[List.length_append,aj];simp at ct;omega
   have cg:Hid ((∀x∈M++R.2.1,x∈M\/x.1∈a)/\(M++R.2.1).length<=M.length+(1+qK3 (news n) (J L.sub))):=by
    refine⟨λx H=>?_,by rw[List.length_append,aj];omega⟩;rcases List.mem_append.1 H with H|H
    .exact .inl H
    .rw[a8.out.1]at H;exact .inr (Pv n _ a hn x H)
   have dc:Hid (wr.ownsRow (w.heap.size+4) 87 4 vj (R.1.map AU).length (Ap (R.1.map AU))):=by rw[List.length_map,bh,<-cv];exact bd
   have cc:Hid (2+qK3 μ []+qK3 Ab (R.1.map AU)<=128/\([]:List KV).length+(R.1.map AU).length<=255):=⟨by rw[bt,Bf];omega,by rw[List.length_map,bh];simp;omega⟩;clear cu cv bd aj bh bt ak an IH bu hm hn ct;go_wp2_with fail;have u:wr.drew.heap[w.heap.size+1]?=some (ϲ #[ϕ h.key,ϊ h.b,.int .u64 h.s,ϖ q] 87)/\Ϙ wr.drew w.heap.size (ϲ (ϟ V r) 89):=⟨cb.out,bn.out⟩;refine wp_region_held_drew (S:=λW=>W.heap[w.heap.size+1]?=some (ϲ #[ϕ h.key,ϊ h.b,.int .u64 h.s,ϖ q] 87)/\Ϙ W w.heap.size (ϲ (ϟ V r) 89)) kR u (λ_=>?_);refine zU 0 (ϖ (w.heap.size+1)) u ?_;apply zV 1 (ϕ h.key) rfl (λW f=>by have:=ϻ f.1 0;clear f;go_simp) u;refine zP 2 w.heap.size 0 u ?_;refine zV 3 (ϖ V) rfl (λW f=>by have:=ϻ f.2 0;clear f;go_simp) u ?_;refine zU 4 (.func (.func 175) #[] #[ϖ F]) u ?_;refine zq 5 λK hK=>?_;have dl:=Ob;go_simp;refine mR ((ai.qK4 ((Kp.refl _ wr).drew)).next dn) ?_;rintro w3 ⟨c9,ad⟩;have Z:=And.intro (ad.oth _ _ _ _ u.1 dC sO) (ad.oth _ _ _ _ u.2 dC sO);have cn:=ad.oth _ _ _ _ ce.out dC sO;have c5:=ad.oth _ _ _ _ cd.out dC sO;have:=ad.size;have dw:=((DV dc.out).qK5 ((Kp.refl _ wr).drew)).wx ad dC ((ai.qK4 ((Kp.refl _ wr).drew)).apt.sub dC);refine hK.out _ _ Z (λ_=>?_);clear hK K dl
   try simp[zZ]
   refine zq 6 λK hK=>?_;go_simp;refine(c9.lay dx hb (w.heap.size+3) B (ϒ P pn pc) vj [] (R.1.map AU) c5 (oW aa.out) (oW aa.out) (by have e:=aa.out;rw[e.1,e.2.1,e.2.2.1];exact⟨rfl,Or.inl ⟨rfl,none,0,rfl,λ_=>rfl⟩⟩) dw cc.out.1 cc.out.2 sM db).mono ?_;rintro e w4 ⟨(⟨dr,dg⟩|⟨rfl,da⟩),ao⟩
   .obtain⟨a5,p,rfl⟩:=dr;clear hK;go_wp2;exact⟨rfl,.inl (Eh.of ⟨a5,p,rfl⟩ dg cg.out.1 cg.out.2),((af.out).trans (((Wx.qN3 (Kp.mono (S:=[]) ((Kp.refl _ wr).drew) sM) ai.low).trans ad).trans ao))⟩
   have ab:=And.intro (ao.oth _ _ _ _ Z.1 dC sO) (ao.oth _ _ _ _ Z.2 dC sO);have am:=ao.oth _ _ _ _ cn dC sO;refine zk hK ab ?_
   apply zU 7 (.agg #[ϕ h.key,ϊ b,.int .u64 (A9 (Az B [] (R.1.map AU))),ϗ none]) ab;refine zq 8 λK hK=>?_;have z0:=Y am;have f0:=ω am;have dk:=U am;have cw:=Gk (ϕ h.key) (ϊ (b:Int)) (.int .u64 (A9 (Az B [] (R.1.map AU)))) (ϗ none) am;go_simp;let⟨w5,bl,be,ax⟩:=gE cw;rw[<-bl];clear bl cw z0 f0;refine hK.out _ _ ⟨ax.hp ab.1,ax.ho ab.2⟩ (λ_=>?_);refine zd ?_
   try simp[zZ]
   have ap:χ w4 [w.heap.size+1+1] (H6++[24,3]):=λq Q c t o e=>by rw[List.mem_singleton.1 Q,am]at e;cases e;decide
   have df:=zh (da.qM5 ax ap);have de:=zh (((af.out).trans (((Wx.qN3 (Kp.mono (S:=[]) ((Kp.refl _ wr).drew) sM) ai.low).trans ad).trans ao)).tail ax sO HY.out.low);clear u Z ab cn c5 c9 ad da ao ax ap am dk;go_wp2_with fail;exact bodyPost_ret (results_cell_row results174 _ _ (w.heap.size+1+1) 87 #[ϕ h.key,ϊ (b:Int),.int .u64 (A9 (Az B [] (R.1.map AU))),ϗ none] (0,0) _ rfl be underlying87 rfl kR) rfl ⟨.inr ⟨by simp[AY,HL.ptr,aa.out.2.2.2.1,Option.map_none],by have h:=df.out;rw[aa.out.2.2.2.1]at h;exact h⟩,de.out⟩
variable {κ:Kd}
def Dk.qR9{V A N C a:Nat}{l}{wr:Int}{w}(h:Dk κ V A N C a l [] wr w):Dk κ V A N C w.heap.size l [] wr w:=by let⟨v,c,b,f,d⟩:=h.hA;have e:=d rfl;subst e;exact⟨h.hV,⟨_,c,b,wN _ _ _ _,λ_=>rfl⟩,h.hC,h.gl,lR,h.fit,h.wl,h.len,h.N1⟩
def XN(f:Int)(V A N C c F:Nat)(l)(O:BN)(p:∀(n b:Nat)(s:Int)(t),O n b s t->b<=1000000/\0<=s)(o:N<=1000)(n:Nat)(k:Hr κ f V A N C c F l O n):Hr κ f V A N C c F l O (n+1):=by intro h r L fr ws w hy hr ho hn hf hl;cases hx:L.ref with|some x=>(have j:L.ref.isSome:=by rw[hx];rfl);let⟨d,u⟩:=Ma hr j;(have e:Ac (n+1) L fr=(L,[],fr):=by simp[Ac,aR j]);rw[e];refine mR (LK V r h (FI F) w d) ?_;rintro z hK;exact⟨.inr ⟨by rw[<-u],sU<|hy.qK4 hK⟩,Wx.qN3 (hK.mono sM) hy.low⟩|none=>let⟨v,q,d,y⟩:=LZ hr hx;(have i:¬L.ref.isSome=true:=by rw[hx];simp);(have m:news (n+1) L=1+qK3 (news n) (J L.sub):=by simp[news,aO i]);let⟨B,D,E,G⟩:=ho.2 hx;cases hfr:(AA (Ac n) (J L.sub) fr).2.2 with|nil=>have a:=congrArg List.length<|ES (Ac n) (news n) (J L.sub) fr λl _ fr=>D5 n l fr;rw[hfr,lD]at a;simp at a;omega|cons b fr'=>(have e:Ac (n+1) L fr=(⟨L.key,some (b,A9<|Az ((n+1:Nat):Int) []<|(AA (Ac n) (J L.sub) fr).1.map AU),(AA (Ac n) (J L.sub) fr).1⟩,(AA (Ac n) (J L.sub) fr).2.1++[(b,ι<|Az ((n+1:Nat):Int) []<|(AA (Ac n) (J L.sub) fr).1.map AU)],fr'):=by simp[Ac,aO i,hfr,jL,jT]);rw[e];refine(XP f V A N C c F l O p n k o h r q L b fr fr' ws w hy d y B D E G oM hf hl hfr).mono ?_;rintro e z ⟨(a|⟨rfl,a⟩),g⟩;exact⟨.inl (by rwa[m]),g⟩;exact⟨.inr ⟨by simp[AU,v,eO],by rwa[<-aA]⟩,g⟩
def Pu(c:Int)(V A N C a F:Nat)(l:ϣ)(O:BN)(e:∀(n b:Nat)(s:Int)(t:Tn n),O n b s t->b<=1000000/\0<=s)(d:N<=1000):∀n,Hr κ c V A N C a F l O n
 |0=>XO c V A N C a F l O|n+1=>XN c V A N C a F l O e d n<|Pu c V A N C a F l O e d n
def Hq(κ:Kd)(V A N C b:Nat)(l:ϣ)(d:Int)(c:Ϥ)(k:Nat)(e:Ending)(w:Ϣ):Prop:=
 Io κ e/\∃a,Dk κ.up V A N C b l a (nk d a.length) w/\(∀x∈a,x.1∈c)/\a.length<=k
def Rf{V A N C ag:Nat}{l}{i:Int}{w}(B:Dk κ V A N C ag l [] i w)(h X)(d)(k:Nat)(j)(v)(hv:Ai w 3 1 v d.length (ints d))(ab:∀x∈j,x.1∈d)(ac:j.length<=k)(al:X.ptr=none) (Z:∀(F:Nat)(a),Kp [] w a->BM κ i V A N C a.heap.size F l [] d a->Ω 174 #[υ V h,AY h,FI F] a λe m=>(Eh κ i V A N C a.heap.size l [] d k e m\/(e=ϱ (AY X)/\(∃O,BM κ i V A N C a.heap.size F l j O m)))/\Wx a.heap.size [A,F] a m):Ω 115 #[υ V h,v] w λe m=>((∃b,w.heap.size<=b/\Hq κ V A N C b l i d k e m)\/(e=ϱ (.agg #[ϊ X.b,.int .u64 X.s])/\∃b,w.heap.size<=b/\Dk κ V A N C b (laidAll l j) [] (nk i j.length) m))/\Kp [A,C] w m:=by
 obtain⟨K,L,rfl⟩:=DU hv;let⟨M,s⟩:=eX d.length;have H:Hid (Ai w 3 1 (ϒ K M L) d.length<|ints d):=by rwa[s]
 rw[<-s];have:=zh s;have I:=zh<|n2 ab ac;have:=B.sA;have:=U B.hC;have E:=zh Z;clear hv s Z ab ac;rw[υ];go_enter func115,ntmps115;go_wp2_with fail;let⟨a,ao,T,P,S,f,au⟩:=Hu w (ϲ (ϟ V h) 89) (ϲ #[ϒ K M L] 24)<|ϲ #[ϊ 0,.int .u64 0] 84;rw[<-ao];have aa:=B.qK5 f;have hy:BM κ i V A N C a.heap.size (w.heap.size+1) l [] d a:=⟨aa.qR9,⟨_,P,H.qK5 f⟩⟩;refine(show Calls _ _ _ _ _ from E (w.heap.size+1) a f hy).mono ?_;rintro e w1 ⟨an,g⟩;have:=g.size;have y:Hid (Kp [A] w w1):=⟨g.os.trans f.os,g.tape.trans f.tape,g.output.trans f.output,lT f.size g.size,λk hk hm=>(g.low k oM (by simp at hm |-;omega)).trans<|f.block k hk sM⟩;rcases an with⟨⟨D,p,rfl⟩,ar,ah,aq,am⟩|⟨rfl,O,ad⟩
 .go_wp2;exact⟨rfl,.inl ⟨a.heap.size,oM,⟨D,p,rfl⟩,ar,ah,λx hx=>(aq x hx).elim (λh=>by cases h) id,sU am⟩,y.mono sM⟩
 rw[AY,al];have W:=g.oth _ _ _ _ T dC sO;have aj:=g.oth _ _ _ _ S dC sO;have ae:=zh ad.dk;have G:Hid (w.heap.size<=a.heap.size):=by show _<=_;omega
 clear hy ad g T P S f H E aa;have:=ϻ W 0;have:=U W;go_wp2_with fail;let⟨w2,ap,ai,r,av⟩:=BH w1<|ϲ #[ϕ X.key,ϊ X.b,.int .u64 X.s,ϗ none] 87;rw[<-ap];apply(Mx<|ae.qK5 r).mono;rintro e u (⟨⟨D,p,rfl⟩,z,n,_⟩|⟨rfl,z,n⟩)
 .go_wp2;exact⟨rfl,.inl ⟨a.heap.size,G,⟨D,p,rfl⟩,j,z,I.1,I.2⟩,((y.mono (S':=[A,C]) sM).tr r).trans (n.mono (S':=[A,C]) sM) sM⟩
 have R:=n.ho ai;have o:=n.heap (r.hp aj) sO;have:=U R;have:=U o;have:=Y R;have:=Y o;have:=ω o;have af:Hid (Dk κ V A N C a.heap.size (laidAll l j) [] (nk i j.length) u/\Kp [A,C] w u):=⟨z,((y.mono sM).tr r).tr n⟩;go_wp2_with fail;have Q:Kp [w.heap.size+1+1] u ((u.setCell (ϰ (w.heap.size+1+1) 0)<|ϊ X.b).setCell (ϰ (w.heap.size+1+1) 1)<|.int .u64 X.s):=(kF.sc _).sc _;have ak:=η (η o 0<|ϊ X.b) 1<|.int .u64 X.s;let⟨e1,e4⟩:=af.out;apply aG (aL results115 _ _ (w.heap.size+1+1) 84 #[ϊ X.b,.int .u64 X.s] (0,0) _ rfl ak underlying84 rfl kR) rfl;exact⟨.inr ⟨rfl,a.heap.size,G,e1.qK4 Q (λq hq c t d e=>by rw[mS hq,o]at e;cases e;decide)⟩,e4.trans Q sO⟩
def qE9{V A N C o:Nat}{l}{c:Int}{w}(j:Dk κ V A N C o l [] c w)(O:BN)(q:∀(n b:Nat)(s:Int)(t),O n b s t->b<=1000000/\0<=s)(n:Nat)(h)(L)(a)(v)(z:RL O n w h L)(y:Ej n L)(k:news n L<=a.length)(r:∀b∈a,b<N)(G:a.length<=10000)(B:Ai w 3 1 v a.length (ints a)):Ω 115 #[υ V h,v] w λe f=>((∃b,w.heap.size<=b/\Hq κ V A N C b l c a (news n L) e f)\/(e=ϱ (.agg #[ϊ (AU (Ac n L a).1).b,.int .u64 (AU (Ac n L a).1).s])/\∃b,w.heap.size<=b/\Dk κ V A N C b (laidAll l (Ac n L a).2.1) [] (nk c (Ac n L a).2.1.length) f))/\Kp [A,C] w f:=by have:=GX n L a;(have u:∀x∈(Ac n L a).2.1,x.1∈a:=λx d=>by have g:x.1∈(Ac n L a).2.1.map Prod.fst:=fU d;rw[Ip n L a k]at g;exact mT g);refine Rf j h (AU (Ac n L a).1) a (news n L) (Ac n L a).2.1 v B u oM rfl ?_;intro F m p D;refine(Pu c V A N C m.heap.size F l O q j.N1 n h h L a [] m D (RL.qK4 z p<|χ.nil _ _) y k r sO).mono ?_;rintro e H ⟨(d|⟨rfl,E⟩),i⟩;exact⟨.inl d,i⟩;exact⟨.inr ⟨rfl,_,sU E⟩,i⟩
def qF0{V A N C f:Nat}{l}{c:Int}{w}(g:Dk κ V A N C f l [] c w)(fr)(v)(h:Ai w 3 1 v fr.length (ints fr)):Ω 115 #[υ V ⟨⟨#[]⟩,0,0,none⟩,v] w λe a=>((∃b,w.heap.size<=b/\Hq κ V A N C b l c fr 0 e a)\/(e=ϱ (.agg #[ϊ 0,.int .u64 0])/\∃b,w.heap.size<=b/\Dk κ V A N C b l [] c a))/\Kp [A,C] w a:=by refine Rf g ⟨⟨#[]⟩,0,0,none⟩ ⟨⟨#[]⟩,0,0,none⟩ fr 0 [] v h sM sM rfl ?_;intro F i j d;refine mR (LK V _ ⟨⟨#[]⟩,0,0,none⟩ (FI F) i rfl) ?_;rintro k hK;exact⟨.inr ⟨rfl,_,d.qK4 hK⟩,Wx.qN3 (hK.mono sM) d.low⟩
variable {κ:Nat}
def WR(N a b:Int):(Ak N a b).take 32=ι (B0 N a b):=by
 have:(ι<|B0 N a b).length=32:=by rw[EL,Mu]
 rw[Ak,aW oM,tL oM]
def Lo(N a b:Int):Ak N a b=ι CZ++(ι (AB 2 a)++(ι (AB 8 N)++(ι (AB 8 b)++(ι (AB 8 (A9 (CL N a b)))++List.replicate 96 0)))):=by simp[Ak,B0];(conv=>lhs;rw[CS]);simp[CL,CS,aA]
def WP(N a b:Int)(c:0<=N)(d:N<18446744073709551616):Cm (Bq (((Ak N a b).drop 8).take 8))=N:=by (have e:((Ak N a b).drop 8).take 8=ι (AB 8 N):=by rw[Lo,<-aA<|ι CZ];exact K7 _ _ _ 8 8 (by simp[EL,CK,CZ]) (by simp[EL,CK]));rw[e,DL _<|DH 8 N,EK 8 N dC c];have:(256:Int) ^ 8=18446744073709551616:=dC;omega
def WO(N a b:Int)(c:0<=a)(d:a<=1000):Cm (Bq (((Ak N a b).drop 6).take 2))=a:=by (have e:((Ak N a b).drop 6).take 2=ι (AB 2 a):=by rw[Lo];exact K7 _ _ _ 6 2 (by simp[EL,CZ]) (by simp[EL,CK]));rw[e,DL _<|DH 2 a,EK 2 a dC c];have:(256:Int) ^ 2=65536:=dC;omega
def WQ(N b a:Int)(c:0<=a)(d:a<18446744073709551616):Cm (Bq (((Ak N b a).drop 16).take 8))=a:=by (have e:((Ak N b a).drop 16).take 8=ι (AB 8 a):=by rw[Lo,<-aA<|ι CZ,<-aA<|ι CZ++ι (AB 2 b)];exact K7 _ _ _ 16 8 (by simp[EL,CK,CZ]) (by simp[EL,CK]));rw[e,DL _<|DH 8 a,EK 8 a dC c];have:(256:Int) ^ 8=18446744073709551616:=dC;omega
structure Fv(i:Nat)(N a b:Int):Prop where
 place:N % 2=(i:Int)
 n0:0<=N
 n1:N<18446744073709551616
 b0:0<=a
 b1:a<=1000
 s0:0<=b
 s1:b<18446744073709551616
def FK(l)(h:l.length<=8):0<=Cm (Bq l)/\Cm (Bq l)<(256:Int) ^ l.length:=by have a:=Ji l;rw[JW _ a (by rwa[GI])];have:=L6 _ a;rwa [GI]at this
def AL(l:ϣ)(i:Nat)(N a b:Int):Prop:=Cm (Bq (((ρ l i).drop 8).take 8))=N/\Cm (Bq (((ρ l i).drop 6).take 2))=a/\Cm (Bq (((ρ l i).drop 16).take 8))=b/\N % 2=(i:Int)/\ι (B0 N a b)=(ρ l i).take 32
def EB(x:ϣ)(a b:Nat)(h:a+b<=32):(x.drop a).take b=((x.take 32).drop a).take b:=by rw[dU,cP,dE oM]
def AL.sec{l l2}{i:Nat}{N e f:Int}(h:AL l i N e f)(a:(ρ l2 i).take 32=(ρ l i).take 32):AL l2 i N e f:=by let⟨b,c,d,g,j⟩:=h;rw[EB _ 8 8 oM,<-a,<-EB _ 8 8 oM]at b;rw[EB _ 6 2 oM,<-a,<-EB _ 6 2 oM]at c;rw[EB _ 16 8 oM,<-a,<-EB _ 16 8 oM]at d;exact⟨b,c,d,g,j.trans a.symm⟩
def AL.laid{l}{i:Nat}{N b c:Int}(d:(ρ l i).take 32=(Ak N b c).take 32)(a:Fv i N b c):AL l i N b c:=by refine⟨?_,?_,?_,a.place,?_⟩;rw[EB _ 8 8 oM,d,<-EB _ 8 8 oM];exact WP N b c a.n0 a.n1;rw[EB _ 6 2 oM,d,<-EB _ 6 2 oM];exact WO N b c a.b0 a.b1;rw[EB _ 16 8 oM,d,<-EB _ 16 8 oM];exact WQ N b c a.s0 a.s1;rw[d,WR]
def AL.bnd{l}{i:Nat}{N d e:Int}(h:AL l i N d e)(f:(ρ l i).length=128):0<=N/\N<18446744073709551616/\0<=d/\0<=e:=by have b:=FK (((ρ l i).drop 8).take 8) (by rw[lK];omega);have a:=FK (((ρ l i).drop 6).take 2) (by rw[lK];omega);have c:=FK (((ρ l i).drop 16).take 8) (by rw[lK];omega);rw[lK,lD,f,h.1]at b;rw[h.2.1]at a;rw[h.2.2.1]at c;exact⟨b.1,b.2,a.1,c.1⟩
def AL.one{l}{i:Nat}{N c e b d f:Int}(h:AL l i N c e)(a:AL l i b d f):N=b/\c=d/\e=f:=⟨h.1.symm.trans a.1,h.2.1.symm.trans a.2.1,h.2.2.1.symm.trans a.2.2.1⟩
def Co(l:List UInt8)(i:Nat):Option (Int×Int×Int)→Prop
 | some h=>AL l i h.1 h.2.1 h.2.2
 | none=>∀N rb rs,¬AL l i N rb rs
def D0:Option (Int×Int×Int)→Value
 | some h=>Cy h.1 h.2.1 h.2.2
 | none=>Cy 0 0 0
def Co.is(l)(i:Nat):∃h,Co l i h:=by by_cases h:∃N a b,AL l i N a b;let⟨N,a,b,h⟩:=h;exact⟨some (N,a,b),h⟩;exact⟨none,λN a b c=>h ⟨N,a,b,c⟩⟩
def Co.sec{l l2}{i:Nat}{h:Option (Int×Int×Int)}(a:Co l i h)(b:(ρ l2 i).take 32=(ρ l i).take 32):Co l2 i h:=by cases h with|some h=>exact AL.sec a b|none=>exact λN rb rs hv=>a N rb rs<|hv.sec b.symm
def EY(N N':Int):Bool:=decide (0<wrap64 (IntKind.u64.wrap (N-N')))
def YJ{N a:Int}(h:N=τ a)(b:0<=a)(c:a<18446744073709551616):EY N a=true/\EY a N=false:=by unfold EY;rw[h];unfold τ;refine⟨?_,?_⟩<;>simp[wrap64,cJ,gI,jF]<;>omega
def YK(N f a b c d:Int)(w):Ω 206 #[.agg #[.int .u64 N,ϊ a,.int .u64 b],.agg #[.int .u64 f,ϊ c,.int .u64 d]] w λe g=>e=ϱ (ϐ (EY N f))/\Below w.heap.size w g:=by go_enter func206,ntmps206;go_wp2;go_ret;exact⟨rfl,((Below.refl _ _).alloc lR _).alloc sM _⟩
def BY:Option (Int×Int×Int)→Option (Int×Int×Int)→Option (Int×Int×Int)
 | a,none=>a
 | none,some b=>some b
 | some a,some b=>if EY b.1 a.1 then some b else some a
def Bw(l:ϣ)(N c d:Int):Prop:=∃a b,Co l 0 a/\Co l 1 b/\BY a b=some (N,c,d)
def Bw.same{l l2}{N b c:Int}(h:Bw l N b c)(a:∀k,k<2->(ρ l2 k).take 32=(ρ l k).take 32):Bw l2 N b c:=by let⟨d0,d1,h0,h1,h2⟩:=h;exact⟨d0,d1,h0.sec<|a 0 oM,h1.sec<|a 1 oM,h2⟩
def Bw.move{l l'}{N a b:Int}(h:Bw l N a b)(c:∀k,k<2->ρ l' k=ρ l k):Bw l' N a b:=h.same λk h2=>by rw[c k h2]
def Bw.valid{l}{N c d:Int}(h:Bw l N c d):∃i:Nat,i<2/\N % 2=(i:Int)/\AL l i N c d:=by let⟨d0,d1,h0,h1,h2⟩:=h;cases d0 with|none=>(cases d1 with|none=>cases h2|some b=>cases h2;exact⟨1,oM,h1.2.2.2.1,h1⟩)|some a=>cases d1 with|none=>cases h2;exact⟨0,oM,h0.2.2.2.1,h0⟩|some b=>simp[BY]at h2;split at h2;cases h2;exact⟨1,oM,h1.2.2.2.1,h1⟩;cases h2;exact⟨0,oM,h0.2.2.2.1,h0⟩
def Bw.next{l}{i j:Nat}{N a f g c d:Int}(b:AL l i N f g)(e:AL l j a c d)(n:a=τ N)(o:i<2)(p:j<2)(h:(ρ l i).length=128):Bw l a c d:=by have:=b.2.2.2.1;have:=e.2.2.2.1;have:=Hl N;have k:=YJ n (b.bnd h).1 (b.bnd h).2.1;have m:(i=0/\j=1)\/(i=1/\j=0):=oM;rcases m with⟨rfl,rfl⟩|⟨rfl,rfl⟩;exact⟨some (N,f,g),some (a,c,d),b,e,by simp[BY,k.1]⟩;exact⟨some (a,c,d),some (N,f,g),e,b,by simp[BY,k.2]⟩
def Bw.made{l}{i j:Nat}{N d e a b:Int}(c:ρ l i=Ak (τ N) d e)(f:ρ l j=Ak (τ (τ N)) a b)(g:i<2)(h:j<2)(k:Fv i (τ N) d e)(m:Fv j (τ (τ N)) a b):Bw l (τ (τ N)) a b:=
 Bw.next (AL.laid (by rw[c]) k) (AL.laid (by rw[f]) m) rfl g h (by rw[c,Cq])
def PW:∀a:List Int,(∀x∈a,0<=x/\x<256)->AB a.length (DS a)=a
 |[],_=>rfl|x::a,h=>by have:=h x sM;have c:=PW a λy b=>h y (by simp[b]);simp only[lC,DS,AB];rw[show(x+256*DS a) % 256=x by omega,show(x+256*DS a) / 256=DS a by omega,c]
def PV(l)(h:l.length<=8):AB l.length (Cm (Bq l))=Bq l:=by have a:=Ji l;rw[JW _ a (by rwa[GI])];have:=PW _ a;rwa [GI]at this
def Rg(l):ι (Bq l)=l:=by unfold ι Bq;rw[jG];refine Eq.trans (fQ (g:=id) λb _=>?_)<|List.map_id _;simp only[Function.comp,dD,id];exact jE
def FQ(l:ϣ):(ByteArray.mk l.toArray).size=l.length:=by simp[ByteArray.size]
def GA{c:Type}(l:List c)(a b:Nat):l.take (a+b)=l.take a++(l.drop a).take b:=List.take_add
def Zt(b:ϣ)(c a d:Nat)(m:c+(1+a+d)<=b.length)(x:UInt8)(i:b[c]?=some x)(n:x.toNat=a*16+d)(j:1<=a)(k:a<=8)(l:d<=12):∃p,A2 p/\μ p=1+a+d/\(b.drop c).take (μ p)=ι (Bl p):=by have e:((b.drop<|c+1).take a).length=a:=sO;have f:((b.drop<|c+1+a).take d).length=d:=sO;(have g:μ ⟨⟨((b.drop<|c+1).take a).toArray⟩,⟨((b.drop<|c+1+a).take d).toArray⟩⟩=1+a+d:=by simp only[μ,FQ,e,f]);refine⟨⟨⟨((b.drop<|c+1).take a).toArray⟩,⟨((b.drop<|c+1+a).take d).toArray⟩⟩,⟨?_,?_,?_⟩,g,?_⟩;show 1<=(ByteArray.mk ((b.drop<|c+1).take a).toArray).size;rwa[FQ,e];show(ByteArray.mk ((b.drop<|c+1).take a).toArray).size<=8;rwa[FQ,e];show(ByteArray.mk ((b.drop<|c+1+a).take d).toArray).size<=12;rwa[FQ,f];(have h:ι [((a:Nat):Int)*16+((d:Nat):Int)]=[x]:=by simp only[ι,bE,cV];rw[show(((a:Nat):Int)*16+((d:Nat):Int)).toNat=x.toNat by omega,jE]);rw[g,Bl,CS,CS,FT,FT];simp only[FQ,e,f,h];rw[gX,GA,GA,bH,bH,aA];congr 1;rw[List.take_one,List.head?_drop,i];rfl
def X6(b:ϣ)(a c:Nat)(p:a+(11+c)<=b.length)(x:UInt8)(l:b[a+10]?=some x)(q:x.toNat=c)(o:c<=8):∃h:HL,h.p=none/\h.key.size<=8/\0<=h.b/\h.b<65536/\0<=h.s/\h.s<18446744073709551616/\Ab h=11+c/\(b.drop a).take (Ab h)=ι (Bo h):=by
 have g:((b.drop a).take 2).length=2:=sO
 have i:((b.drop<|a+2).take 8).length=8:=sO
 have f:((b.drop<|a+11).take c).length=c:=sO
 have d:=FK ((b.drop a).take 2) oM;have e:=FK ((b.drop<|a+2).take 8) oM;rw[g]at d;rw[i]at e;have m:(256:Int) ^ 2=65536:=dC
 have n:(256:Int) ^ 8=18446744073709551616:=dC
 have n2:=PV ((b.drop a).take 2) oM;have j:=PV ((b.drop<|a+2).take 8) oM;rw[g]at n2;rw[i]at j;refine⟨⟨⟨((b.drop<|a+11).take c).toArray⟩,Cm<|Bq<|(b.drop a).take 2,Cm<|Bq<|(b.drop<|a+2).take 8,none⟩,rfl,by show(ByteArray.mk _).size<=8;rwa[FQ,f],d.1,by rw[<-m];exact d.2,e.1,by rw[<-n];exact e.2,by simp only[Ab,FQ,f],?_⟩;have k:ι [((c:Nat):Int)]=[x]:=by
  simp only[ι,bE,cV];rw[show(((c:Nat):Int)).toNat=x.toNat by omega,jE]
 simp only[Ab,Bo,FQ,f];rw[CS,CS,CS,FT,n2,j,Rg,Rg,k];rw[show 11+c=2+(8+(1+c)) by omega,GA,GA,GA,bH,bH,bH,aA,aA,show a+2+8=a+10 by omega,show a+10+1=a+11 by omega]
 congr 2
 rw[List.take_one,List.head?_drop,l];rfl
def Hv{w:Ϣ}{B b:Nat}{a:ϣ}{t:Ϯ}{x:UInt8}(c:w.heap[B]?=some (ϲ (enc a) t))(d:a[b]?=some x):w.cell? (ϰ B b)=some (.int .u8 ((x.toNat:Nat):Int)):=by rw[Y c];unfold enc AT;rw[zG,bQ,d];rfl
def ZL(B b o:Nat)(bl)(v)(w)(f:w.heap[B]?=some (ϲ (enc bl) 288))(C:bl.length=128)(F:b<=128)(q:b<128->o=b) (n:∀p,A2 p->b+μ p<=128->(bl.drop b).take (μ p)≠ι (Bl p)):Ω 274 #[v,.slice (some (ϰ B o)) (128-b) (128-b)] w λe t=>e=ϱ (.tuple #[.slice none 0 0,.slice none 0 0,ϐ false])/\∃m,t=w.drewN m:=by by_cases i:b=128;(.rw[i,show 128-128=0 from rfl];go_enter func274,ntmps274;go_wp2;go_ret3;exact⟨rfl,0,rfl⟩);have k:b<128:=oM;rw[q k];obtain⟨x,g⟩:∃x,bl[b]?=some x:=⟨_,gQ oM⟩;have:=x.toNat_lt;let⟨m,l⟩:=eX (128-b);obtain⟨y,s⟩:∃y:Int,y=((x.toNat:Nat):Int):=⟨_,rfl⟩;obtain⟨a,E⟩:∃a:Nat,a=x.toNat / 16:=⟨_,rfl⟩;obtain⟨c,H⟩:∃c:Nat,c=x.toNat % 16:=⟨_,rfl⟩;have:y / 16=(a:Int):=oM;have:y % 16=(c:Int):=oM;have h:=Hv f g;rw[<-s]at h;(have:(a:Int)<1\/(8:Int)<(a:Int)\/(12:Int)<(c:Int)\/(m:Int)<1+(a:Int)+(c:Int):=by refine Classical.byContradiction λD=>?_;have d:1<=a/\a<=8/\c<=12/\1+a+c<=m:=oM;let⟨p,r,G,j⟩:=Zt bl b a c oM x g oM d.1 d.2.1 d.2.2.1;exact n p r oM j);have:(0:Int)<(m:Int):=oM;have:((m:Int) == 0)=false:=sO;have:=U f;have:c<16:=oM;have:a<16:=oM;rw[<-l];go_enter func274,ntmps274;by_cases u:(a:Int)<1;(.skip;go_wp2_with fail;go_quiet (fail);go_wp2;go_ret3;exact⟨rfl,_,rfl⟩);by_cases z:(8:Int)<(a:Int);(.skip;go_wp2_with fail;go_quiet (fail);go_wp2;go_ret3;exact⟨rfl,_,rfl⟩);by_cases A:(12:Int)<(c:Int);(.skip;go_wp2_with fail;go_quiet (fail);go_wp2;go_ret3;exact⟨rfl,_,rfl⟩);have:(m:Int)<1+(a:Int)+(c:Int):=oM;go_wp2_with fail;go_quiet (fail);go_wp2;go_ret3;exact⟨rfl,_,rfl⟩
def ZG(B a o:Nat)(bl)(v)(w)(d:w.heap[B]?=some (ϲ (enc bl) 288))(E:bl.length=128)(A:a<=128)(j:a<128->o=a) (i:∀h:HL,h.p=none/\h.key.size<=8/\0<=h.b/\h.b<65536/\0<=h.s/\h.s<18446744073709551616->a+Ab h<=128->(bl.drop a).take (Ab h)≠ι (Bo h)):Ω 275 #[v,.slice (some (ϰ B o)) (128-a) (128-a)] w λe C=>e=ϱ (.tuple #[.slice none 0 0,.slice none 0 0,ϐ false])/\∃m,C=w.drewN m:=by by_cases f:128-a<11;(.let⟨m,c⟩:=eX (128-a);rw[<-c]at f |-;have:(m:Int)<11:=oM;clear j i d f A c;go_enter func275,ntmps275;go_wp2;go_ret3;exact⟨rfl,0,rfl⟩);have z:a<128:=oM;rw[j z];obtain⟨x,k⟩:∃x,bl[a+10]?=some x:=⟨_,gQ oM⟩;have:=x.toNat_lt;let⟨m,c⟩:=eX (128-a);obtain⟨b,g⟩:∃b:Nat,b=x.toNat:=⟨_,rfl⟩;have t:=Hv d k;rw[<-g]at t;(have:(8:Int)<(b:Int)\/(m:Int)<11+(b:Int):=by refine Classical.byContradiction λF=>?_;have u:b<=8/\11+b<=m:=oM;let⟨h,l,n,p,q,r,s,G,y⟩:=X6 bl a b oM x k g.symm u.1;exact i h ⟨l,n,p,q,r,s⟩ oM y);have:¬(m:Int)<11:=oM;have:(10:Int)<(m:Int):=oM;have:=U d;have:b<256:=oM;rw[<-c];go_enter func275,ntmps275;by_cases D:(8:Int)<(b:Int);(.go_wp2;go_ret3;exact⟨rfl,0,rfl⟩);have:(m:Int)<11+(b:Int):=oM;go_wp2;go_ret3;exact⟨rfl,0,rfl⟩
def Uj(d:Nat)(x y:Int)(h:x≠y)(W):(Op.equalIn (d+1) 5 (.int .u8 x) (.int .u8 y)).run prog W=.ok false W:=by simp[Op.equalIn,cO underlying5,h]
def Xj(d:Nat)(E F)(n:DE E)(o:DE F)(u:E.size=F.size)(W):∀a:Ϥ,(∀i∈a,i<E.size)->(∃i∈a,E[i]?≠F[i]?)->(Op.eqItems (d+1) 5 1 E F a).run prog W=.ok false W:=by intro a;induction a with|nil=>intro _ h;let⟨i,f,_⟩:=h;cases f|cons i a ih=>intro h p;have f:=h i sM;have q:i<F.size:=oM;let⟨x,s⟩:=n E[i] sM;let⟨y,t⟩:=o F[i] sM;(have b:E[i*1]?=some (.int .u8 x):=by rw[iZ,jA f,s]);(have c:F[i*1]?=some (.int .u8 y):=by rw[iZ,jA q,t]);by_cases m:x=y;subst m;simp only[Op.eqItems,bO,iQ W (P:=prog) (e:=5) kR b,iQ W (P:=prog) (e:=5) kR c,aZ,N0,fW,cE,dQ];refine ih (λj r=>h j (by simp[r])) ?_;let⟨k,g,l⟩:=p;rcases List.mem_cons.1 g with rfl|g;rw[iZ]at b c;exact absurd (b.trans c.symm) l;exact⟨k,g,l⟩;simp only[Op.eqItems,bO,iQ W (P:=prog) (e:=5) kR b,iQ W (P:=prog) (e:=5) kR c,aZ,Uj _ _ _ m,gH,gD];rfl
def T6(E F)(g:E.size=128)(h:F.size=128)(b:DE E)(c:DE F)(e:E≠F)(W):Sem.run prog (Op.equalIn 10000 288 (.agg E) (.agg F)) W=.ok false W:=by let⟨j,a,_⟩:=bF Tryz.qO0;apply Eq.trans (run_equalIn_array (P:=prog) W 9999 E F underlying288 a);rw[show prog.cellsOf 5=1 from by kernel_rfl];apply Xj 9998 E F b c oM W _ (λi a=>by rw[g];simpa using a);refine Classical.byContradiction λf=>e ?_;refine Array.ext_getElem? λi=>?_;by_cases a:i<128;exact Classical.byContradiction λd=>f ⟨i,sU a,d⟩;rw[Array.getElem?_eq_none oM,Array.getElem?_eq_none oM]
def Vu{a b}(h:AT a=AT b):a=b:=by unfold AT at h;refine(List.map_inj_right ?_).1 h;intro x y e;simp[Value.int.injEq,bN]at e;exact jM.1 oM
def Ow{a b}(h:enc a=enc b):a=b:=Vu (by simpa [enc] using h)
def Iu{b:Type}(f:b->Nat)(l:List b)(h:∀x∈l,1<=f x):l.length<=qK3 f l:=by induction l with|nil=>simp|cons a l ih=>have:=h a sM;have:=ih λx c=>h x (by simp[c]);rw[AV,lC];omega
def EU{b:Type}(f:b->Nat)(l:List b)(a:b):qK3 f (l++[a])=qK3 f l+f a:=by rw[Br,AV,Bf,bG]
def I1(b:ϣ)(a:List KV):Prop:=(∀p∈a,A2 p)/\2+qK3 μ a<=128/\b=ι (Az 0 a [])
def I0(b:ϣ)(c:Int)(a:List HL):Prop:=(∀p∈a,p.p=none/\p.key.size<=8/\0<=p.b/\p.b<65536/\0<=p.s/\p.s<18446744073709551616)/\2+qK3 Ab a<=128/\b=ι (Az c [] a)
def RX{p:Prop}(_h:p:=by
 rw[<-ae]at aq;clear bz af hF ae ac ah;go_wp2_with fail;have hSd:Ϙ wr.drew w.heap.size (ϲ E 288):=HB.out;refine wp_region_held_drew (S:=λW=>Ϙ W w.heap.size (ϲ E 288)) kR hSd (λ_=>?_);refine zU 0 (ϖ (w.heap.size+1)) hSd ?_;refine zU 1 (ϖ (w.heap.size+1)) hSd ?_;refine zV 3 (.agg E) rfl (λW hS=>Ga (t:=288) rfl kR 128 kR w.heap.size rfl hS HE.2) hSd ?_;refine zq 2 λK hK=>?_;go_simp;refine mR (show Calls _ _ _ _ _ from aq) ?_;rintro w1 hK1;have hS1:=hK1.hp hSd;refine zk hK hS1 ?_;refine zV 4 (.bool bb) rfl (λW hS=>by have h:=HEQ.out W;go_simp) hS1 ?_;refine zq 5 λK hK=>?_;go_simp;refine zk hK hS1 ?_;refine zq 6 λK hK=>?_;go_simp;refine zk hK hS1 ?_;refine zd ?_;have hKw:Kp [] wr w1:=((Kp.refl _ wr).drew).tr hK1;clear hK1 hS1 hSd aq;go_wp2;go_ret2;refine⟨?_,bd.tr hKw⟩;exact Tz.out):p:=_h
def R0{p:Prop}(_h:p:=by
 obtain⟨bb,HBB,HEQ⟩:∃bb:Bool,Hid ((bb=true/\q=some cm)\/(bb=false/\q=none))/\Hid (∀W,Sem.run prog (Op.equalIn 10000 288 (.agg F) (.agg E)) W=.ok bb W):=by
  cases hq0:q with
  | some ps=>
   let⟨⟨h1,h2,h3⟩,h4⟩:=HQ.out ps hq0;have e:=b8.out ps hq0;rw[al,tL oM]at e;rw[ac.2 (by rw[e];exact h3)];exact⟨true,.inl ⟨rfl,by rw[e]⟩,T7 E HE.2 ah⟩
  | none=>exact⟨false,.inr ⟨rfl,rfl⟩,T6 F E (by rw[ae,hF,CF,DJ];exact af) HE.2 (by rw[ae,hF];exact Ds _) ah λh=>HNO hq0 cm ⟨bg,by rw[<-au.out.1];exact au.2,ac.1 h⟩⟩
 exact Tz.out):p:=_h
def RG{p:Prop}(_h:p:=by
 obtain⟨bj,lj,cj,hvj⟩:∃bj lj cj,vj=.slice bj lj cj:=by
  rcases HO.2 with⟨h1,_⟩|⟨g,cap,cur,h1,_⟩
  .exact⟨_,_,_,h1⟩
  .exact⟨_,_,_,h1⟩
 subst hvj;go_wp2_with fail;refine mR (show Calls _ _ _ _ _ from ap) ?_;rintro w1 ⟨m,hw1⟩;have hK1:Kp [] wr w1:=by rw[hw1];exact kF.drewN _
 have bk:=hK1.hp HN.out;have:=U bk;exact Tz.out):p:=_h
def RH{p:Prop}(_h:p:=by
 have b1:(enc bl)[1]?=some (.int .u8 (cn:Int)):=by
  unfold enc AT;rw[zG,List.getElem?_map,ch,c5];rfl
 have hes:(enc bl).size=128:=by rw[CF];exact bx
 let⟨E,hE⟩:=eX (enc bl);have HE:Hid (E=enc bl/\E.size=128):=⟨hE,by rw[hE];exact hes⟩;have:Hid (cn<256/\bl[1]?=some x1/\cn=x1.toNat):=⟨oM,ch,c5⟩;have HNO:=ξ cg;exact Tz.out):p:=_h
def Zx(bl)  (q:Option (List KV)) (w) (bx:bl.length=128) (h0:bl[0]?=some 0) (hq:∀ps,q=some ps->I1 bl ps) (cg:q=none->∀ps,¬I1 bl ps):Ω 257 #[.agg (enc bl)] w λe w'=>((q=none/\∃v,e=ϱ (.tuple #[v,ϐ false]))\/∃ps a v,q=some ps/\e=ϱ (.tuple #[ϖ a,ϐ true])/\w'.heap[a]?=some (ϲ #[ϊ 0,v,.slice none 0 0] 213)/\w.heap.size<=a/\w'.ownsRow w.heap.size 185 2 v ps.length (Aj ps))/\Kp [] w w':=by
 obtain⟨x1,ch⟩:∃x,bl[1]?=some x:=⟨_,gQ oM⟩;have P:=x1.toNat_lt;obtain⟨cn,c5⟩:∃cn:Nat,cn=x1.toNat:=⟨_,rfl⟩;have n:(enc bl)[0]?=some (.int .u8 0):=by
  unfold enc AT;rw[zG,List.getElem?_map]
  first
   | (rw[h0];rfl)
   | (let⟨x,e1,e2⟩:=h0;rw[e1,e2];rfl)
 have Tz:Hid (∀{p:Prop},(_h:p:=by
  have HQ:Hid (∀ps,q=some ps->I1 bl ps/\ps.length=cn):=λps e=>by
   let⟨h1,h2,h3⟩:=hq ps e;refine⟨⟨h1,h2,h3⟩,?_⟩;have:=Iu μ ps (λp _=>by unfold μ;omega);have h:=Hx bl 0 128 (Az 0 ps []) (Cj 0 ps [] oM oM sO h1 sM) (EZ 0 ps [] (by simpa [Bf] using h2)) (by rw[h3,dZ,tL (by rw[DJ];exact Nat.le_of_eq (EZ 0 ps [] (by simpa [Bf] using h2)))]) 1 oM;rw[b1]at h;simp[Az,DA]at h;omega
  rw[<-hE]at n b1;rw[<-hE];clear c5 cg hq hes hE h0 ch P;go_enter func257,ntmps257;go_wp2_with fail;have s:=ψ (ϲ #[ϊ 0,.slice none 0 0,.slice none 0 0] 213) (φ w (ϲ E 288));have bj:=φ (w.alloc (ϲ E 288)) (ϲ #[ϊ 0,.slice none 0 0,.slice none 0 0] 213);rw[show(w.alloc (ϲ E 288)).heap.size=w.heap.size+1 from by simp]at bj;have hK0:Kp [] w ((w.alloc (ϲ E 288)).alloc (ϲ #[ϊ 0,.slice none 0 0,.slice none 0 0] 213)):=(kF.alloc _).alloc _
  go_loopw [5,6,15] (λr R i wr=>∃(j off o:Nat)(vj:Value)(cm:List KV),Hid (cm.length=j/\j<=cn)/\i=.int .u8 j/\R=.bool true/\Hid (off=2+qK3 μ cm/\off<=128)/\r=.slice (some (ϰ w.heap.size o)) (128-off) (128-off)/\Hid (off<128->o=off)/\Hid ((bl.drop 2).take (qK3 μ cm)=ι (cm.flatMap Bl))/\Hid (∀p∈cm,A2 p)/\Hid (∀ps,q=some ps->cm=ps.take j)/\Hid (Ϙ wr w.heap.size (ϲ E 288))/\Hid (wr.heap[w.heap.size+1]?=some (ϲ #[ϊ 0,vj,.slice none 0 0] 213))/\Hid (wr.ownsRow w.heap.size 185 2 vj j (Aj cm))/\Hid (Kp [] w wr)) (λ_ _ i _=>cn-(intOf i).toNat)
  case atStart=>exact⟨0,2,2,.slice none 0 0,[],⟨rfl,zL _⟩,rfl,rfl,⟨by simp[Bf],oM⟩,rfl,λ_=>rfl,by show _=_;simp[Bf,ι],by show ∀p∈([]:List KV),_;simp,λps _=>rfl,s,bj,by show World.ownsRow _ _ _ _ _ _ _;exact wN _ _ _ _,hK0⟩
  case round=>
   obtain⟨j,off,o,vj,cm,k,rfl,rfl,au,rfl,m,HTK,bg,b8,HB,HN,HO,bd⟩:=hrel;clear s bj hK0 n b1;have hjl:=k.out.1;have:j<=126:=by
    have h1:=Iu μ cm (λp _=>by unfold μ;omega);have:=au.out;omega
   by_cases aa:j<cn
   .have:(j:Int)<(cn:Int):=oM
    by_cases g:∃p:KV,(A2 p)/\off+μ p<=128/\(bl.drop off).take (μ p)=ι (Bl p)/\∀ps,q=some ps->cm++[p]=ps.take (j+1)
    .let⟨p,y,z,A,B⟩:=g;have D:=ξ B;have:0<μ p:=by unfold μ;omega
     have O:=(m oM).symm;subst O;have hN:=HN.out;have:=U hN;have:=Y hN;have:=ω hN 1;clear hN B;go_wp2_with fail;refine(ZN w.heap.size w.heap.size off bl p cm _ wr (by have h:=HB.out;rw[HE.out.1]at h;exact h) bx y z A (by rw[hjl];exact HO) (oW bd.out.size) oM).mono ?_;rintro e w1 ⟨v1,r1,rfl,hr1,⟨o1,rfl⟩,hown1,hbl1,hst1⟩;rw[hjl]at hown1;obtain⟨N,L,rfl⟩:=D7 hown1;have bk:=hst1 _ _ _ _ HN dC;have hB1:=hst1 _ _ _ _ HB dC;have:=U bk;have:=ϻ bk 1;have:=ω bk 1;have d:=zh (Kp.qL4 ((bd.below lR sM).trans hbl1) lR);have H:Hid (off+μ p<128->o1=off+μ p):=by
      intro h;have h2:=hr1 h;simp[vJ,Option.some.injEq,Addr.mk.injEq,and_true,true_and]at h2;exact h2
     have G:Hid (off+μ p=2+qK3 μ (cm++[p])/\off+μ p<=128):=⟨by rw[EU,au.out.1];omega,z⟩;have I:Hid ((bl.drop 2).take (qK3 μ (cm++[p]))=ι ((cm++[p]).flatMap Bl)):=by
      show _=_;rw[EU,GA,HTK.out,List.drop_drop,<-au.out.1,A,fA,CS];simp
     have K:Hid (∀q∈cm++[p],(λp:KV=>A2 p) q):=by
      intro q hq;rcases mA hq with hq|hq
      .exact bg q hq
      .rw[mS hq];exact y
     have:IntKind.u8.wrap ((j:Int)+1)=(j:Int)+1:=by rw[IntKind.wrap_u8];omega
     have l:Hid ((cm++[p]).length=j+1/\j+1<=cn):=⟨by rw[lA,hjl];rfl,oM⟩;go_wp2;have f:Kp [w.heap.size+1] w1 (w1.setCell (ϰ (w.heap.size+1) 1) (.slice (some (ϰ N 0)) (j+1) L)):=kF.sc _;have:=l.out.2;exact⟨⟨j+1,off+μ p,o1,_,cm++[p],l,by go_num,rfl,G,rfl,H,I,K,D,f.hp hB1,η bk 1 _,C3 hown1 f (λq hq c t fr e=>by rw[mS hq,bk]at e;cases e;decide),d.tr f⟩,by simp[intOf];omega⟩
    .have C:q=none:=by
      cases hq0:q with
      | none=>rfl
      | some ps=>
       let⟨⟨h1,h2,h3⟩,h4⟩:=HQ.out ps hq0;have b:j<ps.length:=oM
       have e:=b8.out ps hq0;have:=IA μ ps j b;have u:=au.out.1;rw[e]at u;exact absurd ⟨ps[j],h1 _ (gM b),oM,by rw[h3,u];exact YQ ps  j b,λS e'=>by rw[hq0]at e';cases e';rw[e];exact(tA b).symm⟩ g
     have ap:=zh (ZL w.heap.size off o bl vj wr (by have h:=HB.out;rw[HE.out.1]at h;exact h) bx (oW au.out) m (λp h1 h2 h3=>g ⟨p,h1,h2,h3,λps e=>by rw[C]at e;cases e⟩));have hN:=HN.out;have:=U hN;have Q:=Y hN;have M:=ω hN 1;have Tz:Hid (∀{p:Prop},(_h:p:=by
      have:=ϻ bk 1;have:=ω bk 1;have d:=zh (bd.tr hK1);clear hK1 hw1 Q M ap;go_wp2
      go_ret2
      exact⟨.inl ⟨C,_,rfl⟩,d.setCell (Or.inr dO) _⟩)->p):=λh=>h;exact RG
   .have:¬(j:Int)<(cn:Int):=oM
    have al:j=cn:=by have:=k.out;omega
    have bz:=Cj 0 cm [] oM oM sO bg sM;have af:=EZ 0 cm [] (by have:=au.out;simp[Bf];omega);have hF:(Ax (Az 0 cm [])).toArray=enc (ι (Az 0 cm [])):=by rw[enc,<-Kn _ bz]
    let⟨F,ae⟩:=eX ((Ax (Az 0 cm [])).toArray);have ah:DE E:=by rw[HE.out.1];exact Ds _
    have ac:F=E↔bl=ι (Az 0 cm []):=⟨λh=>Ow (by rw[<-hF,<-ae,h];exact HE.1.symm),λh=>by rw[ae,hF,<-h];exact HE.1.symm⟩;have Tz:Hid (∀{p:Prop},(_h:p:=by
     have aq:=Hid.mk' (KZ (w.heap.size+1) 0 vj (.slice none 0 0) cm [] wr.drew HN oM oM (DV (by have h:=HO.out;rw[<-hjl]at h;exact h)) ⟨rfl,Or.inl ⟨rfl,none,0,rfl,λ_=>rfl⟩⟩ (by have:=au.out;simp[Bf];omega) sO bg sM);have Tz:Hid (∀{p:Prop},(_h:p:=by
      rcases HBB with⟨rfl,h⟩|⟨rfl,h⟩
      .exact .inr ⟨cm,w.heap.size+1,vj,h,rfl,hKw.hp HN,oM,C3 (by have h:=HO.out;rw[<-hjl]at h;exact h) hKw (χ.nil _ _)⟩
      .exact .inl ⟨h,_,rfl⟩)->p):=λh=>h;exact RX)->p):=λh=>h;exact R0)->p):=λh=>h;exact RH
def Zw(bl)(lv:Int)(hlv0:0<lv)(f:lv<256)(q:Option (List HL))(w)(bx:bl.length=128)(h0:∃x:UInt8,bl[0]?=some x/\lv=((x.toNat:Nat):Int))(hq:∀ps,q=some ps->I0 bl lv ps)(cg:q=none->∀ps,¬I0 bl lv ps):Ω 257 #[.agg (enc bl)] w λe w'=>((q=none/\∃v,e=ϱ (.tuple #[v,ϐ false]))\/∃ps a v,q=some ps/\e=ϱ (.tuple #[ϖ a,ϐ true])/\w'.heap[a]?=some (ϲ #[ϊ lv,.slice none 0 0,v] 213)/\w.heap.size<=a/\w'.ownsRow w.heap.size 87 4 v ps.length (Ap ps))/\Kp [] w w':=by
 obtain⟨x1,ch⟩:∃x,bl[1]?=some x:=⟨_,gQ oM⟩;have Q:=x1.toNat_lt;obtain⟨cn,c5⟩:∃cn:Nat,cn=x1.toNat:=⟨_,rfl⟩;have u:(enc bl)[0]?=some (.int .u8 lv):=by
  unfold enc AT;rw[zG,List.getElem?_map]
  first
   | (rw[h0];rfl)
   | (let⟨x,e1,e2⟩:=h0;rw[e1,e2];rfl)
 have Tz:Hid (∀{p:Prop},(_h:p:=by
  have HQ:Hid (∀ps,q=some ps->I0 bl lv ps/\ps.length=cn):=λps e=>by
   let⟨h1,h2,h3⟩:=hq ps e;refine⟨⟨h1,h2,h3⟩,?_⟩;have:=Iu Ab ps (λp _=>by unfold Ab;omega);have h:=Hx bl 0 128 (Az lv [] ps) (Cj lv [] ps oM f sO sM (λp hp=>(h1 p hp).2.1)) (EZ lv [] ps (by simpa [Bf] using h2)) (by rw[h3,dZ,tL (by rw[DJ];exact Nat.le_of_eq (EZ lv [] ps (by simpa [Bf] using h2)))]) 1 oM;rw[b1]at h;simp[Az,DA]at h;omega
  rw[<-hE]at u b1;rw[<-hE];clear c5 cg hq hes hE h0 ch Q;go_enter func257,ntmps257;go_wp2_with fail;have y:=ψ (ϲ #[ϊ lv,.slice none 0 0,.slice none 0 0] 213) (φ w (ϲ E 288));have bj:=φ (w.alloc (ϲ E 288)) (ϲ #[ϊ lv,.slice none 0 0,.slice none 0 0] 213);rw[show(w.alloc (ϲ E 288)).heap.size=w.heap.size+1 from by simp]at bj;have hK0:Kp [] w ((w.alloc (ϲ E 288)).alloc (ϲ #[ϊ lv,.slice none 0 0,.slice none 0 0] 213)):=(kF.alloc _).alloc _
  go_loopw [5,6,15] (λr S i wr=>∃(j off o:Nat)(vj:Value)(cm:List HL),Hid (cm.length=j/\j<=cn)/\i=.int .u8 j/\S=.bool true/\Hid (off=2+qK3 Ab cm/\off<=128)/\r=.slice (some (ϰ w.heap.size o)) (128-off) (128-off)/\Hid (off<128->o=off)/\Hid ((bl.drop 2).take (qK3 Ab cm)=ι (cm.flatMap Bo))/\Hid (∀p∈cm,p.p=none/\p.key.size<=8/\0<=p.b/\p.b<65536/\0<=p.s/\p.s<18446744073709551616)/\Hid (∀ps,q=some ps->cm=ps.take j)/\Hid (Ϙ wr w.heap.size (ϲ E 288))/\Hid (wr.heap[w.heap.size+1]?=some (ϲ #[ϊ lv,.slice none 0 0,vj] 213))/\Hid (wr.ownsRow w.heap.size 87 4 vj j (Ap cm))/\Hid (Kp [] w wr)) (λ_ _ i _=>cn-(intOf i).toNat)
  case atStart=>exact⟨0,2,2,.slice none 0 0,[],⟨rfl,zL _⟩,rfl,rfl,⟨by simp[Bf],oM⟩,rfl,λ_=>rfl,by show _=_;simp[Bf,ι],by show ∀p∈([]:List HL),_;simp,λps _=>rfl,y,bj,by show World.ownsRow _ _ _ _ _ _ _;exact wN _ _ _ _,hK0⟩
  case round=>
   obtain⟨j,off,o,vj,cm,m,rfl,rfl,au,rfl,s,HTK,bg,b8,HB,HN,HO,bd⟩:=hrel;clear y bj hK0 u b1;have hjl:=m.out.1;have:j<=126:=by
    have h1:=Iu Ab cm (λp _=>by unfold Ab;omega);have:=au.out;omega
   by_cases aa:j<cn
   .have:(j:Int)<(cn:Int):=oM
    by_cases l:∃p:HL,(p.p=none/\p.key.size<=8/\0<=p.b/\p.b<65536/\0<=p.s/\p.s<18446744073709551616)/\off+Ab p<=128/\(bl.drop off).take (Ab p)=ι (Bo p)/\∀ps,q=some ps->cm++[p]=ps.take (j+1)
    .let⟨p,b,A,B,C⟩:=l;have G:=ξ C;have:0<Ab p:=by unfold Ab;omega
     have P:=(s oM).symm;subst P;have hN:=HN.out;have:=U hN;have:=Y hN;have:=ω hN 2;clear hN C;go_wp2_with fail;refine(ZH w.heap.size w.heap.size off bl p cm _ wr (by have h:=HB.out;rw[HE.out.1]at h;exact h) bx b.1 b.2.1 b.2.2.1 b.2.2.2.1 b.2.2.2.2.1 b.2.2.2.2.2 A B (by rw[hjl];exact HO) (oW bd.out.size) oM).mono ?_;rintro e w1 ⟨v1,r1,rfl,hr1,⟨o1,rfl⟩,hown1,hbl1,hst1⟩;rw[hjl]at hown1;obtain⟨O,M,rfl⟩:=D7 hown1;have bk:=hst1 _ _ _ _ HN dC;have hB1:=hst1 _ _ _ _ HB dC;have:=U bk;have:=ϻ bk 2;have:=ω bk 2;have g:=zh (Kp.qL4 ((bd.below lR sM).trans hbl1) lR);have I:Hid (off+Ab p<128->o1=off+Ab p):=by
      intro h;have h2:=hr1 h;simp[vJ,Option.some.injEq,Addr.mk.injEq,and_true,true_and]at h2;exact h2
     have H:Hid (off+Ab p=2+qK3 Ab (cm++[p])/\off+Ab p<=128):=⟨by rw[EU,au.out.1];omega,A⟩;have K:Hid ((bl.drop 2).take (qK3 Ab (cm++[p]))=ι ((cm++[p]).flatMap Bo)):=by
      show _=_;rw[EU,GA,HTK.out,List.drop_drop,<-au.out.1,B,fA,CS];simp
     have L:Hid (∀q∈cm++[p],(λp:HL=>p.p=none/\p.key.size<=8/\0<=p.b/\p.b<65536/\0<=p.s/\p.s<18446744073709551616) q):=by
      intro q hq;rcases mA hq with hq|hq
      .exact bg q hq
      .rw[mS hq];exact b
     have:IntKind.u8.wrap ((j:Int)+1)=(j:Int)+1:=by rw[IntKind.wrap_u8];omega
     have n:Hid ((cm++[p]).length=j+1/\j+1<=cn):=⟨by rw[lA,hjl];rfl,oM⟩;go_wp2;have k:Kp [w.heap.size+1] w1 (w1.setCell (ϰ (w.heap.size+1) 2) (.slice (some (ϰ O 0)) (j+1) M)):=kF.sc _;have:=n.out.2;exact⟨⟨j+1,off+Ab p,o1,_,cm++[p],n,by go_num,rfl,H,rfl,I,K,L,G,k.hp hB1,η bk 2 _,C3 hown1 k (λq hq c t fr e=>by rw[mS hq,bk]at e;cases e;decide),g.tr k⟩,by simp[intOf];omega⟩
    .have D:q=none:=by
      cases hq0:q with
      | none=>rfl
      | some ps=>
       let⟨⟨h1,h2,h3⟩,h4⟩:=HQ.out ps hq0;have d:j<ps.length:=oM
       have e:=b8.out ps hq0;have:=IA Ab ps j d;have z:=au.out.1;rw[e]at z;exact absurd ⟨ps[j],h1 _ (gM d),oM,by rw[h3,z];exact YP ps lv hlv0 f j d,λT e'=>by rw[hq0]at e';cases e';rw[e];exact(tA d).symm⟩ l
     have ap:=zh (ZG w.heap.size off o bl vj wr (by have h:=HB.out;rw[HE.out.1]at h;exact h) bx (oW au.out) s (λp h1 h2 h3=>l ⟨p,h1,h2,h3,λps e=>by rw[D]at e;cases e⟩));have hN:=HN.out;have:=U hN;have R:=Y hN;have N:=ω hN 2;have Tz:Hid (∀{p:Prop},(_h:p:=by
      have:=ϻ bk 2;have:=ω bk 2;have g:=zh (bd.tr hK1);clear hK1 hw1 R N ap;go_wp2
      go_ret2
      exact⟨.inl ⟨D,_,rfl⟩,g.setCell (Or.inr dO) _⟩)->p):=λh=>h;exact RG
   .have:¬(j:Int)<(cn:Int):=oM
    have al:j=cn:=by have:=m.out;omega
    have bz:=Cj lv [] cm oM f sO sM (λp hp=>(bg p hp).2.1);have af:=EZ lv [] cm (by have:=au.out;simp[Bf];omega);have hF:(Ax (Az lv [] cm)).toArray=enc (ι (Az lv [] cm)):=by rw[enc,<-Kn _ bz]
    let⟨F,ae⟩:=eX ((Ax (Az lv [] cm)).toArray);have ah:DE E:=by rw[HE.out.1];exact Ds _
    have ac:F=E↔bl=ι (Az lv [] cm):=⟨λh=>Ow (by rw[<-hF,<-ae,h];exact HE.1.symm),λh=>by rw[ae,hF,<-h];exact HE.1.symm⟩;have Tz:Hid (∀{p:Prop},(_h:p:=by
     have aq:=Hid.mk' (KZ (w.heap.size+1) lv (.slice none 0 0) vj [] cm wr.drew HN oM f ⟨rfl,Or.inl ⟨rfl,none,0,rfl,λ_=>rfl⟩⟩ (DV (by have h:=HO.out;rw[<-hjl]at h;exact h)) (by have:=au.out;simp[Bf];omega) sO sM (λp hp=>⟨(bg p hp).2.1,(bg p hp).2.2.1,oW ((bg p hp).2.2.2.1),(bg p hp).2.2.2.2.1⟩));have Tz:Hid (∀{p:Prop},(_h:p:=by
      rcases HBB with⟨rfl,h⟩|⟨rfl,h⟩
      .exact .inr ⟨cm,w.heap.size+1,vj,h,rfl,hKw.hp HN,oM,C3 (by have h:=HO.out;rw[<-hjl]at h;exact h) hKw (χ.nil _ _)⟩
      .exact .inl ⟨h,_,rfl⟩)->p):=λh=>h;exact RX)->p):=λh=>h;exact R0)->p):=λh=>h;exact RH
variable {κ:Kd}
def F3(a:ϣ)(n:Nat)(c:List KV)(b:List HL):Prop:=(n=0/\b=[]/\I1 a c)\/(0<n/\n<256/\c=[]/\I0 a (n:Int) b)
def CB(l:ϣ)(n b:Nat)(s:Int)(c:List KV)(a:List HL):Prop:=s=A9 (Bq (ρ l b))/\F3 (ρ l b) n c a
def Dj(w:Ϣ)(q n:Nat)(d:List KV)(c:List HL):Prop:=∃b a,w.heap[q]?=some (Aq (n:Int) b a)/\Ai w 185 2 b d.length (Aj d)/\Ai w 87 4 a c.length (Ap c)/\(n=0->a=.slice none 0 0)/\(0<n->b=.slice none 0 0)
def Dj.qK4{w w'}{q n:Nat}{ps}{hs}{S}(h:Dj w q n ps hs)(hK:Kp S w w')(a:χ w S BU):Dj w' q n ps hs:=by let⟨i,g,b,c,d,e⟩:=h;exact⟨i,g,hK.heap b λf=>a q f _ _ _ b dC,c.qK4 hK<|a.sub dC,d.qK4 hK<|a.sub dC,e⟩
def F3.lev{bl}{n:Nat}{ps}{hs}(h:F3 bl n ps hs):n<256/\bl[0]?=some (UInt8.ofNat n):=by rcases h with⟨rfl,_,_,_,h⟩|⟨_,a,_,_,_,h⟩;exact⟨oM,by rw[h];simp[ι,Az,DA]⟩;exact⟨a,by rw[h];simp[ι,Az,DA]⟩
def Q4(w)(T)(a:Nat):Ai w T a (.slice none 0 0) 0 []:=⟨sM,.inl ⟨rfl,none,0,rfl,λ_=>rfl⟩⟩
def Zy(bl)(q:Option (Nat×List KV×List HL))(w)(o:bl.length=128)(j:∀n b c,q=some (n,b,c)->F3 bl n b c)(p:q=none->∀n b c,¬F3 bl n b c):Ω 257 #[.agg (enc bl)] w λe k=>((q=none/\∃v,e=ϱ (.tuple #[v,ϐ false]))\/∃n b c a,q=some (n,b,c)/\e=ϱ (.tuple #[ϖ a,ϐ true])/\Dj k a n b c)/\Kp [] w k:=by obtain⟨x,hx⟩:∃x,bl[0]?=some x:=⟨_,gQ oM⟩;(have i:∀n b c,F3 bl n b c->n=x.toNat:=λn b c h=>by let⟨d,f⟩:=h.lev;rw[hx]at f;cases f;simp;omega);by_cases r:x.toNat=0;have s:x=0:=jM.1 r;refine(Zx bl (q.map λy=>y.2.1) w o (by rw[hx,s]) ?_ ?_).mono ?_;intro b e;(cases q with|none=>cases e|some y=>have h:=j _ _ _ rfl;have:=i _ _ _ h;rcases h with h|h;cases e;exact h.2.2;omega);intro e b h;(cases q with|none=>exact p rfl 0 b [] (.inl ⟨rfl,rfl,h⟩)|some y=>cases e);rintro e k ⟨⟨d,f⟩|⟨b,a,v,d,f,l,_,m⟩,hK⟩;exact⟨.inl ⟨(by cases q;rfl;cases d),f⟩,hK⟩;refine⟨.inr ?_,hK⟩;(cases q with|none=>cases d|some y=>have h:=j _ _ _ rfl;have g:=i _ _ _ h;rw[r]at g;rcases h with h|h;let⟨n,t,c⟩:=y;cases d;obtain⟨rfl,rfl,_⟩:=h;exact⟨0,_,[],a,rfl,f,v,_,l,DV m,Q4 _ _ _,λ_=>rfl,λh=>by omega⟩;omega);refine(Zw bl ((x.toNat:Nat):Int) oM (oW x.toNat_lt) (q.map λy=>y.2.2) w o ⟨x,hx,rfl⟩ ?_ ?_).mono ?_;intro b e;(cases q with|none=>cases e|some y=>have h:=j _ _ _ rfl;have g:=i _ _ _ h;rcases h with h|h;omega;cases e;rw[<-g];exact h.2.2.2);intro e b h;(cases q with|none=>exact p rfl x.toNat [] b (.inr ⟨oM,x.toNat_lt,rfl,h⟩)|some y=>cases e);rintro e k ⟨⟨d,f⟩|⟨b,a,v,d,f,l,_,m⟩,hK⟩;exact⟨.inl ⟨(by cases q;rfl;cases d),f⟩,hK⟩;refine⟨.inr ?_,hK⟩;cases q with|none=>cases d|some y=>have h:=j _ _ _ rfl;have g:=i _ _ _ h;rcases h with h|h;omega;let⟨n,t,c⟩:=y;cases d;obtain⟨_,_,rfl,_⟩:=h;exact⟨n,[],_,a,rfl,f,.slice none 0 0,v,by rw[l];simp[Aq];rw[show(n:Nat)=_ from g],Q4 _ _ _,DV m,λh=>by simp at g;omega,λ_=>rfl⟩
def Qi{V A N C u:Nat}{l}{ws}{wr:Int}{w}(I:Dk κ V A N C u l ws wr w)(i:Nat)(s:Int)(hi:i<N)(q:Option (Nat×List KV×List HL))(L:∀n f d,q=some (n,f,d)->CB (laidAll l ws) n i s f d)(aa:q=none->∀n f d,¬CB (laidAll l ws) n i s f d):Ω 217 #[ϖ V,.agg #[ϊ i,.int .u64 s]] w λe c=>((Io κ e/\Dk κ.up V A N C u l ws wr c)\/(((q=none/\∃v,e=ϱ (.tuple #[v,ϐ false]))\/∃n f d a,q=some (n,f,d)/\e=ϱ (.tuple #[ϖ a,ϐ true])/\Dj c a n f d)/\Dk κ V A N C u l ws wr c))/\Kp [A] w c/\A5 c A=A5 w A:=by
 let⟨F,H⟩:=eY (ρ (laidAll l ws) i);have X:F.length=128:=by rw[<-H];exact GJ (Dy N ws l I.len I.fit) hi
 let⟨E,B⟩:=eX (enc F);have Q:E.size=128:=by rw[B,CF];exact X
 have ay:Hid (∀W,Kp [] w W->Ω 247 #[ϖ V,ϊ i] W λe c=>((Io κ e/\Dk κ.up V A N C u l ws wr c)\/(e=ϱ (.agg E)/\Dk κ V A N C u l ws wr c))/\Kp [A] W c/\A5 c A=A5 W A):=λW hK=>by
  have h:=PU (I.qK5 hK) i hi;rw[H,<-B]at h;exact h
 let⟨S,m⟩:=eX (A9 (Bq F));have ah:Hid (S=s->∀W,Ω 257 #[.agg E] W λe c=>((q=none/\∃v,e=ϱ (.tuple #[v,ϐ false]))\/∃n f d a,q=some (n,f,d)/\e=ϱ (.tuple #[ϖ a,ϐ true])/\Dj c a n f d)/\Kp [] W c):=λo W=>by
  rw[B];unfold CB at L aa;rw[H,<-m]at L aa;exact Zy F q W X (λn f d e=>(L n f d e).2) (λe n f d h=>aa e n f d ⟨o.symm,h⟩)
 have a0:Hid (¬S=s->q=none):=λo=>by
  cases hq0:q with
  | none=>rfl
  | some y=>
   have h:=(L _ _ _ hq0).1;rw[H,<-m]at h;exact absurd h.symm o
 have a1:Hid (∀W b ac,Ϙ W b (ϲ E 288)->Ω 251 #[ϑ b 0 128 ac] W λe c=>e=ϱ (.int .u64 S)/\c=W):=λW b ac hb=>by
  rw[m];refine MH b 0 128 ac (Bq F) W (by rw[GI];exact X) oM (λj hj=>?_);rw[Y hb,B];unfold enc AT Bq;rw[zG,List.getElem?_map,Nat.zero_add,List.getD_eq_getElem?_getD,List.getElem?_map,gQ oM];rfl
 have ak:∀v∈E.toList,v.oneCell'=true:=by rw[B];exact(Ds _).one
 have ai:=I.sA;clear m B H X I L aa;go_enter func217,ntmps217;go_wp2_with fail;let⟨w0,a6,a3,G,a7⟩:=BH w (ϲ #[ϊ (i:Int),.int .u64 s] 84);rw[<-a6];apply(ay w0 G).mono;rintro e g ⟨(⟨⟨a4,p,rfl⟩,ad⟩|⟨rfl,ad⟩),R,Z⟩
 .rw[DN (G.block A ai sM)]at Z;go_wp2;exact⟨rfl,.inl ⟨⟨a4,p,rfl⟩,ad⟩,(G.mono sM).tr R,Z⟩
 rw[DN (G.block A ai sM)]at Z;have aw:=ξ Z;have ab:=Hid.mk' ad;have ao:=R.ho a3;have al:Kp [A] w g:=(G.mono sM).tr R;have:=R.size;go_wp2_with fail;have hN:=φ g (ϲ zeroCells288 288);rw[E1 hN (by simp[Ec,Q]) ak];rw[show E.toList.toArray=E from by simp,Eu (by rw[Ec,Q])];obtain⟨k,au,P,ap,am,ae,a8⟩:∃k,k=(g.alloc (ϲ zeroCells288 288)).setRow g.heap.size E/\Ϙ k g.heap.size (ϲ E 288)/\Ϙ k w.heap.size (ϲ #[ϊ (i:Int),.int .u64 s] 84)/\Kp [A] w k/\Kp [] g k/\k.heap.size=g.heap.size+1:=
  ⟨_,rfl,setRow_heap _ _ _ _ _ _ hN,(setRow_other _ _ _ _ oM).trans (ψ _ ao),(al.alloc _).setRow (Or.inr oM) _,(kF.alloc _).setRow (Or.inr lR) _,sM⟩
 rw[<-au];have ag:=Hid.mk' (ab.qK5 ae);have ax:=zh ((DN (ae.block A ab.sA sM)).trans aw);clear au hN ao ae ak;go_wp2_with fail;have x:Ϙ k.drew g.heap.size (ϲ E 288)/\Ϙ k.drew w.heap.size (ϲ #[ϊ (i:Int),.int .u64 s] 84):=⟨P,ap⟩;refine wp_region_held_drew (S:=λW=>Ϙ W g.heap.size (ϲ E 288)/\Ϙ W w.heap.size (ϲ #[ϊ (i:Int),.int .u64 s] 84)) kR x (λ_=>?_);refine zU 0 (ϑ g.heap.size 0 128 128) x ?_;apply zP 2 w.heap.size 1 x;apply zV 3 (.int .u64 s) rfl (λW m=>by have a:=ϻ m.2 1;clear m;go_simp) x;refine zq 1 λK hK=>?_;go_simp;refine mR (a1 k.drew g.heap.size 128 P) ?_;rintro c ar;rw[ar];clear ar c;refine zk hK x ?_
 obtain⟨D,T⟩:∃D:Bool,D=!(decide (S=s)):=⟨_,rfl⟩;refine zV 4 (ϐ D) rfl (λW m=>by clear m;rw[T];by_cases hz:S=s<;>simp[hz,decide_true,decide_false]<;>go_simp) x ?_;refine zd ?_;obtain⟨r,av,a2,aj,an,a9,aq⟩:∃r,r=k.drew/\Ϙ r g.heap.size (ϲ E 288)/\Dk κ V A N C u l ws wr r/\Kp [A] w r/\r.heap.size=k.heap.size/\A5 r A=A5 w A:=⟨_,rfl,P,ag.qK5 (kF.drew),am.drew,rfl,ax⟩;have z:=ξ (And.intro aj (And.intro an aq));rw[<-av];have:Am E 0 128=E:=by rw[<-Q];simp[Am,tL]
 clear av x P ap am al aj ag ab an aq;by_cases o:S=s
 .have az:=Hid.mk' (ah o);rw[show D=false by rw[T];simp[o]];clear T ah
  go_wp2_with (
   with_reducible refine GE (t:=288) ?_ 128 ?_ g.heap.size 0 ?_ E 288 (0,0) ?_ ?_ ?_
   .kernel_rfl
   .kernel_rfl
   .rfl
   .exact a2
   .have:=Q;omega)
  apply(az r).mono;rintro e w4 ⟨a5,af⟩;have O:=ξ (show Dk κ V A N C u l ws wr w4/\Kp [A] w w4/\A5 w4 A=A5 w A from⟨z.1.qK5 af,z.2.1.tr af,(DN (af.block A z.1.sA sM)).trans z.2.2⟩);rcases a5 with⟨h1,v,rfl⟩|⟨n,f,d,a,h1,rfl,h2⟩
  .have M:=ξ h1;go_wp2
   go_ret2
   exact⟨.inr ⟨.inl ⟨M,v,rfl⟩,O.1⟩,O.2⟩
  .have M:=ξ (And.intro h1 h2);go_wp2
   go_ret2
   exact⟨.inr ⟨.inr ⟨n,f,d,a,M.1,rfl,M.2⟩,O.1⟩,O.2⟩
 .rw[show D=true by rw[T];simp[o]];go_wp2
  go_ret2
  exact⟨.inr ⟨.inl ⟨a0 o,_,rfl⟩,z.1⟩,z.2⟩
def Fw(N:Nat)(l:List UInt8):(n:Nat)→List KV→List HL→Tn n→Prop
 | 0,ps,hs,t=>ζ t=ps∧hs=[]
 | n+1,ps,hs,t=>ps=[]∧AF (Dc (fun _ _=>False) (Av N l n)) hs (J t)
def Av.raw{N:Nat}{l}(o:N<=1000){n b:Nat}{s:Int}{t}(h:Av N l n b s t):∃i c,CB l n b s i c/\Fw N l n i c t:=by cases n with|zero=>let⟨j,k,g,a,d,e,f⟩:=h;refine⟨ζ t,[],⟨?_,.inl ⟨rfl,rfl,d,e,a⟩⟩,rfl,rfl⟩;rw[g,a,DL _<|Cj 0 _ [] oM oM sO d sM]|succ n=>let⟨j,k,g,c,a,d,e,f,m,p⟩:=h;refine⟨[],c,⟨?_,.inr ⟨oM,oM,rfl,Av.links a f o,m,e⟩⟩,rfl,a⟩;rw[d,e,DL _<|Cj _ [] c oM oM sO sM f]
def Dj.rn{N:Nat}{l}{w}{q n:Nat}{ps}{hs}{t}(h:Dj w q n ps hs)(d:Fw N l n ps hs t):RN (Av N l) n w q t:=by let⟨m,k,c,e,f,g,j⟩:=h;cases n with|zero=>obtain⟨rfl,_⟩:=d;rw[g rfl]at c;exact⟨m,c,e⟩|succ n=>rw[j oM]at c;exact⟨k,c,hs,f,d.2.1,λi a b=>(d.2.2 i a b).mono (λ_ h=>h.elim) λ_ _ h=>h⟩
variable {κ:Kd}
def qF2{V A N C d:Nat}{l}{ws}{wr:Int}(n:Nat)(h r)(L)(a:Int){w}(z:Dk κ V A N C d l ws wr w)(S:RL (Av N (laidAll l ws)) n w h L)(G:h.p=none)(ha:(n:Int)<a):Ω 150 #[υ V r,AY h,ϊ a] w λe w'=>((Io κ e/\Dk κ.up V A N C d l ws wr w')\/∃q,e=ϱ (ϖ q)/\RN (Av N (laidAll l ws)) n w' q L.sub/\Dk κ V A N C d l ws wr w')/\Kp [A] w w'/\A5 w' A=A5 w A:=by (have M:∃b s,h.b=(b:Nat)/\h.s=s/\Av N (laidAll l ws) n b s L.sub:=by have c:=S.2;cases hl:L.ref with|none=>rw[hl]at c;let⟨_,_,q',B,_⟩:=c;rw[G]at B;cases B|some x=>rw[hl]at c;exact⟨x.1,x.2,c.1,c.2.1,c.2.2.2⟩);let⟨b,s,P,Z,y⟩:=M;have:=y.at.2.2.2.2;(have I:Hid (∀W,Kp [] w W->Ω 217 #[ϖ V,.agg #[ϊ b,.int .u64 s]] W λe w'=>((Io κ e/\Dk κ.up V A N C d l ws wr w')\/∃q k j,e=ϱ (.tuple #[ϖ q,.bool true])/\Ϙ w' q (Aq (n:Int) k j)/\RN (Av N<|laidAll l ws) n w' q L.sub/\Dk κ V A N C d l ws wr w')/\Kp [A] W w'/\A5 w' A=A5 W A):=by intro W hK;let⟨ps,T,r1,r2⟩:=y.raw z.N1;refine(Qi (z.qK5 hK) b s y.at.2.1 (some (n,ps,T)) (λn' ab X e=>by cases e;exact r1) λe=>by cases e).mono ?_;rintro e w' ⟨hx|⟨⟨u,_⟩|⟨n',ab,X,a,u,rfl,c⟩,K⟩,E⟩;exact⟨.inl hx,E⟩;cases u;cases u;let⟨k,j,g,_⟩:=id c;exact⟨.inr ⟨a,k,j,rfl,g,c.rn r2,K⟩,E⟩);(have R:h.ptr=none:=by simp[HL.ptr,G]);rw[υ,AY,R,P,Z];have D:=z.sA;go_enter func150,ntmps150;go_wp2_with fail;obtain⟨m,aa,f⟩:∃m,m=(w.alloc<|ϲ (ϟ V r) 89).alloc (ϲ #[ϕ h.key,ϊ (b:Int),.int .u64 s,ϗ none] 87)/\Kp [] w m:=⟨_,rfl,(kF.alloc _).alloc _⟩;rw[<-aa];refine(I m f).mono ?_;rintro e o ⟨(⟨⟨Q,p,rfl⟩,v⟩|⟨q,k,j,rfl,H,O,v⟩),F,i⟩;(.rw[DN<|f.block A D sM]at i;go_wp2;exact⟨rfl,.inl ⟨⟨Q,p,rfl⟩,v⟩,(f.mono sM).tr F,i⟩);rw[DN<|f.block A D sM]at i;have:=U H;have:=ϻ H 0;have:¬a<=(n:Int):=oM;have t:Hid (RN (Av N<|laidAll l ws) n o q L.sub/\Dk κ V A N C d l ws wr o/\Kp [A] w o/\A5 o A=A5 w A):=⟨O,v,(f.mono sM).tr F,i⟩;go_wp2;go_ret;exact⟨.inr ⟨q,rfl,t.1,t.2.1⟩,t.2.2⟩
def Dw(κ:Kd)(V A N C:Nat)(l:ϣ)(ws:ϥ)(wr:Int)(q:Ϥ)(w:Ϣ):Prop:=∃a,Dk κ V A N C a l ws wr w/\A5 w A=q
abbrev Dq(κ:Kd)(V A N C:Nat)(l:List UInt8)(wr:Int)(w:World):Prop:=Dw κ V A N C l [] wr [] w
section
variable {V A N C:Nat} {l:ϣ} {ws:ϥ} {wr:Int} {q:Ϥ} {w w':Ϣ}
def Dw.hV(h:Dw κ V A N C l ws wr q w):w.heap[V]?=some (DK A N):=h.elim λ_ h=>h.1.hV
def Dw.hC(h:Dw κ V A N C l ws wr q w):w.heap[C]?=some (ϲ (enc l) 115):=h.elim λ_ h=>h.1.hC
def Dw.hA(h:Dw κ V A N C l ws wr q w):∃v c,w.heap[A]?=some (Bi κ N C v c wr):=h.elim λ_ h=>h.1.hA.elim λv h=>⟨v,h.elim λc h=>⟨c,h.1⟩⟩
def Dw.sA(h:Dw κ V A N C l ws wr q w):A<w.heap.size:=h.elim λ_ h=>h.1.sA
def Dw.qK4{S}(h:Dw κ V A N C l ws wr q w)(hK:Kp S w w')(a:AH w S):Dw κ V A N C l ws wr q w':=by let⟨b,h,f⟩:=h;let⟨v,c,d,_⟩:=h.hA;exact⟨b,h.qK4 hK a,(DN<|hK.block A h.sA λe=>a _ e _ _ _ d dC).trans f⟩
def Dw.qK5(h:Dw κ V A N C l ws wr q w)(hK:Kp [] w w'):Dw κ V A N C l ws wr q w':=h.qK4 hK (by intro k a;cases a)
end
section
variable {V A N C:Nat} {l:ϣ} {wr:Int} {w:Ϣ}
def Dk.qW4{a:Nat}(h:Dk κ V A N C a l [] wr w):A5 w A=[]:=by let⟨v,c,b,_,d⟩:=h.hA;rw[F8 b,d rfl];rfl
def Dk.q{a:Nat}(h:Dk κ V A N C a l [] wr w):Dw κ V A N C l [] wr [] w:=⟨_,h,h.qW4⟩
end
def EW(κ:Kd)(V A N C:Nat)(l:List UInt8)(ws:List (Nat×List UInt8))(wr:Int)(q:List Nat):AI where
 O:=Av N (laidAll l ws)
 V:=V
 S:=[A]
 Dev:=Dw κ V A N C l ws wr q
 qK4:=fun w w' L hd hK hL=>hd.qK4 hK fun k hk c t fr e=>by
  obtain⟨c',t',fr',e',h'⟩:=hL k hk;rw[e]at e';cases e';exact(by decide:∀t∈JN,t∉H6) _ h'
 apt:=fun w hd k hk c t fr e=>by
  obtain⟨_,hd,_⟩:=hd;obtain⟨v,cl,hA,_⟩:=hd.hA;rw[List.mem_singleton.1 hk,hA]at e;cases e;decide
 low:=fun w hd k hk=>by
  obtain⟨_,hd,_⟩:=hd;rw[List.mem_singleton.1 hk];exact hd.sA
 pos:=fun n b s t h=>by have:=h.at;omega
 lvl:=fun n b s t h=>h.at.2.2.2.2
 qO2:=Dw κ.up V A N C l ws wr q
 read:=fun n h r L a w hd hr hp ha=>by
  obtain⟨b,hd,hq⟩:=hd;refine(qF2 n h r L a hd hr hp ha).mono ?_;rintro e w' ⟨⟨h1,h2⟩|⟨q,h1,h2,h3⟩,hK,hc⟩
  ·exact .inl ⟨h1.2,⟨b,h2,hc.trans hq⟩,hK⟩
  ·exact .inr ⟨q,h1,h2,⟨b,h3,hc.trans hq⟩,hK⟩
 qL3:=fun w w' L hd hK hL=>hd.qK4 hK hL
 qN7:=fun w w' L hd hK hL=>hd.qK4 hK hL
 qT3:=fun w hd k hk=>by
  obtain⟨_,hd,_⟩:=hd;obtain⟨v,cl,hA,_⟩:=hd.hA;rw[List.mem_singleton.1 hk];exact⟨_,_,_,hA,by decide⟩
abbrev EF(κ:Kd)(V A N C:Nat)(l:List UInt8)(wr:Int):AI:=EW κ V A N C l [] wr []
section
variable {V A N C:Nat} {l:ϣ} {ws:ϥ} {wr:Int} {q:Ϥ} {w w':Ϣ}
def X7(d:Dw κ V A N C l ws wr q w)(i:Nat)(g:i<N):(EW κ V A N C l ws wr q).toEnv.C 247 #[ϖ V,ϊ i] w λe w'=>e=ϱ (.agg (enc (ρ (laidAll l ws) i)))/\(EW κ V A N C l ws wr q).toEnv.To w w':=by let⟨b,d,hq⟩:=d;refine(PU d i g).mono ?_;rintro e w' ⟨⟨a,c⟩|⟨a,c⟩,hK,f⟩;exact .inl ⟨a.2,⟨b,c,f.trans hq⟩,hK⟩;exact .inr ⟨a,⟨b,c,f.trans hq⟩,hK⟩
end
variable {κ:Kd}
def Nb(κ:Kd)(V A n C a:Nat)(l:ϣ)(b:ϥ)(wr:Int)(i:Nat)(c:ϣ)(e:Ending)(w:Ϣ):Prop:=
 Io κ e/\(Dk κ.up V A n C a l b wr w\/Dk κ.up V A n C a l (b++[(i,c)]) (nx wr) w)
def Lp{V A n C r:Nat}{l}{ws}{wr:Int}{w}(q:Dk κ V A n C r l ws wr w)(ax:ws.length<100000)(i:Nat)(N a b:Int)(hi:i<n)(hN:N % 2=i)(ah:0<=N)(aq:0<=a)(a1:a<=1000)(aw:0<=b):Ω 142 #[ϖ V,.agg #[.int .u64 N,ϊ a,.int .u64 b]] w λe B=>(Nb κ V A n C r l ws wr i (Ak N a b) e B\/(e=ϱ (.tuple #[])/\Dk κ V A n C r (laidAll l (ws++[(i,Ak N a b)])) [] (nx wr) B))/\Kp (A::C::A5 w A) w B/\(∀k∈A5 B A,k∈A5 w A\/w.heap.size<=k):=by have a0:=U q.hV;have hA:=q.sA;have az:=U q.hC;have HD:=ξ q;clear q;have E:Hid (∀W,Kp [] w W->A5 W A=A5 w A):=λW hK=>DN<|hK.block A hA sM;go_enter func142,ntmps142;go_wp2_with fail;rw[qJ7];obtain⟨d,aj,ae,H,aa,a4⟩:∃d,d=(w.alloc<|ϲ #[.int .u64 N,ϊ a,.int .u64 b] 166).alloc (ϲ (enc FU) 288)/\Kp [] w d/\Ϙ d w.heap.size (ϲ #[.int .u64 N,ϊ a,.int .u64 b] 166)/\d.heap[w.heap.size+1]?=some (ϲ (enc FU) 288)/\d.heap.size=w.heap.size+2:=⟨_,rfl,(kF.alloc _).alloc _,ψ _<|φ _ _,sU<|φ (w.alloc<|ϲ #[.int .u64 N,ϊ a,.int .u64 b] 166)<|ϲ (enc FU) 288,sM⟩;rw[<-aj];clear aj;apply cZ kR;change wpAny _ _ _ _ _ _ _<|World.drew _;apply zn 0;refine zQ 1 λK hK=>?_;refine BF rfl (Ga (t:=166) rfl kR 3 kR w.heap.size rfl (show d.drew.heap[w.heap.size]?=_ from H) rfl) ?_;apply hK _ _;simp[zZ];refine zQ 2 λK hK=>?_;go_simp;apply(QY N a b _ ah aq oM aw).mono;rintro e w2 ⟨v2,rfl,ai,F⟩;obtain⟨g2,ap,ay,rfl,am,au,Q⟩:=Qv ai;have s:=Kp.qL4 F lR;have ac:=s.heap (k:=w.heap.size) H sM;have G:=s.heap (k:=w.heap.size+1) aa sM;have af:=(ae.drew).tr s;(have a2:w.heap.size+2<=w2.heap.size:=by have:=F.size;simp at this;omega);clear F s H aa ae ai;apply hK _ _;(try simp[zZ]);refine zQ 3 λK hK=>?_;apply BF rfl (OD rfl underlying118 Tryz.qO8 (w.heap.size+1) 0 128 128 g2 0 32 ap 32 rfl rfl dC G am (by rw[CF];decide) oM (by rw[Q];exact(Ds _).one));rw[Q,Lz];(have al:FU.take 0++ι (B0 N a b)++FU.drop (0+(ι<|B0 N a b).length)=Ak N a b:=by rw[EL,Mu];simp[Ak,FU]);rw[al];obtain⟨j,ak,ag,g,f⟩:∃j,j=w2.setRow (w.heap.size+1) (enc<|Ak N a b)/\Kp [] w j/\Ϙ j w.heap.size (ϲ #[.int .u64 N,ϊ a,.int .u64 b] 166)/\j.heap[w.heap.size+1]?=some (ϲ (enc<|Ak N a b) 288):=⟨_,rfl,af.setRow (Or.inr oM) _,(aU _ _ _ _ oM).trans ac,cB _ _ _ _ _ _ G⟩;rw[<-ak];clear ak ac G af am au Q al;apply hK _ _;refine eI kR ?_ _;simp[zZ];go_wp2_with fail;have av:=Cq N a b;refine aB (S:=λW=>Ϙ W w.heap.size (ϲ #[.int .u64 N,ϊ a,.int .u64 b] 166)/\W.heap[w.heap.size+1]?=some (ϲ (enc<|Ak N a b) 288)) kR ⟨g,f⟩ λ_=>?_;apply zV 0 _ rfl (λW z=>rfl) ⟨g,f⟩;refine zV 1 _ rfl (λW z=>Ga (t:=166) rfl kR 3 kR w.heap.size rfl z.1 rfl) ⟨g,f⟩ ?_;refine zV 3 (.agg<|enc<|Ak N a b) rfl (λW z=>Ga (t:=288) rfl kR 128 kR (w.heap.size+1) rfl z.2 (by rw[CF,Cq])) ⟨g,f⟩ ?_;refine zq 2 λK hK=>?_;go_simp;apply mR<|Mj N a b _ ah;rintro D Z;rw[hN];have u:=Kp.qL4 Z lR;have I:=u.heap (k:=w.heap.size) g sM;have y:=u.heap (k:=w.heap.size+1) f sM;have c:=(ag.drew).tr u;clear Z u g f ag;refine hK.out _ _ ⟨I,y⟩ λ_=>?_;(try simp[zZ]);refine zq 4 λK hK=>?_;go_simp;apply(QS (HD.qK5 c) i hi (Ak N a b) av ax).mono;rintro e w5 ⟨(⟨⟨P,p,rfl⟩,v⟩|⟨rfl,v⟩),M,m,o⟩;(.clear hK;rw[E.out D c]at m;go_wp2;rw[E.out D c]at o;exact⟨rfl,.inl ⟨⟨P,p,rfl⟩,.inl v⟩,(c.mono sM).trans m sC,λk O=>(o k O).imp_right λh=>by have:=c.size;omega⟩);rw[E.out D c]at m o;(have an:Hid (∀k∈A5 w5 A,k∈A5 w A\/w.heap.size<=k):=λk O=>(o k O).imp_right λh=>by have:=c.size;omega);clear o;(have a3:w.heap.size+2<=D.heap.size:=by have:=U y;omega);have ad:=M.oth _ _ _ _ I dC oM;have ab:=M.oth _ _ _ _ y dC oM;have ao:=ξ v;have X:=zh<|(c.mono sM).trans m λ_ h _=>h;refine hK.out _ _ ⟨ad,ab⟩ λ_=>?_;refine zd ?_;(try simp[zZ]);clear v M I y ad ab m;go_wp2_with fail;apply(Mx ao).mono;rintro e R (⟨⟨P,p,rfl⟩,x,L,ar⟩|⟨rfl,x,L⟩);(.go_wp2;exact⟨rfl,.inl ⟨⟨P,p,rfl⟩,.inr x⟩,(X.mono sC).trans L sC,by rw[ar];exact an⟩);have T:=ξ<|show Dk κ V A n C r (laidAll l<|ws++[(i,Ak N a b)]) [] (nx wr) R/\Kp (A::C::A5 w A) w R/\(∀k∈A5 R A,k∈A5 w A\/w.heap.size<=k) from⟨x,(X.mono sC).trans L sC,by rw[x.qW4];simp⟩;go_wp2;go_end0;exact⟨.inr ⟨rfl,T.1⟩,T.2⟩
def PF{St A n C G:Nat}{s}{l}{wr:Int}{w}(z:w.heap[St]?=some (ν 1 s))(r:Dk κ s.V A n C G l [] wr w)(a b:Int)(ap:2<=n)(ag:0<=a)(ah:a<=1000)(ak:0<=b)(i:Nat)(hi:τ s.N % 2=i):Ω 114 #[ϖ St,.agg #[ϊ a,.int .u64 b]] w λe F=>(Nb κ s.V A n C G l [] wr i (Ak (τ s.N) a b) e F/\F.heap[St]?=some (ν 1 s)\/(e=ϱ (.tuple #[])/\F.heap[St]?=some (ν 1 (s.led a b))/\Dk κ s.V A n C G (AO l i (Ak (τ s.N) a b)) [] (nx wr) F))/\Kp [St,A,C] w F:=by have:=U z;go_enter func114,ntmps114;go_wp2_with fail;rename_i N ac;let⟨u,aa,af,P,al⟩:=BH w<|ϲ #[ϊ a,.int .u64 b] 84;rw[<-aa];clear aa;have o:Ϙ u.drew St (ν 1 s)/\Ϙ u.drew w.heap.size (ϲ #[ϊ a,.int .u64 b] 84):=⟨P.hp z,af⟩;refine Ka (α:=Nat->Act) (R:=λA0=>∀H W,Ϙ W H (ϲ #[.int .u64<|τ s.N,ϊ a,.int .u64 b] 166)->Kp [] w W->w.heap.size<=H->N (A0 H) W) ?_;apply Exists.intro;apply And.intro;rotate_left;(.intro HREST;refine aB (S:=λW=>Ϙ W St (ν 1 s)/\Ϙ W w.heap.size (ϲ #[ϊ a,.int .u64 b] 84)) kR o λ_=>?_;apply zN 0 o;refine zV 1 _ rfl (λW d=>by have c:=U d.1;clear d;go_simp;rfl) o ?_;apply zN 2 o;refine zV 3 _ rfl (λW d=>by have:=ϻ d.1 3;have:=ϻ d.1 4;have:=ϻ d.1 5;clear d;go_simp;rfl) o ?_;apply zV 4 _ rfl (λW d=>by have:=Y d.2;clear d;go_simp;rfl) o;refine zr 5 6 (λK hK=>?_) λK hK=>?_;(.skip;go_simp;refine mR (JT s.N s.rb s.rs a b u.drew) ?_;rintro y O;have q:=Kp.qL4 O lR;have h:=n2 (q.hp o.1)<|q.hp o.2;refine hK.out _ _ h λ_=>?_;(try simp[zZ]);refine zq 6 λK hK=>?_;go_simp;let⟨g,E,x,j,an⟩:=BH y<|ϲ #[.int .u64 0,ϊ 0,.int .u64 0] 166;let⟨B,I⟩:=eX y.heap.size;rw[<-E,<-I];rw[<-I]at x;have am:=q.size;(have:w.heap.size<B:=by rw[I];have:u.heap.size<=y.heap.size:=am;omega);clear E I;have f:=n2 (j.hp h.1)<|j.hp h.2;refine zk hK f ?_;refine zq 7 λK hK=>?_;have:=Y x;have:=ω x;have:=U x;have M:=zh x;go_simp;have m:Kp [B] g (((g.setCell (ϰ B 0)<|.int .u64<|τ s.N).setCell (ϰ B 1)<|ϊ a).setCell (ϰ B 2)<|.int .u64 b):=((kF.sc _).sc _).sc _;have D:=η (η (η M 0<|.int .u64<|τ s.N) 1<|ϊ a) 2<|.int .u64 b;generalize ((g.setCell (ϰ B 0)<|.int .u64<|τ s.N).setCell (ϰ B 1)<|ϊ a).setCell (ϰ B 2) (.int .u64 b)=w5 at m D |-;refine hK.out _ _ ⟨m.heap f.1 (by simp<;>omega),m.heap f.2 (by simp<;>omega)⟩ λ_=>?_;refine zd ?_;(try simp[zZ]);show N _ w5;exact HREST B w5 D ((((P.drew).tr q).tr j).trans m (by simp<;>omega)) oM);go_simp;obtain⟨g,E,x,j,an⟩:∃g,g=(u.alloc<|ϲ #[.int .u64 0,ϊ 0,.int .u64 0] 166).drew/\g.heap[w.heap.size+1]?=some (ϲ #[.int .u64 0,ϊ 0,.int .u64 0] 166)/\Kp [] u g/\g.heap.size=u.heap.size+1:=⟨_,rfl,by rw[<-al];exact φ u _,(kF.alloc _).drew,sM⟩;rw[<-E];clear E;have f:=n2 (j.hp o.1)<|j.hp o.2;refine zk hK f ?_;refine zq 5 λK hK=>?_;go_simp;apply mR<|JT s.N s.rb s.rs a b g;rintro y O;have q:=Kp.qL4 O lR;have h:=n2 (q.hp f.1)<|q.hp f.2;refine hK.out _ _ h λ_=>?_;(try simp[zZ]);have L:=q.hp x;refine zq 7 λK hK=>?_;have:=Y L;have:=ω L;have:=U L;have M:=zh L;go_simp;have m:Kp [(w.heap.size+1)] y (((y.setCell ⟨(w.heap.size+1),0,none⟩<|.int .u64<|τ s.N).setCell ⟨(w.heap.size+1),1,none⟩<|ϊ a).setCell ⟨(w.heap.size+1),2,none⟩<|.int .u64 b):=((kF.sc _).sc _).sc _;have D:=η (η (η M 0<|.int .u64<|τ s.N) 1<|ϊ a) 2<|.int .u64 b;generalize ((y.setCell ⟨(w.heap.size+1),0,none⟩<|.int .u64<|τ s.N).setCell ⟨(w.heap.size+1),1,none⟩<|ϊ a).setCell ⟨(w.heap.size+1),2,none⟩ (.int .u64 b)=w5 at m D |-;refine hK.out _ _ ⟨m.heap h.1 (by simp<;>omega),m.heap h.2 (by simp<;>omega)⟩ λ_=>?_;refine zd ?_;(try simp[zZ]);show N _ w5;exact HREST (w.heap.size+1) w5 D (((P.tr j).tr q).tr m) oM);intro H W V X ao;apply ac _ _;go_wp2_with fail;have:=U V;have:=U r.hV;have:=U r.hC;have h:Ϙ W.drew St (ν 1 s)/\Ϙ W.drew H (ϲ #[.int .u64<|τ s.N,ϊ a,.int .u64 b] 166):=⟨X.hp z,V⟩;have:=r.sA;(have ad:St≠A:=by let⟨v,c,h1,_⟩:=r.hA;exact D6 z h1 dC);have ae:=D6 z r.hC dC;have:=D6 z r.hV dC;refine aB (S:=λW=>Ϙ W St (ν 1 s)/\Ϙ W H (ϲ #[.int .u64<|τ s.N,ϊ a,.int .u64 b] 166)) kR h λ_=>?_;apply zN 0 h;refine zV 1 _ rfl (λW d=>by have c:=U d.1;clear d;go_simp;rfl) h ?_;apply zN 2 h;apply zV 3 _ rfl (λW d=>by have:=ϻ d.1 2;clear d;go_simp;rfl) h;refine zV 4 _ rfl (λW d=>by have:=Y d.2;clear d;go_simp;rfl) h ?_;refine zq 5 λK hK=>?_;go_simp;have Q:=X.drew;apply(Lp (r.qK5 Q) sM i (τ s.N) a b (oW hi) hi (Dh _).1 ag ah ak).mono;rintro e g ⟨aj,j,_⟩;rw[(r.qK5 Q).qW4]at j;have f:=n2 (j.heap h.1 (by simp[ad,ae]))<|j.heap h.2 (by simp<;>omega);have Z:Kp [A,C] w g:=(Q.mono sM).tr j;rcases aj with⟨⟨ai,p,rfl⟩,hx⟩|⟨rfl,ab⟩;(.clear hK;go_wp2;exact⟨rfl,.inl ⟨⟨⟨ai,p,rfl⟩,hx⟩,f.1⟩,Z.mono sC⟩);refine hK.out _ _ f λ_=>?_;refine zd ?_;(try simp[zZ]);have:=U f.1;have:=U f.2;have:=ϻ f.1 3;have:=ϻ f.1 4;have:=ϻ f.1 5;have:=ω f.1;have:=Y f.2;have:H≠St:=oM;have HE:Hid (Ϙ g St (ν 1 s)/\Dk κ s.V A n C G (AO l i<|Ak (τ s.N) a b) [] (nx wr) g/\Kp [A,C] w g):=⟨f.1,ab,Z⟩;go_wp2;go_end0;let⟨T,e2,e5⟩:=HE.out;have m:Kp [St] g (((g.setCell (ϰ St 3)<|.int .u64<|τ s.N).setCell (ϰ St 4)<|ϊ a).setCell (ϰ St 5)<|.int .u64 b):=((kF.sc _).sc _).sc _;exact⟨.inr ⟨rfl,η (η (η T 3 _) 4 _) 5 _,e2.qK4 m (λk hk c t fr e=>by rw[mS hk,T]at e;cases e;decide)⟩,(e5.mono sC).tr m⟩
variable {κ:Kd}
def BQ(p:Option Addr)(κ:Kd)(n:Nat)(cache:Value)(calls writes:Int):Obj:=
 .cells #[.slice p n κ.cap,cache,.int .i64 calls,.int .i64 writes,.int .i64 κ.told,.int .i64 κ.off,.int .i64 κ.fr,.int .i64 κ.to] 114
structure Dn(κ:Kd)(A N C:Nat)(l:ϣ)(ws:ϥ)(wr:Int)(q:Ϥ)(w:Ϣ):Prop where
 hA:∃a p v calls,a<=w.heap.size/\w.heap[A]?=some (BQ p κ N v calls wr)/\(1<=N->p=some (ϰ C 0))/\w.ownsRow a 117 129 v ws.length (ws.flatMap B5)/\(ws=[]->v=.slice none 0 0)
 hC:w.heap[C]?=some (ϲ (enc l) 115)
 gl:Gl w
 fit:∀x∈ws,x.1<N/\x.2.length=128
 wl:ws.length<=100000
 len:N*128<=l.length
 N1:N<=1000
 cq:A5 w A=q
section
variable {V A N C:Nat} {l:ϣ} {ws:ϥ} {wr:Int} {q:Ϥ} {w w':Ϣ}
def Dk.qL8{a:Nat}(h:Dk κ V A N C a l ws wr w):∀k∈A5 w A,a<=k:=λk hk=>by
 let⟨v,c,b,d,_⟩:=h.hA;rw[F8 b]at hk;exact(World.ownsRow.lt d k (sU hk)).1
def Dn.k(h:Dn κ A N C l ws wr q w)(i:1<=N)(j:w.heap[V]?=some (DK A N)):Dw κ V A N C l ws wr q w:=by let⟨b,p,v,c,d,a,e,f,g⟩:=h.hA;rw[e i]at a;exact⟨b,⟨j,⟨v,c,a,f,g⟩,h.hC,h.gl,d,h.fit,h.wl,h.len,h.N1⟩,h.cq⟩
def Dw.n(h:Dw κ V A N C l ws wr q w):Dn κ A N C l ws wr q w:=by let⟨b,h,f⟩:=h;let⟨v,c,a,d,e⟩:=h.hA;exact⟨⟨b,_,v,c,h.low,a,λ_=>rfl,d,e⟩,h.hC,h.gl,h.fit,h.wl,h.len,h.N1,f⟩
def Dn.at(h:Dn κ A N C l ws wr q w):∃p v c,w.heap[A]?=some (BQ p κ N v c wr):=by let⟨b,p,v,c,h1,h2,_⟩:=h.hA;exact⟨p,v,c,h2⟩
def Dn.sA(h:Dn κ A N C l ws wr q w):A<w.heap.size:=by let⟨p,v,c,a⟩:=h.at;exact U a
def Dn.AC(h:Dn κ A N C l ws wr q w):C≠A:=by let⟨p,v,c,a⟩:=h.at;exact D6 h.hC a dC
def FD{p}{v}{calls:Int}(h:w.heap[A]?=some (BQ p κ N v calls wr)):A5 w A=v.ownBlock.toList:=by simp[A5,h,BQ]
def Dn.qW1(h:Dn κ A N C l ws wr q w):∀k∈q,k<w.heap.size:=λk hk=>by
 let⟨b,p,v,c,e,a,f,d,g⟩:=h.hA;rw[<-h.cq,FD a]at hk;exact(World.ownsRow.lt d k (sU hk)).2
def Dn.off{L}(h:Dn κ A N C l ws wr q w)(hK:Kp L w w')(d:A∉L)(s:C∉L)(f:∀k∈q,k∉L)(u:∀k∈L,∀c t fr,w.heap[k]?=some (ϲ c t fr)->t∉Fo):Dn κ A N C l ws wr q w':=by let⟨b,p,v,c,h1,h2,h3,h4,h5⟩:=h.hA;have e:=h.cq;rw[FD h2]at e;rw[<-e]at f;refine⟨⟨b,p,v,c,Nat.le_trans h1 hK.size,hK.heap h2 d,h3,⟨h4.1,?_⟩,h5⟩,hK.heap h.hC s,h.gl.qK4 hK u,h.fit,h.wl,h.len,h.N1,(DN<|hK.block A h.sA d).trans h.cq⟩;rcases h4.2 with g|⟨g,i,j,a,m,o,r⟩;exact .inl g;exact .inr ⟨g,i,j,a,m,hK.heap o<|f g (by rw[a];simp[Value.ownBlock]),r⟩
def Dn.qK4{L}(h:Dn κ A N C l ws wr q w)(hK:Kp L w w')(d:AH w L):Dn κ A N C l ws wr q w':=by let⟨b,p,v,c,g,f,i,j,m⟩:=h.hA;exact⟨⟨b,p,v,c,lT g hK.size,hK.heap f λa=>d _ a _ _ _ f dC,i,C3 j hK λq hq c t fr e a=>d q hq c t fr e (by rw[mS a];decide),m⟩,hK.heap h.hC λa=>d _ a _ _ _ h.hC dC,h.gl.qK4 hK (λk hk c t fr e a=>d k hk c t fr e (by simp[Fo]at a;rcases a with rfl | rfl<;>decide)),h.fit,h.wl,h.len,h.N1,(DN<|hK.block A h.sA λa=>d _ a _ _ _ f dC).trans h.cq⟩
def Dn.qK5(h:Dn κ A N C l ws wr q w)(hK:Kp [] w w'):Dn κ A N C l ws wr q w':=h.qK4 hK (by intro k a;cases a)
def Dn.new{p}{calls:Int}(h:w.heap[A]?=some (BQ p κ N (.slice none 0 0) calls wr))(d:1<=N->p=some (ϰ C 0))(a:w.heap[C]?=some (ϲ (enc l) 115))(c:Gl w)(e:N*128<=l.length)(b:N<=1000):Dn κ A N C l [] wr [] w:=
 ⟨⟨0,p,_,calls,zL _,h,d,wN _ _ _ _,λ_=>rfl⟩,a,c,sM,sM,e,b,FD h⟩
def Dn.qS5{κ'}{p}{v}{calls:Int}(h:Dn κ A N C l ws wr q w)(hK:Kp [A] w w')(d:w.heap[A]?=some (BQ p κ N v calls wr))(f:w'.heap[A]?=some (BQ p κ' N v calls wr)):Dn κ' A N C l ws wr q w':=by let⟨b,x,y,c,i,a,j,m,o⟩:=h.hA;have e:=d.symm.trans a;simp[BQ]at e;obtain⟨rfl,rfl,rfl⟩:=e;exact⟨⟨b,_,_,_,lT i hK.size,f,j,C3 m hK (λq u c t g e=>by rw[mS u,a]at e;cases e;decide),o⟩,hK.heap h.hC (sU h.AC),h.gl.qK4 hK (λk r c t g e s=>by rw[mS r,a]at e;cases e;revert s;decide),h.fit,h.wl,h.len,h.N1,by rw[FD f,<-FD d];exact h.cq⟩
end
section
variable {n:Nat} {p:Ϭ} {cache:Value} {calls writes:Int}
def qF3(A:Nat)(w)(h:w.heap[A]?=some (BQ p κ n cache calls writes)):Ω 126 #[ϖ A] w λe w'=>e=ϱ (ϊ κ.told)/\w'=w:=by have a:=Y h 4;simp at a;go_enter func126,ntmps126;go_wp2;go_ret;exact⟨rfl,rfl⟩
def qJ4(A:Nat)(w)(h:w.heap[A]?=some (BQ p κ n cache calls writes)):Ω 35 #[ϖ A] w λe w'=>e=ϱ (ϊ writes)/\w'=w:=by have a:=Y h 3;simp at a;go_enter func35,ntmps35;go_wp2;go_ret;exact⟨rfl,rfl⟩
def T8(A:Nat)(w)(h:w.heap[A]?=some (BQ p κ n cache calls writes)):Ω 325 #[ϖ A] w λe w'=>e=ϱ (ϊ n)/\w'=w:=by have a:=Y h 0;simp at a;go_enter func325,ntmps325;go_wp2;go_ret;exact⟨rfl,rfl⟩
def qH2(A:Nat)(w)(h:w.heap[A]?=some (BQ p κ n cache calls writes)):Ω 204 #[.iface 27 (ϖ A)] w λe w'=>e=ϱ (ϊ n)/\Kp [] w w':=by have:=zM;have:=U h;go_enter_defers func204,ntmps204;go_wp2_with fail;refine mR (T8 A _<|ψ _ h) ?_;rintro c rfl;go_wp2;apply leaves_cons (f:=246) (args:=#[ϖ<|ϳ w]) sM (by simp[go_sem]);apply(U6 ⟨ϳ w,0,none⟩ _).mono;rintro e a b ⟨rfl,rfl,rfl⟩;simp[Leaves,settle,results,results204,go_sem];exact kF.alloc _
def Qp(A:Nat)(w)(h:w.heap[A]?=some (BQ p κ n cache calls writes)):Ω 139 #[.iface 27 (ϖ A)] w λe w'=>((¬(8<=n/\n<=400)/\e=AK (some 10))\/((8<=n/\n<=400)/\∃V,e=ϱ (ϖ V)/\w.heap.size<=V/\w'.heap[V]?=some (DK A n)))/\Kp [] w w':=by have:∀{x:Prop},(8<=n/\n<=400)=x->Hid ((8<=n/\n<=400)=x):=λh=>h;go_enter func139,ntmps139;go_wp2_with fail;refine mR (qH2 A _ h) ?_;rintro f c;by_cases b:8<=n/\n<=400;(.have:decide ((n:Int)<8)=false:=sO;have:decide ((400:Int)<(n:Int))=false:=sO;have a:=ξ b;go_wp2;go_ret;exact⟨.inr ⟨a,_,rfl,c.size,φ _ _⟩,c.alloc _⟩);have a:=ξ b;by_cases d:n<8;(.have:decide ((n:Int)<8)=true:=sO;clear b;go_wp2;exact⟨rfl,rfl,.inl ⟨a,rfl⟩,c⟩);have:decide ((n:Int)<8)=false:=sO;have:decide ((400:Int)<(n:Int))=true:=sO;clear b;go_wp2;exact⟨rfl,rfl,.inl ⟨a,rfl⟩,c⟩
end
def YU{A N C:Nat}{l}{ws}{wr:Int}{q}{w}(h:Dn κ A N C l ws wr q w)(n:Int):Ω 185 #[ϖ A,ϊ n] w λe w'=>e=ϱ (.tuple #[])/\Kp [A] w w'/\∃κ',κ'.told=κ.told/\Dn κ' A N C l ws wr q w':=by let⟨p,v,calls,a⟩:=h.at;have b:=Y a 2;have c:=Y a 5;simp at b c;have:=ω a 5;go_enter func185,ntmps185;go_wp2;go_end0;let⟨h,a⟩:=(ξ<|And.intro h a).out;have hK:Kp [A] w (w.setCell (ϰ A 5)<|ϊ<|wrap64<|calls+n):=kF.sc _;exact⟨rfl,hK,⟨κ.cap,κ.told,wrap64<|calls+n,κ.fr,κ.to⟩,rfl,h.qS5 hK a<|η a 5 _⟩
def TO{A N C:Nat}{l}{ws}{wr:Int}{q}{w}(h:Dn κ A N C l ws wr q w)(n k:Int):Ω 186 #[ϖ A,ϊ n,ϊ k] w λe w'=>e=ϱ (.tuple #[])/\Kp [A] w w'/\∃κ',κ'.told=κ.told/\Dn κ' A N C l ws wr q w':=by let⟨p,v,calls,a⟩:=h.at;have:=ϻ a 2;have c:=ϻ a 6;have d:=ϻ a 7;have:=ω a;go_enter func186,ntmps186;go_wp2_with fail;go_region;all_goals go_end0;let⟨h,a⟩:=(ξ<|And.intro h a).out;have hK:Kp [A] w ((w.setCell (ϰ A 6)<|ϊ<|wrap64<|calls+n).setCell (ϰ A 7)<|ϊ<|wrap64<|wrap64 (calls+n)+k).drew:=((kF.sc _).sc _).drew;have b:((w.setCell (ϰ A 6)<|ϊ<|wrap64<|calls+n).setCell (ϰ A 7)<|ϊ<|wrap64<|wrap64 (calls+n)+k).heap[A]?=some (BQ p ⟨κ.cap,κ.told,κ.off,wrap64<|calls+n,wrap64<|wrap64 (calls+n)+k⟩ N v calls wr):=η (η a 6 _) 7 _;exact⟨rfl,hK,⟨κ.cap,κ.told,κ.off,wrap64<|calls+n,wrap64<|wrap64 (calls+n)+k⟩,rfl,h.qS5 hK a b⟩
open Go.ChangeMaps
def Z2(E:AI)(hO:∀(n b:Nat)(s:Int)(t:Tn n),E.O n b s t->b<=1000000)(A N:Nat)(h:HL)(a:Ah)(v:Value)(g:List HL)(d:List Ah)(w:Ϣ)(hd:E.Dev w)(hv:Ai w 89 5 v g.length (Ea E.V g))(hl:g.length=d.length)(hr:∀i (m:i<g.length) (B:i<d.length),RR E.toEnv w g[i] d[i]/\(∀n l,d[i]=.at n l->l.key=⟨#[]⟩))(a7:RR E.toEnv w h a)(a0:∀n l,a=.at n l->l.key=⟨#[]⟩)(hc:Bg a+qK3 Bg d<1000000)(hn:g.length<=1000) (hV:∀W,E.Dev W->W.heap[E.V]?=some (DK A N)) (bj:2<=N) (hN:N<=1000) (a3:∀W,E.Dev W->RR E.toEnv W h a->Ω 76 #[υ E.V h] W λe r=>e=ϱ (ϊ (a.news:Int))/\Kp [] W r) (bn:a.news<=1000000):E.toEnv.C 112 #[υ E.V h,v] w λe r=>((∃vf,e=ϱ (.tuple #[vf,ϊ (((Ag [] a).length+a.news:Nat):Int)])/\a.news<=(AQ N (d.foldl Ag (Ag [] a))).length/\Ai r 3 1 vf (AQ N (d.foldl Ag (Ag [] a))).length (ints (AQ N (d.foldl Ag (Ag [] a)))))\/(e=AK (some 3)/\(AQ N (d.foldl Ag (Ag [] a))).length<a.news))/\E.Dev r/\Kp E.S w r:=by
 obtain⟨bs,cp,rfl⟩:=DU hv;let⟨ln,ag⟩:=eX g.length;have HV:=zh hv;rw[<-ag];have ba:=zh ag;have HR:=zh hr;have H:=zh hd;have HT:=zh (n2 a7 a0);have al:=zh a3;have am:Hid (∀W:World,Kp ((w.heap.size+1)::E.S) w W->Kp E.S w W):=λW h=>h.mono (λi f a2=>by rcases List.mem_cons.1 f with rfl | f;omega;exact f);clear hv ag hr hd a7 a0 a3;rw[υ];go_enter func112,ntmps112;have bm:=@run_makeMap prog;go_wp2_with fail;let⟨W,hW,ac,bi,ao,C,bp⟩:=Hu w (ϲ (ϟ E.V h) 89) (.map #[] 0) (ϲ (ϟ E.V h) 89);have R:BS W (w.heap.size+1) 0 []:=by
  have m:=(BS.made (w.alloc (ϲ (ϟ E.V h) 89))).kp ((Kp.refl [] _).alloc (ϲ (ϟ E.V h) 89)) sM;rw[<-hW]at m;simpa using m
 rw[<-hW];clear hW bm;have I:=(Env.To.of0 H C).dev;have ai:=RR.kp HT.1 C (χ.nil _ _);refine Env.qO7 (w:=w) (NM E hO (w.heap.size+1) 0 [] (.slice (some (ϰ (w.heap.size+1+1) 0)) 1 1) [h] [a] W I ⟨rfl,Or.inr ⟨w.heap.size+1+1,0,1,_,_,rfl,Nat.le_refl _,Nat.le_refl _,ao,λj u hu=>by simpa [Ea,GB] using hu⟩⟩ rfl (λi m B=>by have e:=(by simpa using m);subst e;exact⟨ai,HT.2⟩) R (by simp[AV,Bf];omega) sM) (C.mono sM) ?_ (by intro p r q;go_wp2;exact⟨rfl,.inl ⟨q.1,q.2.1,am _ q.2.2⟩⟩);rintro e w1 ⟨rfl,G,ap,K⟩;simp only[List.foldl_cons,List.foldl_nil,AV,Bf,Nat.zero_add,Nat.add_zero]at G;have az:=Jd E I R;have P:=K.heap ac (Fj E I R ac dC);have a4:=RR.kp ai K az;have a1:=G.len 3;have bl:=G.qX5;have t:=Y P;have:=U P;let⟨k1,af⟩:=eX ((Ag [] a).length);rw[<-af]at a1 bl;let⟨nw,ah⟩:=eX a.news;have y:=zh (n2 af ah);have bb:=zh G;have aj:=zh ap;have bh:Hid (Kp E.S w w1):=(C.mono sM).trans K (λi f a2=>by rcases List.mem_cons.1 f with rfl | f;omega;exact f);have bg:=zh P;have bc:=zh a4;clear G ap K P a4 af az ai I R C ac bi ao;rw[<-ah]at bn;clear ah;go_wp2_with fail;refine(show Calls _ _ _ _ _ from al w1 aj bc).mono ?_;rintro e w2 ⟨rfl,D⟩;rw[<-y.out.2];have av:=bb.out.kp D sM;have aq:=(Env.To.of0 aj D).dev;have ax:=D.hp bg.out;have O:=bh.out.tr D;have ay:χ w E.S [89]:=λk hk c t fr e hm=>E.nin H e (by rw[List.mem_singleton.1 hm];decide) hk;have a8:=HV.out.qK4 O ay;have be:Hid (∀i (m:i<g.length) (B:i<d.length),RR E.toEnv w2 g[i] d[i]/\(∀n l,d[i]=.at n l->l.key=⟨#[]⟩)):=λi m B=>⟨RR.kp (HR i m B).1 O (E.apt w H),(HR i m B).2⟩;have Z:=zh av;have V:=zh aq;have aa:=zh O;have an:=zh ax;have bf:=zh a8;clear av aq ax O a8 D ay t a1;go_wp2_with fail;refine Env.qO7 (w:=w) (by rw[ba.out];exact NM E hO (w.heap.size+1) (Bg a) (Ag [] a) (.slice bs g.length cp) g d w2 V bf hl be Z hc hn:E.toEnv.CM (w.heap.size+1) 170 #[.map (some (w.heap.size+1)),.slice bs ln cp] w2 _) (aa.mono (by simp +contextual)) ?_ (by intro p r q;go_wp2;exact⟨rfl,.inl ⟨q.1,q.2.1,am _ q.2.2⟩⟩);rintro e w3 ⟨rfl,aw,ab,L⟩;have Q:=L.heap an (Fj E V Z an dC);have a5:=RR.kp (RR.kp HT.1 aa (E.apt w H)) L (Jd E V Z);have au:=aa.out.trans L (λi f a2=>by rcases List.mem_cons.1 f with rfl | f;omega;exact f);have t:=Y Q;have bk:=U Q;go_wp2_with fail;refine(Za (w.heap.size+1) _ E.V A N _ w3 aw (hV w3 ab) bj hN).mono ?_;rintro e w4 ⟨vf,rfl,T,F⟩;let⟨o,ae⟩:=eX (AQ N (d.foldl Ag (Ag [] a)));rw[<-ae]at T;obtain⟨fb,fc,rfl⟩:=DU T;let⟨z,S⟩:=eX o.length;have ad:=F.hp Q;have t4:=Y ad;have:=U ad;have ar:=(Env.To.of0 ab F).dev;have a6:=RR.kp a5 F (χ.nil _ _);have x:Hid (Ai w4 3 1 (.slice fb z fc) o.length (ints o)/\z=o.length/\o=AQ N (d.foldl Ag (Ag [] a))):=⟨by rw[S];exact T,S,ae⟩;rw[<-S];have ak:=zh ar;have a9:=zh (au.tr F);have bd:=zh a6;clear t Q aw ab L a5 au T F ad ar a6 ae S bk;go_wp2_with fail;refine(show Calls _ _ _ _ _ from al w4 ak bd).mono ?_;rintro e w5 ⟨rfl,M⟩;rw[<-y.out.2];have X:=ξ (show Ai w5 3 1 (.slice fb z fc) o.length (ints o)/\E.Dev w5/\Kp E.S w w5 from⟨x.1.qK5 M,(Env.To.of0 ak M).dev,a9.tr M⟩);clear M t4;by_cases bo:(z:Int)<(nw:Int)
 .go_wp2;exact⟨rfl,rfl,.inr ⟨.inr ⟨rfl,by rw[<-x.out.2.2,<-x.out.2.1,<-y.out.2];omega⟩,X.2⟩⟩
 .go_wp2
  go_ret2
  refine .inr ⟨.inl ⟨.slice fb z fc,?_,?_,?_⟩,X.2⟩
  .rw[<-y.out.1,<-y.out.2,Int.natCast_add];rfl
  .rw[<-x.out.2.2,<-x.out.2.1,<-y.out.2];omega
  .rw[<-x.out.2.2];exact X.1
