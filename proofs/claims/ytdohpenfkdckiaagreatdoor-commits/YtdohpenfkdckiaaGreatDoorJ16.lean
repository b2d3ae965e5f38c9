import Derived.Test.YtdohpenfkdckiaaGreatDoorJ15
set_option linter.all false
set_option maxRecDepth 100000
set_option maxHeartbeats 20000000
namespace Go.Proofs.YtdohpenfkdckiaaGreatDoor
open Go.Proofs.Tryz
open Go.RowKit
variable {κ:Nat}
structure Wr(base A:Nat)(w w':World):Prop where
 os:w'.os=w.os
 tape:w'.tape=w.tape
 output:w'.output=w.output
 size:w.heap.size≤w'.heap.size
 low:∀ k,k<base→k≠A→w'.heap[k]?=w.heap[k]?
 oth:∀ (k:Nat) (c:Array Value) (t:TypeId) (fr:Nat × Nat),w.heap[k]?=some (.cells c t fr)→t≠117→k≠A→w'.heap[k]?=some (.cells c t fr)
theorem Wr.trans{base A:Nat}{a b c}(h:Wr base A a b)(k:Wr base A b c):Wr base A a c:=
 ⟨k.os.trans h.os,k.tape.trans h.tape,k.output.trans h.output,lT h.size k.size,λq d f=>(k.low q d f).trans (h.low q d f),λq c t fr e d f=>k.oth q c t fr (h.oth q c t fr e d f) d f⟩
theorem Wr.ofKp{base A:Nat}{a b}(h:Kp [A] a b)(g:base<=a.heap.size):Wr base A a b:=
 ⟨h.os,h.tape,h.output,h.size,λk f d=>h.block k oM (by simpa using d),λk c t fr e f d=>h.heap e (by simpa using d)⟩
theorem Wr.grown{base A:Nat}{a w w'}{sz:Nat}{v}{n:Nat}{xs:List Value}(s:Wr base A a w)(i:base<=a.heap.size)(h:w.ownsRow base 117 sz v n xs)(b:w.grownBy w' v.ownBlock):Wr base A a w':=
 ⟨b.os.trans s.os,b.tape.trans s.tape,b.output.trans s.output,lT s.size b.size,λk d f=>by
  refine (b.block k (by have:=s.size;omega) ?_).trans (s.low k d f);intro e;have:=qI6 h k e.symm;omega,λk c t g e d f=>qT2 h b (s.oth k c t g e d f) d⟩
theorem qJ2{w w'}{S}{base:Nat}{e}{sz:Nat}{v}{n:Nat}{xs:List Value}(h:w.ownsRow base e sz v n xs)(hK:Kp S w w')(f:Apt w S [e]):w'.ownsRow base e sz v n xs:=by
 refine⟨h.1,?_⟩;rcases h.2 with a|⟨g,cap,cur,a,c,b,d⟩
 .exact Or.inl a
 .exact Or.inr ⟨g,cap,cur,a,c,hK.heap b (λi=>f g i _ _ _ b sM),d⟩
theorem kT3(A n C:Nat)(v)(base k:Nat)(xs:List Value)(b d:Int)(i:Nat)(B f cap:Nat)(src)(tb)(w)(h:w.heap[A]?=some (qA8 κ n C v b d))
  (hi:i<n) (hn:n<=1000) (U:w.heap[B]?=some (.cells src tb)) (N:f+128<=src.size) (ac:allBytes src) (af:B≠A) (F:w.ownsRow base 117 129 v k xs) (hb:base<=w.heap.size) (hk:k<=100000):
  Calls prog 328 #[.pointer (some ⟨A,0,none⟩),.int .i64 i,.slice (some ⟨B,f,none⟩) 128 cap] w λe O=>e=.returned .nilIface/\∃ v',
   O.ownsRow base 117 129 v' (k+1) (xs++.int .i64 i::(qA9 src f 128).toList)/\O.heap[A]?=some (qA8 κ n C v' (nx b) (nx d))/\Wr base A w O:=by
 have HV:=zh F;have l:=zh (n2 hb hk);clear F hb hk;have y:=ξ h 1;have z:=ξ h 3;simp at y z;have hA:=ζ h;have al:=ζ U;go_enter func328,ntmps328;go_wp2_with fail;refine (zE0 A n C _ b d _ h).mono ?_;rintro e w1 ⟨rfl,rfl⟩;go_wp2_with fail;refine (xJ9 A n C v (nx b) d i _ (μ h 2 _) oM oM).mono ?_;rintro e w1 ⟨rfl,rfl⟩;go_wp2_with fail;have L:((w.setCell ⟨A,2,none⟩ (ϊ (nx b))).alloc (.cells zeroCells117 117)).heap[w.heap.size]?=some (.cells zeroCells117 117):=by
  simpa using υ (w.setCell ⟨A,2,none⟩ (ϊ (nx b))) (.cells zeroCells117 117)
 rw[qP9 L (by simp[qX7]) (λv F=>by rcases List.mem_or_eq_of_mem_set F with h | h;exact kT7 v h;subst h;rfl)];obtain⟨m,aa,J,T,I⟩:∃ m,m=((w.setCell ⟨A,2,none⟩ (ϊ (nx b))).alloc (.cells zeroCells117 117)).setRow w.heap.size (qE2 zeroCells117 0 (zeroCells117.toList.set 0 (ϊ i)).toArray)/\Kp [A] w m/\
   m.heap[A]?=some (qA8 κ n C v (nx b) d)/\m.heap[w.heap.size]?=some (.cells (zeroCells117.toList.set 0 (ϊ i)).toArray 117):=
  ⟨_,rfl,((kF.sc _).alloc _).setRow sM _,(setRow_other _ _ _ _ oM).trans (ν _ (μ h 2 _)),by
   rw[setRow_heap _ _ _ _ _ _ L,qP5 sM]⟩
 rw[<-aa];clear aa L;have V:=J.heap U (by simp[af]);go_wp2_with fail;rw[zB1 (n:=128) 3 underlying118 Tryz.size5 rfl I V (by simp[qX7]) N (zC6 ac _ _).one];obtain⟨a,ab,Y,p,W⟩:∃ a,a=m.setRow w.heap.size (qE2 (zeroCells117.toList.set 0 (ϊ i)).toArray 1 (qA9 src f 128))/\Kp [A] w a/\
   a.heap[A]?=some (qA8 κ n C v (nx b) d)/\a.heap[w.heap.size]?=some (.cells (ϊ i::(qA9 src f 128).toList).toArray 117):=
  ⟨_,rfl,J.setRow sM _,(setRow_other _ _ _ _ oM).trans T,by
   rw[setRow_heap _ _ _ _ _ _ I];have e:qE2 (zeroCells117.toList.set 0 (ϊ i)).toArray 1 (qA9 src f 128)=(ϊ i::(qA9 src f 128).toList).toArray:=by
    have o:zeroCells117.toList.length=129:=by simp[qX7]
    obtain⟨G,x,ai⟩:∃ G x,zeroCells117.toList=G::x:=by
     cases s:zeroCells117.toList with
     | nil=>rw[s] at o;cases o
     | cons G x=>exact⟨G,x,rfl⟩
    rw[ai] at o |-;have hp:=qU5 (cs:=src) N;have hd:x.drop 128=[]:=dL (by simp at o;omega);unfold qE2;rw[hp];simp[hd]
   rw[e]⟩
 rw[<-ab];clear ab J T I V y z;have y:=ξ p 1;have z:=ξ p 3;simp at y z;have f1:=φ p 1;go_wp2_with fail;refine wp_region_any kR ?_;change wpAny _ _ _ _ _ _ _ (World.drew _);refine zu 0 (ϖ A) ?_;refine zu 1 (ϖ A) ?_;refine zu 2 (ϖ A) ?_;refine zu 3 (.pointer (some ⟨A,1,none⟩)) ?_;obtain⟨X,r⟩:=eX ((Value.int .i64 (i:Int)::(qA9 src f 128).toList).toArray);rw[<-r] at W;have ad:a.drew.heap[w.heap.size]?=some (.cells X 117):=W;have j:X.size=129:=by rw[r];simp[qU5 N]
 have ag:(a.drew.alloc (.cells (Value.agg X).cells 117)).heap[a.heap.size]?=some (.cells X 117):=υ a.drew _;have ah:∀ u∈(qA9 X 0 (1*129)).toList,u.oneCell'=true:=by
  have e:qA9 X 0 (1*129)=X:=by have:=xL9 X;rw[j] at this;exact this
  rw[e,r];intro u E;simp at E;rcases E with rfl|E
  .rfl
  .exact (zC6 ac f 128).one u (by simpa using E)
 have HX:=zh r;clear r;have aj:=ζ p;have P:=zh Y;have H:Hid ((a.drew.alloc (.cells (Value.agg X).cells 117)).ownsRow base 117 129 v k xs):=qJ2 HV ((Y.drew).alloc _) (λq s c t fr e=>by rw[mS s,h] at e;cases e;decide);refine wpAny_ready (rs:=[4,5]) kR sM ?_;refine AllReady.cons rfl (λK hK=>?_) (AllReady.cons rfl (λK hK=>?_) AllReady.nil)
 focus
  go_simp;refine hK _ _ ?_;refine zQ 5 λK hK=>?_;refine qF3 rfl (qR4 (t:=117) rfl kR 129 kR w.heap.size (by simp[Act.eval]) ad j) ?_;refine hK _ _ ?_;simp only[zZ];refine zQ 6 λK hK=>?_;refine qF3 rfl (qP2 rfl (.agg X) _ _ _ underlying112 zE9 (by simp[Act.eval]) (by simpa [Value.cells] using j) dC dC) ?_;refine hK _ _ ?_;simp only[zZ];refine zQ 7 λK hK=>?_
 rotate_left
 focus
  refine qF3 rfl (qR4 (t:=117) rfl kR 129 kR w.heap.size (by simp[Act.eval]) ad j) ?_;refine hK _ _ ?_;simp only[zZ];refine wpAny_ready (rs:=[4,6]) kR sM ?_;refine AllReady.cons rfl (λK hK=>?_) (AllReady.cons rfl (λK hK=>?_) AllReady.nil)
  focus
   go_simp;refine hK _ _ ?_;refine zQ 6 λK hK=>?_;refine qF3 rfl (qP2 rfl (.agg X) _ _ _ underlying112 zE9 (by simp[Act.eval]) (by simpa [Value.cells] using j) dC dC) ?_;refine hK _ _ ?_;simp only[zZ];refine zQ 7 λK hK=>?_
  rotate_left
  focus
   refine qF3 rfl (qP2 rfl (.agg X) _ _ _ underlying112 zE9 (by simp[Act.eval]) (by simpa [Value.cells] using j) dC dC) ?_;refine hK _ _ ?_;simp only[zZ];refine zQ 4 λK hK=>?_;go_simp;refine hK _ _ ?_;refine zQ 7 λK hK=>?_
 all_goals
  refine zB3 rfl rfl (.agg zeroCells117) 129 136 underlying112 zE9 (by simp[Value.cells,qX7]) dC base v k xs (by simp[Act.eval]) H a.heap.size 0 1 1 X 117 (0,0) (by simp[Act.eval]) ag oM ah (by have:=l.out;omega) (by have:=l.out;omega) (by have:=P.out.size;have:=l.out;simp;omega) ?_;intro v1 w1 D M _;obtain⟨S,R,rfl⟩:=qO0 (n:=k) D;refine hK _ _ ?_;simp only[zZ];have g:w1.heap[A]?=some (qA8 κ n C v (nx b) d):=qT2 H M (ν _ p) dC;have Q:=zh (((Wr.ofKp ((P.drew).alloc _) l.1).grown l.1 H M));have ae:Hid (w1.ownsRow base 117 129 (.slice (some ⟨S,0,none⟩) (k+1) R) (k+1) (xs++X.toList)):=by
   have o:qA9 X 0 (1*129)=X:=by have:=xL9 X;rw[j] at this;exact this
   rw[o] at D;exact D
  have ak:=ζ g;have d1:=ξ g 1;simp at d1;have e1:=φ g 1;clear D M;refine zu 8 (ϖ A) ?_;refine zu 9 (.pointer (some ⟨A,1,none⟩)) ?_;refine zQ 10 λK hK=>?_;go_simp;refine hK _ _ ?_;refine wpAny_done kR ?_ _;have d3:=ξ g 3;simp at d3;have e3:=φ g 3;have am:wrap64 (d+1)=nx d:=rfl;go_wp2;go_ret;have Z:Kp [A] w1 ((w1.setCell ⟨A,1,none⟩ (.slice (some ⟨S,0,none⟩) (k+1) R)).setCell ⟨A,3,none⟩ (ϊ (nx d))):=(kF.sc _).sc _;refine⟨rfl,_,?_,μ (μ g 1 _) 3 _,Q.trans (Wr.ofKp Z (lT l.1 Q.size))⟩;have h:=ae.out;rw[HX.out] at h;exact qJ2 h Z (λq s c t fr e=>by rw[mS s,g] at e;cases e;decide)
variable {κ:Nat}
def wcs(x:Nat × List UInt8):List Value:=.int .i64 (x.1:Int)::qD2 x.2
def laidAll(l:List UInt8)(ws:List (Nat × List UInt8)):List UInt8:=ws.foldl (fun l x=>qD0 l x.1 x.2) l
theorem jV6(l:List UInt8)(a:List (Nat × List UInt8))(j:Nat)(h:j<a.length):laidAll l (a.take (j+1))=qD0 (laidAll l (a.take j)) a[j].1 a[j].2:=by
 unfold laidAll;rw[tA h,List.foldl_append];rfl
theorem qU7(l b)(i n:Nat)(a:b.length=128)(d:n*128<=l.length)(c:i<n):n*128<=(qD0 l i b).length:=by
 unfold qD0;simp only[lA,lK,lD];omega
theorem qW9(l b)(i n:Nat)(a:b.length=128)(d:n*128<=l.length)(c:i<n):(qD0 l i b).length=l.length:=by
 unfold qD0;simp only[lA,lK,lD];omega
theorem xE8(n:Nat)(ws):∀ (l),n*128<=l.length->(∀ x∈ws,x.1<n/\x.2.length=128)->(laidAll l ws).length=l.length:=by
 induction ws with
 | nil=>intro l h _;rfl
 | cons a ws ih=>
  intro l h d;have b:=d a sM;have c:=qW9 l a.2 a.1 n b.2 h b.1;rw[<-c];exact ih _ (by rw[c];exact h) (λx e=>d x (by simp[e]))
theorem zN7(n:Nat)(ws):∀ (l),n*128<=l.length->(∀ x∈ws,x.1<n/\x.2.length=128)->n*128<=(laidAll l ws).length:=by
 induction ws with
 | nil=>intro l h _;exact h
 | cons a ws ih=>
  intro l h c;have b:=c a sM;exact ih _ (qU7 l a.2 a.1 n b.2 h b.1) (λx d=>c x (by simp[d]))
theorem xB8{α e:Type}(f:α->List e)(m:Nat)(l:List α):(∀ x∈l,(f x).length=m)->∀ j (h:j<l.length),((l.flatMap f).drop (j*m)).take m=f l[j]:=by
 induction l with
 | nil=>intro _ j h;cases h
 | cons a l ih=>
  intro b j h;have c:=b a sM
  cases j with
  | zero=>
   simp only[Nat.zero_mul,dZ,fC,zF];rw[List.take_append_of_le_length oM,tL oM]
  | succ j=>
   simp only[fC,zE];rw[show (j+1)*m=(f a).length+j*m from by rw[c,Nat.succ_mul];omega,<-List.drop_drop,List.drop_left];exact ih (λx d=>b x (by simp[d])) j (by simpa using h)
theorem jO1(A n C base:Nat)(v)(a)(d m:Int)(l)(w)(h:w.heap[A]?=some (qA8 κ n C v d m))
  (r:w.ownsRow base 117 129 v a.length (a.flatMap wcs)) (av:∀ x∈a,x.1<n/\x.2.length=128) (bp:a.length<=100000) (hn:n<=1000) (u:w.heap[C]?=some (.cells (enc l) 115)) (hs:n*128<=l.length) (G:C≠A):
  Calls prog 326 #[.pointer (some ⟨A,0,none⟩)] w λe Y=>e=.returned .nilIface/\Y.heap[A]?=some (qA8 κ n C (.slice none 0 0) (nx d) m)/\
   Y.heap[C]?=some (.cells (enc (laidAll l a)) 115)/\Kp [A,C] w Y:=by
 rcases r.2 with⟨rfl,bb⟩|⟨g,cap,cur,rfl,bk,q,au,_,ao,ap⟩
 .have e:=List.eq_nil_of_length_eq_zero bb;subst e;refine (jO2 A n C d m w h).mono ?_;rintro e w1 ⟨rfl,hA,hK⟩;exact⟨rfl,hA,hK.heap u (by simpa using G),hK.mono sM⟩
 have M:=zh av;have a1:=zh ap;have HS:=zh hs;have a8:g≠A:=by intro e;subst e;rw[h] at q;simp[qA8] at q
 have a9:g≠C:=by intro e;subst e;rw[u] at q;simp at q
 have be:=ζ h;have bh:=ζ u;have bl:=ζ q;have a0:Hid (a.length*129<=cur.size):=by show _<=_;rw[ao];exact Nat.mul_le_mul_right _ au
 have E:=ξ h 1;simp at E;have Z:=φ h 1;have HN:=zh hn;clear r av ap hs ao au;go_enter func326,ntmps326;go_wp2_with fail;refine (zE0 A n C _ d m _ h).mono ?_;rintro e w1 ⟨rfl,rfl⟩;have aa:=μ h 2 (ϊ (nx d));have ab:=(qB1 G 2 (ϊ (nx d))).trans u;have aq:=(qB1 a8 2 (ϊ (nx d))).trans q;have af:Kp [A,C] w (w.setCell ⟨A,2,none⟩ (ϊ (nx d))):=kF.sc _;go_wp2
 go_loopw [13] (λi wr=>∃ (j:Nat),j<=a.length/\i=.int .i64 j/\Hid (wr.heap[A]?=some (qA8 κ n C (.slice (some ⟨g,0,none⟩) a.length cap) (nx d) m))/\Hid (wr.heap[C]?=some (.cells (enc (laidAll l (a.take j))) 115))/\Hid (wr.heap[g]?=some (.cells cur 117))/\Hid (Kp [A,C] w wr)) (λi _=>a.length-(intOf i).toNat)
 case atStart=>exact⟨0,zL _,rfl,aa,ab,aq,af⟩
 case round=>
  obtain⟨j,hj,rfl,B,D,J,L⟩:=hrel;clear aa ab aq af h u q E Z;by_cases T:j<a.length
  .have ba:(j:Int)<(a.length:Int):=oM
   obtain⟨hi,am⟩:=M.out a[j] (gM T);obtain⟨X,R⟩:=eX ((wcs a[j]).toArray);obtain⟨i,I⟩:=eX (a[j].1);obtain⟨p,z⟩:=eX (enc a[j].2);have U:p.size=128:=by rw[z,qI7];exact am
   have an:allBytes p:=by rw[z];exact qM1 _
   have y:X=(ϊ (i:Int)::p.toList).toArray:=by rw[R,I,z];simp[wcs,enc]
   have al:X.size=129:=by rw[y];simp[U]
   have a5:X[0]?=some (ϊ i):=by rw[y];rfl
   have a7:qA9 X 1 128=p:=by rw[y];simp[qA9,tL,U]
   have a6:∀ v∈X.toList,v.oneCell'=true:=by
    rw[y];intro v r;simp at r;rcases r with rfl|r
    .rfl
    .exact an.one v (by simpa using r)
   have bm:j*129+129<=a.length*129:=oM
   have bi:qA9 cur (j*129) 129=X:=by
    have hf:=xB8 wcs 129 a (λx V=>by simp[wcs,zD7,(M.out x V).2]) j T;rw[R];unfold qA9
    congr 1
    rw[<-hf,<-a1.out,List.drop_take,List.take_take]
    congr 1
    omega
   have a4:Hid (qE2 (enc (laidAll l (a.take j))) (i*128) p=enc (laidAll l (a.take (j+1)))):=by
    show _=_;rw[z,I,xF0,jV6 l a j T];rfl
   have bn:n*128<=(enc (laidAll l (a.take j))).size:=by rw[qI7];exact zN7 n _ l HS (λx V=>M x (mT V))
   rw[<-I] at hi;have bj:=a0.out;clear R I z y am
   go_wp2_with (
    with_reducible refine qX6 (t:=117) ?_ 129 ?_ g (j*129) ?_ cur 117 (0,0) ?_ ?_ ?_
    .kernel_rfl
    .kernel_rfl
    .rfl
    .exact J
    .omega)
   have Q:=υ wr (.cells zeroCells117 117);rw[qP9 Q (by simp[qX7,al]) a6];obtain⟨b,aj,ag,F,O,ad,H,bc⟩:∃ b,b=(wr.alloc (.cells zeroCells117 117)).setRow wr.heap.size (qE2 zeroCells117 0 X.toList.toArray)/\Kp [A,C] w b/\
     b.heap[A]?=some (qA8 κ n C (.slice (some ⟨g,0,none⟩) a.length cap) (nx d) m)/\b.heap[C]?=some (.cells (enc (laidAll l (a.take j))) 115)/\b.heap[g]?=some (.cells cur 117)/\b.heap[wr.heap.size]?=some (.cells X 117)/\b.heap.size=wr.heap.size+1:=
    ⟨_,rfl,(L.alloc _).setRow (Or.inr L.size) _,(setRow_other _ _ _ _ (Nat.ne_of_lt (ζ B))).trans (ν _ B),(setRow_other _ _ _ _ (Nat.ne_of_lt (ζ D))).trans (ν _ D),(setRow_other _ _ _ _ (Nat.ne_of_lt (ζ J))).trans (ν _ J),by
     rw[setRow_heap _ _ _ _ _ _ Q,qP5 (by simp[qX7,al])],sM⟩
   have bd:=ζ B.out;have bg:=ζ D.out;rw[<-aj];clear aj Q;go_wp2_with fail;refine wp_region_held_drew (S:=λW=>W.heap[A]?=some (qA8 κ n C (.slice (some ⟨g,0,none⟩) a.length cap) (nx d) m)/\W.heap[wr.heap.size]?=some (.cells X 117)) kR ⟨F,H⟩ (λ_=>?_);have k:b.drew.heap[A]?=some (qA8 κ n C (.slice (some ⟨g,0,none⟩) a.length cap) (nx d) m)/\b.drew.heap[wr.heap.size]?=some (.cells X 117):=⟨F,H⟩;refine zP 0 A 0 k ?_;refine zV 1 (ϖ A) rfl (λW f=>by have c:=ζ f.1;clear f;go_simp) k ?_;refine zP 2 A 0 k ?_;refine zV 3 (.slice (some ⟨C,0,none⟩) n κ) rfl (λW f=>by have c:=ξ f.1 0;simp at c;clear f;go_simp) k ?_;refine zP 4 wr.heap.size 0 k ?_;refine zV 5 (ϊ i) rfl (λW f=>by have c:=ξ f.2 0;rw[a5] at c;clear f;go_simp) k ?_;refine zP 6 wr.heap.size 1 k ?_;refine zV 7 (.agg p) rfl (λW f=>qO3 (t:=115) rfl kR 128 kR wr.heap.size 1 rfl f.2 oM a7) k ?_;refine zU 8 (.pointer (some ⟨C,i*128,none⟩)) k ?_;refine zq 9 λK hK=>?_;refine xP3 rfl (jL8 (t:=115) rfl p (by rw[U];kernel_rfl) C (i*128) rfl rfl (cur:=enc (laidAll l (a.take j))) (tb:=115) O oM an.one) ?_;rw[a4.out];obtain⟨o,ak,N,ai,ac,ae,ah,bo⟩:∃ o,o=b.drew.setRow C (enc (laidAll l (a.take (j+1))))/\o.heap[A]?=some (qA8 κ n C (.slice (some ⟨g,0,none⟩) a.length cap) (nx d) m)/\o.heap[wr.heap.size]?=some (.cells X 117)/\o.heap[C]?=some (.cells (enc (laidAll l (a.take (j+1)))) 115)/\o.heap[g]?=some (.cells cur 117)/\Kp [A,C] w o/\o.heap.size=wr.heap.size+1:=
    ⟨_,rfl,(setRow_other b.drew C A _ G.symm).trans F,(setRow_other b.drew C wr.heap.size _ oM).trans H,setRow_heap b.drew C _ _ _ _ O,(setRow_other b.drew C g _ a9).trans ad,(ag.drew).setRow (g:=C) sM _,by simp[bc]⟩
   rw[<-ak];clear ak;refine hK.out _ _ ⟨N,ai⟩ (λ_=>?_);refine zd ?_;simp only[zZ];have aw:=zh N;have ay:=zh ac;have a2:=zh ae;have a3:=zh ah;clear F H O ad ag N ai ac ae ah k;go_wp2;exact⟨⟨j+1,oM,by go_num,aw,ay,a2,a3⟩,by simp[intOf];omega⟩
  .have ba:¬(j:Int)<(a.length:Int):=oM
   have ar:a.take j=a:=tL oM;have P:=D.out;rw[ar] at P;have s:=B.out;have bf:=ζ s;have E:=ξ s 1;simp at E;have Z:=φ s 1;have ax:=zh s;have az:=zh P;clear ar P s;go_wp2;go_ret;exact⟨rfl,μ ax 1 _,(qB1 G _ _).trans az,L.sc _⟩
variable {κ:Nat}
theorem zS7(V A n C base:Nat)(v)(a)(b d:Int)(l)(w)(m:w.heap[V]?=some (qE4 A n))(h:w.heap[A]?=some (qA8 κ n C v b d))
  (q:w.ownsRow base 117 129 v a.length (a.flatMap wcs)) (s:∀ x∈a,x.1<n/\x.2.length=128) (r:a.length<=100000) (o:n<=1000) (i:w.heap[C]?=some (.cells (enc l) 115)) (p:n*128<=l.length) (g:C≠A):
  Calls prog 145 #[.pointer (some ⟨V,0,none⟩)] w λe c=>e=.returned (.tuple #[])/\c.heap[A]?=some (qA8 κ n C (.slice none 0 0) (nx b) d)/\
   c.heap[C]?=some (.cells (enc (laidAll l a)) 115)/\Kp [A,C] w c:=by
 have c0:=ξ m 0;simp at c0;go_enter func145,ntmps145;go_wp2_with fail;refine (jO1 A n C base v a b d l _ h q s r o i p g).mono ?_;rintro e w1 ⟨rfl,f,j,k⟩;go_wp2
 go_end0
 exact⟨rfl,f,j,k⟩
theorem xO0(V A n C base:Nat)(v)(ws)(b f:Int)(i:Nat)(bl)(w)(g:w.heap[V]?=some (qE4 A n))(h:w.heap[A]?=some (qA8 κ n C v b f))
  (p:w.ownsRow base 117 129 v ws.length (ws.flatMap wcs)) (J:ws.length<=100000) (D:base<=w.heap.size)
  (F:i<n) (G:n<=1000) (E:bl.length=128) (M:V≠A):
  Calls prog 208 #[.pointer (some ⟨V,0,none⟩),.int .i64 i,.agg (enc bl)] w λe j=>e=.returned (.tuple #[])/\∃ d,j.ownsRow base 117 129 d (ws++[(i,bl)]).length ((ws++[(i,bl)]).flatMap wcs)/\
   j.heap[A]?=some (qA8 κ n C d (nx b) (nx f))/\Wr base A w j:=by
 have c0:=ξ g 0;simp at c0;have N:=ζ g;have L:=ζ h;have O:(enc bl).size=128:=by rw[qI7,E]
 have s:=zh p;clear p;go_enter func208,ntmps208;go_wp2_with fail;obtain⟨a,m,k,u,y,z⟩:∃ a,a=w.alloc (.cells (enc bl) 288)/\Kp [A] w a/\Ϙ a A (qA8 κ n C v b f)/\Ϙ a w.heap.size (.cells (enc bl) 288)/\Ϙ a V (qE4 A n):=
  ⟨_,rfl,kF.alloc _,ν _ h,υ _ _,ν _ g⟩
 rw[<-m];clear m c0;have c0:=ξ z 0;simp at c0;have H:qA9 (enc bl) 0 128=enc bl:=by rw[qO7,dZ,tL oM]
 have P:∀ W:World,(method 513 27 (ϖ A) "Write").run prog W=.ok (328,ϖ A) W:=λ_=>by kernel_rfl
 have l:=k.drew;have Q:=k.size;have r:=zh (qJ2 s l (λq I c t K e=>by rw[mS I,h] at e;cases e;decide))
 go_region_with (go_at_call 328;go_must (refine (kT3 A n C v base ws.length (ws.flatMap wcs) b f i w.heap.size 0 128 (enc bl) 288 a.drew u F G y oM (qM1 bl) oM r (by show base<=a.heap.size;omega) J).mono ?_);rintro e R ⟨rfl,d,o,x,B⟩)
 go_wp2
 go_end0
 refine⟨rfl,d,?_,x,(Wr.ofKp l D).trans B⟩;rw[H] at o;rw[lA,fA];have e:List.flatMap wcs [(i,bl)]=.int .i64 (i:Int)::(enc bl).toList:=by simp[wcs,enc]
 rw[e];exact o
variable {κ:Nat}
theorem Wr.tail{base A:Nat}{a w w'}{S}(h:Wr base A a w)(hK:Kp S w w')(g:∀ k∈S,a.heap.size<=k)(j:base<=a.heap.size):Wr base A a w':=
 ⟨hK.os.trans h.os,hK.tape.trans h.tape,hK.output.trans h.output,lT h.size hK.size,λk b d=>(hK.block k (by have:=h.size;omega) (λf=>by have:=g k f;omega)).trans (h.low k b d),λk c t i e b d=>hK.heap (h.oth k c t i e b d) (λf=>by have:=g k f;have:=ζ e;omega)⟩
theorem kH0(p)(h:qC6 p):∀ x∈qD9 p,0<=x/\x<256:=by
 obtain⟨b,c,d⟩:=h;intro x a;simp only[qD9,List.mem_append,List.mem_singleton] at a;rcases a with (rfl|a)|a
 .omega
 .exact zS8 _ x a
 .exact zS8 _ x a
theorem jY9(h)(b:h.key.size<=8):∀ x∈qE3 h,0<=x/\x<256:=by
 intro x a;simp only[qE3,List.mem_append,List.mem_singleton] at a;rcases a with ((a|a)|rfl)|a
 .exact qM6 _ _ x a
 .exact qM6 _ _ x a
 .omega
 .exact zS8 _ x a
theorem qK3(c:Int)(ps)(hs)(g:0<=c)(h:c<256)(f:ps.length+hs.length<=255)(e:∀ p∈ps,qC6 p)(d:∀ p∈hs,p.key.size<=8):∀ x∈qA5 c ps hs,0<=x/\x<256:=by
 intro x a;simp only[qA5,qL7,List.mem_append,mC,lN,or_false,List.mem_flatMap] at a;rcases a with (((rfl|rfl)|⟨p,b,a⟩)|⟨p,b,a⟩)|a
 .omega
 .omega
 .exact kH0 p (e p b) x a
 .exact jY9 p (d p b) x a
 .rw[List.eq_of_mem_replicate a];omega
theorem xA5(xs:List Int)(h:∀ x∈xs,0<=x/\x<256):qD2 (toB xs)=u8s xs:=by
 unfold qD2 toB u8s;rw[List.map_map];refine List.map_congr_left λx a=>?_;have b:=h x a;simp only[Function.comp]
 congr 1
 have e:(UInt8.ofNat x.toNat).toNat=x.toNat:=by
  rw[UInt8.toNat_ofNat'];omega
 rw[e];omega
theorem qI3(xs:List Int):(toB xs).length=xs.length:=by simp[toB]
theorem kD1(V A n C base:Nat)(v)(ws)(u O:Int)(i:Nat)(q:Nat)(a:Int)(vp vl)(ps)(hs)(w)
  (o:w.heap[q]?=some (ι a vp vl)) (I:0<=a) (J:a<256)
  (ae:Slc w 185 2 vp ps.length (qA3 ps)) (ad:Slc w 87 4 vl hs.length (qA7 hs)) (K:2+meas ρ ps+meas qA0 hs<=128) (H:ps.length+hs.length<=255)
  (M:∀ p∈ps,qC6 p) (L:∀ p∈hs,p.key.size<=8/\0<=p.b/\p.b<=1000000/\0<=p.s)
  (F:w.heap[V]?=some (qE4 A n)) (h:w.heap[A]?=some (qA8 κ n C v u O))
  (hv:w.ownsRow base 117 129 v ws.length (ws.flatMap wcs)) (ao:ws.length<=100000) (Z:base<=w.heap.size) (hi:i<n) (hn:n<=1000) (al:V≠A):
  Calls prog 240 #[.pointer (some ⟨q,0,none⟩),.pointer (some ⟨V,0,none⟩),.int .i64 i] w λe N=>e=.returned (.agg #[.int .i64 i,.int .u64 (fnv (qA5 a ps hs))])/\
   ∃ s,N.ownsRow base 117 129 s (ws++[(i,toB (qA5 a ps hs))]).length ((ws++[(i,toB (qA5 a ps hs))]).flatMap wcs)/\
   N.heap[A]?=some (qA8 κ n C s (nx u) (nx O))/\Wr base A w N:=by
 have G:=qK3 a ps hs I J H M (λp hp=>(L p hp).1);have m:=qR6 a ps hs K;have g:=zh (λW hK=>
  zK4 q a vp vl ps hs W (hK.hp o) I J (ae.keep0 hK) (ad.keep0 hK) K H M L)
 obtain⟨xs,r⟩:=eX (qA5 a ps hs);rw[<-r] at G m g;have HG:=zh r;rw[<-r];have P:=zh G;have HV:=zh hv;have aq:=ζ h;have aw:=ζ F;clear o ae ad K H M L G hv I J r;have aa:(u8s xs).toArray=enc (toB xs):=by unfold enc;rw[xA5 xs P.out]
 rw[aa] at g;clear aa;go_enter func240,ntmps240;go_wp2_with fail;obtain⟨w0,af,T,z,ax⟩:=qF7 w (.cells #[ϊ 0,.int .u64 0] 84);rw[<-af];clear af;refine (g w0 z).mono ?_;rintro e w1 ⟨rfl,k⟩;have D:=z.tr k;have U:=k.hp T;have ay:=k.size;clear k T z g;have ab:(enc (toB xs)).size=128:=by rw[qI7,qI3,m]
 go_wp2_with fail;have E:=υ w1 (.cells zeroCells288 288);rw[qP9 E (by simp[qL1,ab]) (qM1 _).one];rw[show (enc (toB xs)).toList.toArray=enc (toB xs) from by simp,qP5 (by rw[qL1,ab])];obtain⟨b,ag,x,X,d,an⟩:∃ b,b=(w1.alloc (.cells zeroCells288 288)).setRow w1.heap.size (enc (toB xs))/\Ϙ b w1.heap.size (.cells (enc (toB xs)) 288)/\Ϙ b w.heap.size (.cells #[ϊ 0,.int .u64 0] 84)/\Kp [] w b/\b.heap.size=w1.heap.size+1:=
  ⟨_,rfl,setRow_heap _ _ _ _ _ _ E,(setRow_other _ _ _ _ oM).trans (ν _ U),(D.alloc _).setRow (Or.inr (by have:=D.size;omega)) _,sM⟩
 rw[<-ag];clear ag E U;have am:qA9 (enc (toB xs)) 0 128=enc (toB xs):=by rw[qO7,dZ,tL (by rw[qI3];omega)]
 go_wp2_with (
  with_reducible refine qX6 (t:=288) ?_ 128 ?_ w1.heap.size 0 ?_ (enc (toB xs)) 288 (0,0) ?_ ?_ ?_
  .kernel_rfl
  .kernel_rfl
  .rfl
  .exact x
  .omega)
 have Y:=d.hp F;have R:=d.hp h;refine (xO0 V A n C base v ws u O i (toB xs) b Y R (qJ2 HV d (Apt.nil _ _)) ao (by have:=d.size;omega) hi hn (by rw[qI3,m]) al).mono ?_;rintro e w3 ⟨rfl,s,ac,S,l⟩;have ar:=an;have y:=l.oth _ _ _ _ x dC oM;have f:=l.oth _ _ _ _ X dC oM;have ai:=zh ac;have ah:=zh S;have aj:=zh ((Wr.ofKp (d.mono sM) Z).trans l);have av:=ζ f;have au:=ζ y;clear ac S l x X Y R am d D F h;go_wp2_with fail;refine (zI0 w1.heap.size 0 128 128 xs w3 m oM (λj hj=>?_)).mono ?_
 .rw[ξ y];unfold enc;rw[<-zI6 xs P.out];simp only[Nat.zero_add,zG,u8s,List.getElem?_map,List.getD];rw[gQ oM];rfl
 rintro e w4 ⟨rfl,rfl⟩;have r0:=ξ f;have ap:=φ f;have Q:=zh f;clear f y;go_wp2;have B:Kp [w.heap.size] w4 ((w4.setCell ⟨w.heap.size,0,none⟩ (ϊ (i:Int))).setCell ⟨w.heap.size,1,none⟩ (.int .u64 (fnv xs))):=(kF.sc _).sc _;have ak:=μ (μ Q 0 (ϊ (i:Int))) 1 (.int .u64 (fnv xs));refine bodyPost_ret (results_cell_row results240 _ _ w.heap.size 84 #[ϊ (i:Int),.int .u64 (fnv xs)] (0,0) _ rfl ak underlying84 rfl kR) rfl ⟨rfl,s,?_,B.ho ah,aj.tail B sM Z⟩;exact qJ2 ai B (λq o c t fr e=>by rw[mS o,Q.out] at e;cases e;decide)
def StT(T:TypeId)(w w':World):Prop:=∀ (k:Nat) (c:Array Value) (t:TypeId) (fr:Nat × Nat),w.heap[k]?=some (.cells c t fr)→t≠T→w'.heap[k]?=some (.cells c t fr)
theorem StT.refl(T)(w):StT T w w:=λ_ _ _ _ h _=>h
theorem StT.kp{T}{a b c}(h:StT T a b)(k:Kp [] b c):StT T a c:=λq x t d e f=>k.heap (h q x t d e f) sM
theorem StT.grown{T}{a w w'}{base:Nat}{sz:Nat}{v}{n:Nat}{xs:List Value}(s:StT T a w)(h:w.ownsRow base T sz v n xs)(d:w.grownBy w' v.ownBlock):StT T a w':=λq x t c e b=>qT2 h d (s q x t c e b) b
theorem kL2{w}{g a k cap:Nat}{cur}{t}{fr}{l}(d:w.heap[g]?=some (.cells cur t fr))(f:a+k<=cur.size)(h:qA9 cur a k=(qD2 l).toArray):
  Sem.run prog (convert 118 9 (.slice (some ⟨g,a,none⟩) k cap)) w=.ok (.string ⟨l.toArray⟩) w:=by
 rw[run_convert_bytes_string w _ _ _ _ _ _ underlying118 underlying5 underlying9];have e:(l.map (λb=>(b.toNat:Int))).map (Value.int .u8)=qD2 l:=by simp[qD2]
 have c:=zB2 (P:=prog) (o:=a) (n:=k) d f;rw[h,<-e] at c;rw[run_bytesToString w _ _ _ _ c,zM6];simp
theorem zS4{w}{g a k cap:Nat}{cur}{t}{fr}{s}(b:w.heap[g]?=some (.cells cur t fr))(c:a+k<=cur.size)(d:qA9 cur a k=(qD2 s.data.toList).toArray):
  Sem.run prog (convert 118 9 (.slice (some ⟨g,a,none⟩) k cap)) w=.ok (.string s) w:=by
 rw[kL2 b c d,Array.toArray_toList]
theorem zB5(s):toB (qM8 s)=s.data.toList:=by
 unfold toB qM8;rw[List.map_map];refine Eq.trans (List.map_congr_left (g:=id) λb _=>?_) (List.map_id _);simp only[Function.comp,Int.toNat_natCast,id];exact UInt8.ofNat_toNat
theorem xZ2(bl)(a:Nat)(p)(i:qC6 p)(j:(bl.drop a).take (ρ p)=toB (qD9 p)):
  (enc bl)[a]?=some (.int .u8 ((p.k.size:Int)*16+p.v.size))/\qA9 (enc bl) (a+1) p.k.size=(qD2 p.k.data.toList).toArray/\qA9 (enc bl) (a+1+p.k.size) p.v.size=(qD2 p.v.data.toList).toArray:=by
 obtain⟨k,m,n⟩:=i;have o:ρ p=1+p.k.size+p.v.size:=rfl;have d:p.k.data.toList.length=p.k.size:=Array.length_toList;have q:p.v.data.toList.length=p.v.size:=Array.length_toList;have e:(bl.drop a).take (ρ p)=[UInt8.ofNat ((p.k.size:Int)*16+p.v.size).toNat]++p.k.data.toList++p.v.data.toList:=by
  rw[j,qD9,qO9,qO9,zB5,zB5];rfl
 obtain⟨l,b⟩:=eX (bl.drop a);rw[<-b] at e;refine⟨?_,?_,?_⟩
 .have c:l[0]?=some (UInt8.ofNat ((p.k.size:Int)*16+p.v.size).toNat):=by
   have:=congrArg (λz=>z[0]?) e;simp only[List.getElem?_take,aA,cA,nA,zH] at this;rw[if_pos oM] at this;exact this
  rw[b,List.getElem?_drop,Nat.add_zero] at c;unfold enc qD2;rw[zG,List.getElem?_map,c];simp only[Option.map_some,Option.some.injEq,Value.int.injEq,true_and];rw[UInt8.toNat_ofNat'];omega
 .rw[qO7];have f:(bl.drop (a+1)).take p.k.size=p.k.data.toList:=by
   rw[<-List.drop_drop,<-b];have h:=congrArg (λz=>(z.drop 1).take p.k.size) e;simp only[List.drop_take,List.take_take,aA,cA,nA,List.drop_succ_cons,dZ] at h;rw[Nat.min_eq_left oM,List.take_left' d] at h;exact h
  rw[f];rfl
 .rw[qO7];have g:(bl.drop (a+1+p.k.size)).take p.v.size=p.v.data.toList:=by
   rw[Nat.add_assoc,<-List.drop_drop,<-b];have h:=congrArg (λz=>(z.drop (1+p.k.size)).take p.v.size) e;simp only[List.drop_take,List.take_take] at h;rw[Nat.min_eq_left oM] at h;rw[h,List.drop_left' (by simp[d];omega),tL oM]
  rw[g];rfl
theorem kI4(B base c:Nat)(bl)(p)(ps)(v)(w)(t:w.heap[B]?=some (.cells (enc bl) 288))(U:bl.length=128)(hp:qC6 p)(a9:c+ρ p<=128)
  (ad:(bl.drop c).take (ρ p)=toB (qD9 p)) (hv:w.ownsRow base 185 2 v ps.length (qA3 ps)) (hb:base<=w.heap.size) (hl:ps.length<=1000):
  Calls prog 274 #[v,.slice (some ⟨B,c,none⟩) (128-c) (128-c)] w λe L=>∃ v' r,e=.returned (.tuple #[v',r,.bool true])/\(c+ρ p<128->r=.slice (some ⟨B,c+ρ p,none⟩) (128-(c+ρ p)) (128-(c+ρ p)))/\(∃ o,r=.slice (some ⟨B,o,none⟩) (128-(c+ρ p)) (128-(c+ρ p)))/\
   L.ownsRow base 185 2 v' (ps.length+1) (qA3 (ps++[p]))/\Below base w L/\StT 185 w L:=by
 obtain⟨aa,ab,ac⟩:=hp;have ba:ρ p=1+p.k.size+p.v.size:=rfl;obtain⟨m,H⟩:=eX (128-c);obtain⟨x,hx⟩:∃ x:Int,x=(p.k.size:Int)*16+p.v.size:=⟨_,rfl⟩;obtain⟨a,V⟩:∃ a:Nat,a=p.k.size:=⟨_,rfl⟩;obtain⟨b,ag⟩:∃ b:Nat,b=p.v.size:=⟨_,rfl⟩;have a6:x / 16=(a:Int):=oM
 have be:x % 16=(b:Int):=oM
 have a8:(0:Int)<(m:Int):=oM
 have a7:((m:Int) == 0)=false:=sO
 have az:¬(a:Int)<1:=oM
 have a0:¬(8:Int)<(a:Int):=oM
 have a1:¬(12:Int)<(b:Int):=oM
 have a2:¬(m:Int)<1+(a:Int)+(b:Int):=oM
 have bc:=xZ2 bl c p ⟨aa,ab,ac⟩ ad;obtain⟨ae,I,z⟩:=bc;have b0:w.cell? ⟨B,c,none⟩=some (.int .u8 x):=by rw[ξ t,hx];exact ae
 rw[<-V] at I z;rw[<-ag] at z;have au:=zh I;have O:=zh z;have l:Hid (m=128-c/\c+(1+a+b)<=128):=⟨H,oM⟩;have aq:Hid (ρ p=1+a+b):=by show _=_;omega
 have HB:=zh t;have P:=zh hv;have M:=zh U;have bg:=ζ t;rw[<-H,aq.out];clear ad hv t hx V ag H ae I z ba a9 U aa ab ac;go_enter func274,ntmps274;go_wp2_with fail
 go_quiet (fail)
 go_wp2_with fail;obtain⟨k,ah,Q,aw,af⟩:∃ k,k=w.drewN nq/\Ϙ k B (.cells (enc bl) 288)/\Kp [] w k/\k.heap.size=w.heap.size:=⟨_,rfl,HB,(Kp.refl _ _).drewN _,rfl⟩;rw[<-ah];clear ah b0 a6 be a8 a7 az a0 a1 a2;have bj:a<=m-1:=by have:=l.out;omega
 have bm:a+b<=m-1:=by have:=l.out;omega
 have bk:(a:Int)<=((m-1:Nat):Int):=oM
 have bn:(a:Int)+(b:Int)<=((m-1:Nat):Int):=oM
 have bi:(a:Int)<=(a:Int)+(b:Int):=oM
 have bt:IntKind.i64.wrap ((a:Int)+(b:Int))=(a:Int)+(b:Int):=by rw[IntKind.wrap_i64];have:=l.out;omega
 obtain⟨J,Y⟩:=eX (if m-1=a then c+1 else c+1+a)
 have C:=zh Y;clear Y;have bs:((a:Int)+(b:Int)).toNat-a=b:=oM
 have a3:c+1+a<=(enc bl).size:=by rw[qI7,M.out];have:=l.out;omega
 have a4:c+1+a+b<=(enc bl).size:=by rw[qI7,M.out];have:=l.out;omega
 have a5:J+b<=(enc bl).size:=by
  rw[C.out];split
  .omega
  .exact a4
 have ar:Hid (qA9 (enc bl) J b=(qD2 p.v.data.toList).toArray):=by
  show _=_;rw[C.out];split
  .rename_i he;have bd:b=0:=oM
   have h:=O.out;rw[bd] at h |-;rw[<-h];simp[qA9]
  .exact O
 have d:Ϙ k.drew B (.cells (enc bl) 288):=Q;refine wp_region_held_drew (S:=λW=>Ϙ W B (.cells (enc bl) 288)) kR d (λ_=>?_);refine zU 0 (.slice (some ⟨B,c+1,none⟩) (m-1) (m-1)) d ?_;refine zU 1 (ϊ a) d ?_;refine zU 2 (.slice (some ⟨B,c+1,none⟩) a (m-1)) d ?_;refine zV 3 (.string p.k) rfl (λW i=>by have h:=zS4 (cap:=m-1) i a3 au.out;clear i;go_simp) d ?_;refine zU 4 (.slice (some ⟨B,c+1,none⟩) (m-1) (m-1)) d ?_;refine zU 5 (ϊ a) d ?_;refine zU 6 (ϊ a) d ?_;refine zU 7 (ϊ b) d ?_;refine zU 8 (ϊ ((a:Int)+(b:Int))) d ?_;refine zV 9 (.slice (some ⟨B,J,none⟩) b (m-1-a)) rfl (λW i=>by clear i;go_simp;rw[C.out];split<;>rfl) d ?_;refine zV 10 (.string p.v) rfl (λW i=>by have h:=zS4 (cap:=m-1-a) i a5 ar.out;clear i;go_simp) d ?_;refine zU 11 (.agg #[.string p.k,.string p.v]) d ?_;refine zU 12 (.agg #[.string p.k,.string p.v]) d ?_;refine zq 13 λK hK=>?_;go_simp;obtain⟨w1,ai,q,D,ax,bb⟩:∃ w1,w1=(k.alloc (.cells ϝ 185)).drew/\Ϙ w1 w.heap.size (.cells ϝ 185)/\Ϙ w1 B (.cells (enc bl) 288)/\Kp [] w w1/\w1.heap.size=w.heap.size+1:=
  ⟨_,rfl,by rw[<-af];exact υ k _,ν _ Q,(aw.alloc _).drew,by simp[af]⟩
 rw[<-ai];clear ai;refine hK.out _ _ D (λ_=>?_);clear hK K d
 try simp only[zZ]
 refine zq 14 λK hK=>?_;have z0:=ξ q;have f0:=φ q;have bh:=ζ q;have ap:=zh q;have al:=zh D;clear q D;go_simp;obtain⟨f,aj,F,R,ay,bq⟩:∃ f,f=(w1.setCell ⟨w.heap.size,0,none⟩ (.string p.k)).setCell ⟨w.heap.size,1,none⟩ (.string p.v)/\Ϙ f w.heap.size (.cells #[.string p.k,.string p.v] 185)/\Ϙ f B (.cells (enc bl) 288)/\Kp [] w f/\f.heap.size=w.heap.size+1:=
  ⟨_,rfl,μ (μ ap 0 _) 1 _,(qB1 oM _ _).trans ((qB1 oM _ _).trans al),(ax.setCell (Or.inr (Nat.le_refl _)) _).setCell (Or.inr (Nat.le_refl _)) _,by simp[bb]⟩
 rw[<-aj];clear aj z0 f0;refine hK.out _ _ R (λ_=>?_);refine zd ?_
 try simp only[zZ]
 go_wp2_with fail;obtain⟨A,X⟩:=eX (if m-1=a+b then c+1 else c+1+(a+b))
 have N:=zh X;clear X;have bf:(0:Int)<=(a:Int)+(b:Int):=oM
 have bo:((a:Int)+(b:Int)).toNat=a+b:=oM
 have j:Ϙ f.drew w.heap.size (.cells #[.string p.k,.string p.v] 185):=F;refine wp_region_held_drew (S:=λW=>Ϙ W w.heap.size (.cells #[.string p.k,.string p.v] 185)) kR j (λ_=>?_);refine zU 0 v j ?_;refine zW 1 (.agg #[.string p.k,.string p.v]) j id ?_;refine zU 4 (.slice (some ⟨B,c+1,none⟩) (m-1) (m-1)) j ?_;refine zU 5 (ϊ a) j ?_;refine zU 6 (ϊ b) j ?_;refine zU 7 (ϊ ((a:Int)+(b:Int))) j ?_;refine zV 8 (.slice (some ⟨B,A,none⟩) (m-1-(a+b)) (m-1-(a+b))) rfl (λW i=>by clear i;go_simp;rw[N.out];split<;>rfl) j ?_;refine zq 2 λK hK=>?_;go_simp;obtain⟨n,ak,T,G,E,br⟩:∃ n,n=(f.alloc (.cells #[.string p.k,.string p.v] 185)).drew/\Ϙ n f.heap.size (.cells #[.string p.k,.string p.v] 185)/\Ϙ n w.heap.size (.cells #[.string p.k,.string p.v] 185)/\Kp [] w n/\n.heap.size=f.heap.size+1:=
  ⟨_,rfl,υ f _,ν _ F,(ay.alloc _).drew,sM⟩
 rw[<-ak];clear ak;refine hK.out _ _ G (λ_=>?_);clear hK K j
 try simp only[zZ]
 have y:=qJ2 P E (Apt.nil _ _);refine zq 3 λK hK=>?_;refine zB3 rfl rfl (.agg #[.string ⟨#[]⟩,.string ⟨#[]⟩]) 2 32 underlying186 zN3 rfl dC base v ps.length (qA3 ps) (by simp[Act.eval]) y f.heap.size 0 1 1 #[.string p.k,.string p.v] 185 (0,0) (by simp[Act.eval]) T sM (by simp[qA9,Value.oneCell']) oM oM oM ?_;intro v4 w4 Z u _;have s:Ϙ w4 w.heap.size (.cells #[.string p.k,.string p.v] 185):=by
  refine (u.block _ oM ?_).trans G;rcases P.2 with⟨rfl,_⟩|⟨g,cap,cur,rfl,_,hh,_⟩
  .simp[Value.ownBlock]
  .intro e;simp only[Value.ownBlock,Option.some.injEq] at e;have:=ζ hh;omega
 have ao:Hid (w4.ownsRow base 185 2 v4 (ps.length+1) (qA3 (ps++[p]))):=by
  have e:qA3 (ps++[p])=qA3 ps++(qA9 #[.string p.k,.string p.v] 0 (1*2)).toList:=by simp[qA3,pcs,qA9]
  show World.ownsRow _ _ _ _ _ _ _;rw[e];exact Z
 have an:=zh ((E.below hb sM).grown u oM (qI6 y));have av:=zh (((StT.refl _ w).kp E).grown y u);refine hK.out _ _ s (λ_=>?_);clear hK K Z u y
 try simp only[zZ]
 refine zq 9 λK hK=>?_;go_simp;refine zk hK s ?_
 refine zq 10 λK hK=>?_;go_simp;refine zk hK s ?_
 refine zq 11 λK hK=>?_;go_simp;refine zk hK s ?_
 refine zd ?_;have am:Hid (c+(1+a+b)<128->(Value.slice (some ⟨B,A,none⟩) (m-1-(a+b)) (m-1-(a+b)))=.slice (some ⟨B,c+(1+a+b),none⟩) (128-(c+(1+a+b))) (128-(c+(1+a+b)))):=by
  intro bp;have h1:=l.out;rw[N.out,if_neg oM,show c+1+(a+b)=c+(1+a+b) from by omega,show m-1-(a+b)=128-(c+(1+a+b)) from by omega]
 clear s T G F R;go_wp2
 go_ret3
 refine⟨v4,_,rfl,am,⟨A,?_⟩,ao,an,av⟩;show Value.slice (some ⟨B,A,none⟩) (m-1-(a+b)) (m-1-(a+b))=_;rw[show m-1-(a+b)=128-(c+(1+a+b)) from by have:=l.out;omega]
theorem zH6{α:Type}{R:α->Prop}{G:Prop}(h:∃ a,R a/\(R a->G)):G:=h.elim λ_ h=>h.2 h.1
theorem qX2{α:Type}(l:List α)(b N:Nat)(A B C:List α)(h:(l.drop b).take N=A++B++C):(l.drop (b+A.length)).take B.length=B:=by
 have c:(A++B++C).length<=N:=by rw[<-h];exact List.length_take_le _ _
 simp only[lA] at c;have a:=congrArg (λz=>(z.drop A.length).take B.length) h;simp only[List.drop_take,List.take_take,List.drop_drop,aA,List.drop_left,List.take_left] at a;rw[Nat.min_eq_left oM] at a;exact a
theorem qS9(bl)(o k:Nat)(xs:List Int)(c:∀ x∈xs,0<=x/\x<256)(d:xs.length=k)(h:(bl.drop o).take k=toB xs):∀ j,j<k->(enc bl)[o+j]?=some (.int .u8 (xs.getD j 0)):=by
 intro j b;have a:=congrArg (λz=>(qD2 z)[j]?) h;simp only[qD2,List.getElem?_map,List.getElem?_take,if_pos b,List.getElem?_drop] at a;unfold enc qD2;rw[zG,List.getElem?_map,a,<-List.getElem?_map];have e:=xA5 xs c;unfold qD2 at e;rw[e];unfold u8s;rw[List.getElem?_map,gQ oM,List.getD_eq_getElem?_getD,gQ oM];rfl
theorem xZ3(bl)(a:Nat)(h)(k:h.key.size<=8)(i:(bl.drop a).take (qA0 h)=toB (qE3 h)):
  (∀ j,j<2->(enc bl)[a+j]?=some (.int .u8 ((qB4 2 h.b).getD j 0)))/\(∀ j,j<8->(enc bl)[a+2+j]?=some (.int .u8 ((qB4 8 h.s).getD j 0)))/\
  (enc bl)[a+10]?=some (.int .u8 (h.key.size:Int))/\qA9 (enc bl) (a+11) h.key.size=(qD2 h.key.data.toList).toArray:=by
 have g:h.key.data.toList.length=h.key.size:=Array.length_toList;have e:(bl.drop a).take (qA0 h)=toB (qB4 2 h.b)++toB (qB4 8 h.s)++toB [(h.key.size:Int)]++h.key.data.toList:=by
  rw[i,qE3,qO9,qO9,qO9,zB5]
 have c:(toB (qB4 2 h.b)).length=2:=by rw[qI3,qI0]
 have d:(toB (qB4 8 h.s)).length=8:=by rw[qI3,qI0]
 have f:(toB [(h.key.size:Int)]).length=1:=by rw[qI3];rfl
 refine⟨?_,?_,?_,?_⟩
 .have b:=qX2 bl a (qA0 h) [] (toB (qB4 2 h.b)) (toB (qB4 8 h.s)++toB [(h.key.size:Int)]++h.key.data.toList) (by rw[e];simp);rw[c] at b;exact qS9 bl a 2 _ (qM6 _ _) (qI0 _ _) b
 .have b:=qX2 bl a (qA0 h) (toB (qB4 2 h.b)) (toB (qB4 8 h.s)) (toB [(h.key.size:Int)]++h.key.data.toList) (by rw[e];simp);rw[c,d] at b;exact qS9 bl (a+2) 8 _ (qM6 _ _) (qI0 _ _) b
 .have b:=qX2 bl a (qA0 h) (toB (qB4 2 h.b)++toB (qB4 8 h.s)) (toB [(h.key.size:Int)]) (h.key.data.toList) (by rw[e]);rw[lA,c,d,f] at b;exact qS9 bl (a+10) 1 [(h.key.size:Int)] sO rfl b 0 oM
 .have b:=qX2 bl a (qA0 h) (toB (qB4 2 h.b)++toB (qB4 8 h.s)++toB [(h.key.size:Int)]) (h.key.data.toList) [] (by rw[e];simp);rw[lA,lA,c,d,f,g] at b;rw[qO7,b];rfl
theorem kI1(B base a:Nat)(bl)(h)(hs)(v)(w)(V:w.heap[B]?=some (.cells (enc bl) 288))(ay:bl.length=128)(hp:h.p=none)(hk:h.key.size<=8)(aw:0<=h.b)(ax:h.b<65536)(a6:0<=h.s)(p:h.s<18446744073709551616)(br:a+qA0 h<=128)
  (a3:(bl.drop a).take (qA0 h)=toB (qE3 h)) (hv:w.ownsRow base 87 4 v hs.length (qA7 hs)) (hb:base<=w.heap.size) (hl:hs.length<=1000):
  Calls prog 275 #[v,.slice (some ⟨B,a,none⟩) (128-a) (128-a)] w λe k=>∃ v' r,e=.returned (.tuple #[v',r,.bool true])/\(a+qA0 h<128->r=.slice (some ⟨B,a+qA0 h,none⟩) (128-(a+qA0 h)) (128-(a+qA0 h)))/\(∃ o,r=.slice (some ⟨B,o,none⟩) (128-(a+qA0 h)) (128-(a+qA0 h)))/\
   k.ownsRow base 87 4 v' (hs.length+1) (qA7 (hs++[h]))/\Below base w k/\StT 87 w k:=by
 obtain⟨m,hm⟩:=eX (128-a);obtain⟨b,aj⟩:∃ b:Nat,b=h.key.size:=⟨_,rfl⟩;have a7:qA0 h=11+b:=by rw[aj];rfl
 obtain⟨a4,a5,ak,al⟩:=xZ3 bl a h hk a3;rw[<-aj] at ak al;have bs:h.ptr=none:=by simp[HL.ptr,hp]
 have bo:¬(m:Int)<11:=oM
 have bp:(10:Int)<(m:Int):=oM
 have b7:¬(m:Int)<2:=oM
 have b6:¬(m:Int)<10:=oM
 have bk:¬(8:Int)<(b:Int):=oM
 have bm:¬(m:Int)<11+(b:Int):=oM
 have bh:w.cell? ⟨B,a+10,none⟩=some (.int .u8 (b:Int)):=by rw[ξ V];exact ak
 have an:=zh (qQ7 2 h.b oM aw (by simpa using ax));have ab:=zh (qQ7 8 h.s oM a6 (by simpa using p));have bv:IntKind.i64.wrap h.b=h.b:=by rw[IntKind.wrap_i64];omega
 have ap:=zh a4;have ad:=zh a5;have aq:=zh al;have x:Hid (m=128-a/\a+(11+b)<=128):=⟨hm,oM⟩;have U:=zh V;have HV:=zh hv;have bb:=zh ay;have b2:=ζ V;rw[<-hm,a7];clear a3 hv V hm a4 a5 ak al br ay aw ax a6 p hk aj hp a7;go_enter func275,ntmps275;go_wp2_with fail;have bq:¬m=2:=oM
 have b4:a+11+b<=(enc bl).size:=by rw[qI7,bb.out];have:=x.out;omega
 rename_i K0 ar;have n:Ϙ w.drew B (.cells (enc bl) 288):=U.out;refine zH6 (R:=λA=>∀ W,Ϙ W w.heap.size (.cells #[ϊ h.b,.int .u64 h.s] 84)->Ϙ W B (.cells (enc bl) 288)->Kp [] w W->W.heap.size=w.heap.size+1->K0 A W) ?_;apply Exists.intro;apply And.intro
 rotate_left
 .intro HREST;refine wp_region_held_drew (S:=λW=>Ϙ W B (.cells (enc bl) 288)) kR n (λ_=>?_);refine zU 0 (.slice (some ⟨B,a,none⟩) m m) n ?_;refine zU 1 (.slice (some ⟨B,a,none⟩) 2 m) n ?_;refine zU 4 (.slice (some ⟨B,a,none⟩) m m) n ?_;refine zU 5 (.slice (some ⟨B,a+2,none⟩) 8 (m-2)) n ?_;refine zr 2 8 (λK hK=>?_) λK hK=>?_
  .skip
   go_simp;refine (qW3 B a 2 m (qB4 2 h.b) w.drew (qI0 _ _) oM (λj t=>(ξ n (a+j)).trans (ap j t))).mono ?_;rintro e k ⟨rfl,i⟩;rw[i,an.out];clear i k;refine zk hK n ?_
   refine zU 3 (ϊ h.b) n ?_;refine zr 6 8 (λK hK=>?_) λK hK=>?_
   .skip
    go_simp;refine (qW3 B (a+2) 8 (m-2) (qB4 8 h.s) w.drew (qI0 _ _) oM (λj t=>(ξ n (a+2+j)).trans (ad j t))).mono ?_;rintro e k ⟨rfl,i⟩;rw[i,ab.out];clear i k;refine zk hK n ?_
    refine zU 7 (.agg #[ϊ h.b,.int .u64 h.s]) n ?_;refine zq 8 λK hK=>?_;go_simp;obtain⟨w1,D,f,d,z,p⟩:∃ w1,w1=(w.alloc (.cells #[ϊ 0,.int .u64 0] 84)).drew/\Ϙ w1 w.heap.size (.cells #[ϊ 0,.int .u64 0] 84)/\Ϙ w1 B (.cells (enc bl) 288)/\Kp [] w w1/\w1.heap.size=w.heap.size+1:=
     ⟨_,rfl,υ w _,ν _ U,((Kp.refl _ _).alloc _).drew,sM⟩
    rw[<-D];clear D;refine zk hK d ?_
    refine zq 9 λK hK=>?_;have J:=ξ f;have F:=φ f;have T:=ζ f;have y:=zh f;have u:=zh d;clear f d;go_simp;obtain⟨c,E,q,l,G,H⟩:∃ c,c=(w1.setCell ⟨w.heap.size,0,none⟩ (ϊ h.b)).setCell ⟨w.heap.size,1,none⟩ (.int .u64 h.s)/\Ϙ c w.heap.size (.cells #[ϊ h.b,.int .u64 h.s] 84)/\Ϙ c B (.cells (enc bl) 288)/\Kp [] w c/\c.heap.size=w.heap.size+1:=
     ⟨_,rfl,μ (μ y 0 _) 1 _,(qB1 oM _ _).trans ((qB1 oM _ _).trans u),(z.setCell (Or.inr (Nat.le_refl _)) _).setCell (Or.inr (Nat.le_refl _)) _,by simp[p]⟩
    rw[<-E];clear E J F;refine hK.out _ _ l (λ_=>?_);clear hK K z p y u T;refine zd ?_
    try simp only[zZ]
    exact HREST c q l G H
   .skip
    go_simp;obtain⟨w1,D,f,d,z,p⟩:∃ w1,w1=(w.alloc (.cells #[ϊ 0,.int .u64 0] 84)).drew/\Ϙ w1 w.heap.size (.cells #[ϊ 0,.int .u64 0] 84)/\Ϙ w1 B (.cells (enc bl) 288)/\Kp [] w w1/\w1.heap.size=w.heap.size+1:=
     ⟨_,rfl,υ w _,ν _ U,((Kp.refl _ _).alloc _).drew,sM⟩
    rw[<-D];clear D;refine zk hK d ?_
    refine zq 6 λK hK=>?_;go_simp;refine (qW3 B (a+2) 8 (m-2) (qB4 8 h.s) w1 (qI0 _ _) oM (λj t=>(ξ d (a+2+j)).trans (ad j t))).mono ?_;rintro e k ⟨rfl,i⟩;rw[i,ab.out];clear i k;refine zk hK d ?_
    refine zU 7 (.agg #[ϊ h.b,.int .u64 h.s]) d ?_;refine zq 9 λK hK=>?_;have J:=ξ f;have F:=φ f;have T:=ζ f;have y:=zh f;have u:=zh d;clear f d;go_simp;obtain⟨c,E,q,l,G,H⟩:∃ c,c=(w1.setCell ⟨w.heap.size,0,none⟩ (ϊ h.b)).setCell ⟨w.heap.size,1,none⟩ (.int .u64 h.s)/\Ϙ c w.heap.size (.cells #[ϊ h.b,.int .u64 h.s] 84)/\Ϙ c B (.cells (enc bl) 288)/\Kp [] w c/\c.heap.size=w.heap.size+1:=
     ⟨_,rfl,μ (μ y 0 _) 1 _,(qB1 oM _ _).trans ((qB1 oM _ _).trans u),(z.setCell (Or.inr (Nat.le_refl _)) _).setCell (Or.inr (Nat.le_refl _)) _,by simp[p]⟩
    rw[<-E];clear E J F;refine hK.out _ _ l (λ_=>?_);clear hK K z p y u T;refine zd ?_
    try simp only[zZ]
    exact HREST c q l G H
  .skip
   go_simp;obtain⟨w1,D,f,d,z,p⟩:∃ w1,w1=(w.alloc (.cells #[ϊ 0,.int .u64 0] 84)).drew/\Ϙ w1 w.heap.size (.cells #[ϊ 0,.int .u64 0] 84)/\Ϙ w1 B (.cells (enc bl) 288)/\Kp [] w w1/\w1.heap.size=w.heap.size+1:=
    ⟨_,rfl,υ w _,ν _ U,((Kp.refl _ _).alloc _).drew,sM⟩
   rw[<-D];clear D;refine zk hK d ?_
   refine zq 2 λK hK=>?_;go_simp;refine (qW3 B a 2 m (qB4 2 h.b) w1 (qI0 _ _) oM (λj t=>(ξ d (a+j)).trans (ap j t))).mono ?_;rintro e k ⟨rfl,i⟩;rw[i,an.out];clear i k;refine zk hK d ?_
   refine zU 3 (ϊ h.b) d ?_;refine zq 6 λK hK=>?_;go_simp;refine (qW3 B (a+2) 8 (m-2) (qB4 8 h.s) w1 (qI0 _ _) oM (λj t=>(ξ d (a+2+j)).trans (ad j t))).mono ?_;rintro e k ⟨rfl,i⟩;rw[i,ab.out];clear i k;refine zk hK d ?_
   refine zU 7 (.agg #[ϊ h.b,.int .u64 h.s]) d ?_;refine zq 9 λK hK=>?_;have J:=ξ f;have F:=φ f;have T:=ζ f;have y:=zh f;have u:=zh d;clear f d;go_simp;obtain⟨c,E,q,l,G,H⟩:∃ c,c=(w1.setCell ⟨w.heap.size,0,none⟩ (ϊ h.b)).setCell ⟨w.heap.size,1,none⟩ (.int .u64 h.s)/\Ϙ c w.heap.size (.cells #[ϊ h.b,.int .u64 h.s] 84)/\Ϙ c B (.cells (enc bl) 288)/\Kp [] w c/\c.heap.size=w.heap.size+1:=
    ⟨_,rfl,μ (μ y 0 _) 1 _,(qB1 oM _ _).trans ((qB1 oM _ _).trans u),(z.setCell (Or.inr (Nat.le_refl _)) _).setCell (Or.inr (Nat.le_refl _)) _,by simp[p]⟩
   rw[<-E];clear E J F;refine hK.out _ _ l (λ_=>?_);clear hK K z p y u T;refine zd ?_
   try simp only[zZ]
   exact HREST c q l G H
 intro c q l G H;refine ar _ _ ?_;clear ar K0 bh bo bp bk bm bv bq;go_wp2_with fail;have b3:=ζ q;have bw:(0:Int)<=11+(b:Int):=oM
 have bx:(11:Int)<=11+(b:Int):=oM
 have bz:¬(m:Int)<11+(b:Int):=by have:=x.out;omega
 have b0:(11:Int)+(b:Int)<=(m:Int):=by have:=x.out;omega
 have b1:((11:Int)+(b:Int)).toNat=11+b:=oM
 have cb:IntKind.i64.wrap (11+(b:Int))=11+(b:Int):=by rw[IntKind.wrap_i64];have:=x.out;omega
 have ca:11+b-11=b:=oM
 obtain⟨o7,a0⟩:=eX (if m=11 then a else a+11)
 obtain⟨Z,a1⟩:=eX (if m=11+b then a else a+(11+b))
 have ac:=zh a0;have ao:=zh a1;clear a0 a1;have bn:o7+b<=(enc bl).size:=by
  rw[ac.out];have:=x.out;split<;>omega
 have bf:Hid (qA9 (enc bl) o7 b=(qD2 h.key.data.toList).toArray):=by
  show _=_;rw[ac.out];split
  .rename_i he;have bu:b=0:=by have:=x.out;omega
   have h:=aq.out;rw[bu] at h |-;rw[<-h];simp[qA9]
  .exact aq
 have s:Ϙ c.drew w.heap.size (.cells #[ϊ h.b,.int .u64 h.s] 84)/\Ϙ c.drew B (.cells (enc bl) 288):=⟨q,l⟩;refine wp_region_held_drew (S:=λW=>Ϙ W w.heap.size (.cells #[ϊ h.b,.int .u64 h.s] 84)/\Ϙ W B (.cells (enc bl) 288)) kR s (λ_=>?_);refine zU 0 (.slice (some ⟨B,a,none⟩) m m) s ?_;refine zU 1 (ϊ b) s ?_;refine zU 2 (ϊ (11+(b:Int))) s ?_;refine zV 3 (.slice (some ⟨B,o7,none⟩) b (m-11)) rfl (λW M=>by clear M;go_simp;rw[ac.out];split<;>rfl) s ?_;refine zV 4 (.string h.key) rfl (λW M=>by have h:=zS4 (cap:=m-11) M.2 bn bf.out;clear M;go_simp) s ?_;refine zW 5 (.agg #[ϊ h.b,.int .u64 h.s]) s (·.1) ?_;refine zU 6 (.agg #[.string h.key,ϊ h.b,.int .u64 h.s,.pointer none]) s ?_;refine zq 7 λK hK=>?_;go_simp;obtain⟨I,a8,L,ai,ae,au,bt⟩:∃ I,I=(c.alloc (.cells ϙ 87)).drew/\Ϙ I c.heap.size (.cells ϙ 87)/\Ϙ I w.heap.size (.cells #[ϊ h.b,.int .u64 h.s] 84)/\Ϙ I B (.cells (enc bl) 288)/\Kp [] w I/\I.heap.size=c.heap.size+1:=
  ⟨_,rfl,υ c _,ν _ q,ν _ l,(G.alloc _).drew,sM⟩
 rw[<-a8];clear a8;rw[H] at L bt;refine hK.out _ _ ⟨ai,ae⟩ (λ_=>?_);clear hK K s
 try simp only[zZ]
 refine zq 8 λK hK=>?_;have J:=ξ L;have F:=φ L;have bj:=ζ L;have am:=zh L;have aa:=zh (n2 ai ae);clear L ai ae;go_simp;have az:=qT8 (.string h.key) (ϊ h.b) (.int .u64 h.s) (.pointer none) am.out;obtain⟨N,a9,ag,P⟩:=gE az;rw[<-a9];clear a9 az J F;have bi:=au.tr P;have b8:=P.size;refine hK.out _ _ ⟨P.hp aa.1,P.ho aa.2⟩ (λ_=>?_);refine zd ?_
 try simp only[zZ]
 clear aa am au P bj;go_wp2_with fail;have C:N.drew.heap[w.heap.size+1]?=some (.cells #[.string h.key,ϊ h.b,.int .u64 h.s,.pointer none] 87):=ag;refine wp_region_held_drew (S:=λW=>W.heap[w.heap.size+1]?=some (.cells #[.string h.key,ϊ h.b,.int .u64 h.s,.pointer none] 87)) kR C (λ_=>?_);refine zU 0 v C ?_;refine zW 1 (.agg #[.string h.key,ϊ h.b,.int .u64 h.s,.pointer none]) C id ?_;refine zU 4 (.slice (some ⟨B,a,none⟩) m m) C ?_;refine zU 5 (ϊ b) C ?_;refine zU 6 (ϊ (11+(b:Int))) C ?_;refine zV 7 (.slice (some ⟨B,Z,none⟩) (m-(11+b)) (m-(11+b))) rfl (λW M=>by clear M;go_simp;rw[ao.out];split<;>rfl) C ?_;refine zq 2 λK hK=>?_;go_simp;obtain⟨O,ba,av,ah,af,b9⟩:∃ O,O=(N.alloc (.cells #[.string h.key,ϊ h.b,.int .u64 h.s,.pointer none] 87)).drew/\Ϙ O N.heap.size (.cells #[.string h.key,ϊ h.b,.int .u64 h.s,.pointer none] 87)/\O.heap[w.heap.size+1]?=some (.cells #[.string h.key,ϊ h.b,.int .u64 h.s,.pointer none] 87)/\Kp [] w O/\O.heap.size=N.heap.size+1:=
  ⟨_,rfl,υ N _,ν _ ag,(bi.alloc _).drew,sM⟩
 rw[<-ba];clear ba;refine hK.out _ _ ah (λ_=>?_);clear hK K C
 try simp only[zZ]
 have Y:=qJ2 HV af (Apt.nil _ _);refine zq 3 λK hK=>?_;refine zB3 rfl rfl (.agg #[.string ⟨#[]⟩,ϊ 0,.int .u64 0,.pointer none]) 4 40 underlying156 qV5 rfl dC base v hs.length (qA7 hs) (by simp[Act.eval]) Y N.heap.size 0 1 1 #[.string h.key,ϊ h.b,.int .u64 h.s,.pointer none] 87 (0,0) (by simp[Act.eval]) av sM (by simp[qA9,Value.oneCell']) oM oM oM ?_;intro v6 w6 a2 X _;have Q:w6.heap[w.heap.size+1]?=some (.cells #[.string h.key,ϊ h.b,.int .u64 h.s,.pointer none] 87):=by
  refine (X.block _ oM ?_).trans ah;rcases HV.2 with⟨rfl,_⟩|⟨g,cap,cur,rfl,_,hh,_⟩
  .simp[Value.ownBlock]
  .intro e;simp only[Value.ownBlock,Option.some.injEq] at e;have:=ζ hh;omega
 have be:Hid (w6.ownsRow base 87 4 v6 (hs.length+1) (qA7 (hs++[h]))):=by
  have e:qA7 (hs++[h])=qA7 hs++(qA9 #[.string h.key,ϊ h.b,.int .u64 h.s,.pointer none] 0 (1*4)).toList:=by simp[qA7,lcs,qA9,bs]
  show World.ownsRow _ _ _ _ _ _ _;rw[e];exact a2
 have bd:=zh ((af.below hb sM).grown X oM (qI6 Y));have bg:=zh (((StT.refl _ w).kp af).grown Y X);refine hK.out _ _ Q (λ_=>?_);clear hK K a2 X Y
 try simp only[zZ]
 refine zq 8 λK hK=>?_;go_simp;refine zk hK Q ?_
 refine zq 9 λK hK=>?_;go_simp;refine zk hK Q ?_
 refine zq 10 λK hK=>?_;go_simp;refine zk hK Q ?_
 refine zd ?_;have bc:Hid (a+(11+b)<128->(Value.slice (some ⟨B,Z,none⟩) (m-(11+b)) (m-(11+b)))=.slice (some ⟨B,a+(11+b),none⟩) (128-(a+(11+b))) (128-(a+(11+b)))):=by
  intro b5;have h1:=x.out;rw[ao.out,if_neg oM,show m-(11+b)=128-(a+(11+b)) from by omega]
 clear Q av ah ag q l;go_wp2
 go_ret3
 refine⟨v6,_,rfl,bc,⟨Z,?_⟩,be,bd,bg⟩;show Value.slice (some ⟨B,Z,none⟩) (m-(11+b)) (m-(11+b))=_;rw[show m-(11+b)=128-(a+(11+b)) from by have:=x.out;omega]
end Go.Proofs.YtdohpenfkdckiaaGreatDoor
