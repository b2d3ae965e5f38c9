import Derived.Test.YtdohpenfkdckiaaGreatDoorJ13
set_option linter.all false
set_option maxRecDepth 100000
set_option maxHeartbeats 20000000
namespace Go.Proofs.YtdohpenfkdckiaaGreatDoor
open Go.Proofs.Tryz
open Go.RowKit
variable {κ:Nat}
def nx(c:Int):Int:=wrap64 (c+1)
def nk(c:Int):Nat→Int
 | 0=>c
 | k+1=>nx (nk c k)
theorem zE8(A n C:Nat)(cache)(a k:Int)(w)(h:w.heap[A]?=some (qA6 κ n C cache a k)):
  Calls prog 329 #[.pointer (some ⟨A,0,none⟩)] w λe j=>e=.returned (.bool false)/\j=w.setCell ⟨A,2,none⟩ (.int .i64 (nx a)):=by
 have b:=ξ h 2;have c:=ξ h 5;have d:=ξ h 6;have f:=ξ h 7;simp at b c d f;have l:=ψ h 2;clear h;have o:wrap64 (a+1)=nx a:=rfl;by_cases i:a<0
 .have g:decide (a<0)=true:=by simp[i]
  have m:decide (0<=a)=false:=sO
  go_enter func329,ntmps329;go_wp2;go_ret;exact⟨rfl,rfl⟩
 have g:decide (a<0)=false:=sO
 go_enter func329,ntmps329;go_wp2;go_ret;exact⟨rfl,rfl⟩
theorem kC3(A n C:Nat)(a c:Int)(i:Nat)(cs)(w)(h:w.heap[A]?=some (qA6 κ n C (.slice none 0 0) a c))
  (z:i<n) (B:n<=1000) (l:w.heap[C]?=some (.cells cs 115)) (D:n*128<=cs.size) (s:allBytes cs) (p:C≠A):
  Calls prog 327 #[.pointer (some ⟨A,0,none⟩),.int .i64 i] w λe j=>∃ g,e=.returned (.tuple #[.slice (some ⟨g,0,none⟩) 128 128,.nilIface])/\w.heap.size<=g/\
   j.heap[g]?=some (.cells (qB0 cs (i*128) 128) 5)/\j.heap[A]?=some (qA6 κ n C (.slice none 0 0) (nx a) c)/\Kp [A] w j:=by
 have c0:=ξ h 0;have d:=ξ h 1;simp at c0 d;have u:=ζ h;have v:=ζ l;go_enter func327,ntmps327;go_wp2_with fail;refine (zE8 A n C _ a c _ h).mono ?_;rintro e t ⟨rfl,rfl⟩;go_wp2_with fail;refine (xL9 A n C (.slice none 0 0) (nx a) c i _ (μ h 2 _) oM oM).mono ?_;rintro e t ⟨rfl,rfl⟩
 go_wp2_with (refine xT7 (.int .u8 0) (.int .u8 0) 1 1 underlying118 Tryz.info5 (by simp[Value.cells]) (by simp[Value.cells]) .i64 .i64 128 rfl rfl dC dC ?_;intro Z x y)
 have f:((w.setCell ⟨A,2,none⟩ (ϊ (nx a))).alloc (.cells Z 5)).heap[w.heap.size]?=some (.cells Z 5):=by
  simpa using υ (w.setCell ⟨A,2,none⟩ (ϊ (nx a))) (.cells Z 5)
 have m:=ρ (.cells Z 5) ((qB2 p 2 (ϊ (nx a))).trans l);rw[zB5 (n:=128) 3 underlying118 Tryz.size5 rfl f m oM oM (zD4 s _ _).one];obtain⟨b,o,r,k,q⟩:∃ b,b=((w.setCell ⟨A,2,none⟩ (ϊ (nx a))).alloc (.cells Z 5)).setRow w.heap.size (qI2 Z 0 (qB0 cs (i*128) 128))/\Kp [A] w b/\
   b.heap[A]?=some (qA6 κ n C (.slice none 0 0) (nx a) c)/\b.heap[w.heap.size]?=some (.cells (qB0 cs (i*128) 128) 5):=
  ⟨_,rfl,((kF.sc _).alloc _).setRow sM _,(setRow_other _ _ _ _ oM).trans (ρ _ (μ h 2 _)),by
   rw[setRow_heap _ _ _ _ _ _ f,qO7 (by rw[qU7 oM];omega)]⟩
 rw[<-o];clear o f m c0 d h;have d:=ξ k 1;simp at d;go_wp2;refine wp_loop_rounds 1 ?_;rw[rounds_succ];go_wp2
 go_ret2
 exact⟨_,rfl,lR,q,k,r⟩
theorem zH1(V A n C:Nat)(f k:Int)(i:Nat)(l)(w)(y:w.heap[V]?=some (qE4 A n))(h:w.heap[A]?=some (qA6 κ n C (.slice none 0 0) f k))
  (P:i<n) (Q:n<=1000) (u:w.heap[C]?=some (.cells (enc l) 115)) (R:n*128<=l.length) (J:C≠A) (W:V≠A):
  Calls prog 247 #[.pointer (some ⟨V,0,none⟩),.int .i64 i] w λe F=>e=.returned (.agg (enc (ω l i)))/\
   F.heap[A]?=some (qA6 κ n C (.slice none 0 0) (nx f) k)/\Kp [A] w F:=by
 have c0:=ξ y 0;simp at c0;have X:=ζ y;have S:=ζ h;have U:=ζ u;go_enter func247,ntmps247;go_wp2_with fail;refine (kC3 A n C f k i (enc l) _ (ρ _ h) P Q (ρ _ u) (by rw[qH1];exact R) (qJ4 l) J).mono ?_;rintro e c ⟨g,rfl,E,j,s,m⟩;rw[qP2] at j;have D:ω l i=(l.drop (i*128)).take 128:=rfl;rw[<-D] at j;have q:(ω l i).length=128:=by simp[ω];omega
 clear D;obtain⟨a,p⟩:=eY (ω l i);rw[p] at j q;have G:=zh p;clear p;have N:Ϙ c w.heap.size (.cells zeroCells288 288):=m.heap (υ _ _) sO;have v:Kp [A] w c:=(kF.alloc _).tr m;have Z:w.heap.size+1<=g:=by simpa using E
 have Y:=ζ j;have T:=ζ s;clear m E c0;go_wp2_with fail;have o:=υ c (.cells zeroCells288 288);rw[zB5 (n:=128) 3 underlying118 Tryz.size5 rfl o (ρ _ j) (by simp[qK4]) (by rw[qH1];omega) (zD4 (qJ4 _) _ _).one];rw[qP2,dZ,tL oM,qO7 (by rw[qK4,qH1,q])];obtain⟨b,z,L,H,x,K⟩:∃ b,b=(c.alloc (.cells zeroCells288 288)).setRow c.heap.size (enc a)/\Kp [A] w b/\Ϙ b A (qA6 κ n C (.slice none 0 0) (nx f) k)/\
   Ϙ b w.heap.size (.cells zeroCells288 288)/\Ϙ b c.heap.size (.cells (enc a) 288):=
  ⟨_,rfl,(v.alloc _).setRow (Or.inr v.size) _,(setRow_other _ _ _ _ oM).trans (ρ _ s),(setRow_other _ _ _ _ oM).trans (ρ _ N),setRow_heap _ _ _ _ _ _ o⟩
 rw[<-z];clear z o;have aa:qB0 (enc a) 0 128=enc a:=by rw[qP2,dZ,tL oM]
 have r:(enc a).size=128:=by rw[qH1,q]
 go_wp2_with (
  with_reducible refine qV2 (t:=288) ?_ 128 ?_ c.heap.size 0 ?_ (enc a) 288 (0,0) ?_ ?_ ?_
  .kernel_rfl
  .kernel_rfl
  .rfl
  .exact K
  .rw[qH1];omega)
 rw[qQ3 x (by simp[qK4,r]) (qJ4 a).one];rw[show (enc a).toList.toArray=enc a from by simp,qO7 (by rw[qK4,r])];obtain⟨d,B,M,I,O⟩:∃ d,d=b.setRow w.heap.size (enc a)/\Kp [A] w d/\Ϙ d A (qA6 κ n C (.slice none 0 0) (nx f) k)/\Ϙ d w.heap.size (.cells (enc a) 288):=
  ⟨_,rfl,L.setRow sM _,(setRow_other _ _ _ _ oM).trans H,setRow_heap _ _ _ _ _ _ x⟩
 rw[<-B];clear B;go_wp2_with fail;exact bodyPost_ret (results_cell_row results247 _ _ w.heap.size _ _ _ _ rfl O underlying288 rfl (by rw[r];kernel_rfl)) rfl ⟨by rw[G.out],I,M⟩
theorem jK1(A n C:Nat)(a b:Int)(w)(h:w.heap[A]?=some (qA6 κ n C (.slice none 0 0) a b)):
  Calls prog 326 #[.pointer (some ⟨A,0,none⟩)] w λe c=>e=.returned .nilIface/\c.heap[A]?=some (qA6 κ n C (.slice none 0 0) (nx a) b)/\Kp [A] w c:=by
 have d:=ξ h 1;simp at d;have f:=ψ h 1;go_enter func326,ntmps326;go_wp2_with fail;refine (zE8 A n C _ a b _ h).mono ?_;rintro e g ⟨rfl,rfl⟩;go_wp2;refine wp_loop_rounds 1 ?_;rw[rounds_succ];go_wp2;go_ret;refine⟨rfl,?_,(kF.sc _).sc _⟩;exact μ (μ h 2 _) 1 _
variable {κ:Nat}
structure Wr(base A:Nat)(w w':World):Prop where
 os:w'.os=w.os
 tape:w'.tape=w.tape
 output:w'.output=w.output
 size:w.heap.size≤w'.heap.size
 low:∀ k,k<base→k≠A→w'.heap[k]?=w.heap[k]?
 oth:∀ (k:Nat) (c:Array Value) (t:TypeId) (fr:Nat × Nat),w.heap[k]?=some (.cells c t fr)→t≠117→k≠A→w'.heap[k]?=some (.cells c t fr)
theorem Wr.trans{base A:Nat}{a b c}(h:Wr base A a b)(k:Wr base A b c):Wr base A a c:=
 ⟨k.os.trans h.os,k.tape.trans h.tape,k.output.trans h.output,lT h.size k.size,λq d f=>(k.low q d f).trans (h.low q d f),λq c t fr e d f=>k.oth q c t fr (h.oth q c t fr e d f) d f⟩
theorem Wr.ofKp{base A:Nat}{a b}(h:Kp [A] a b)(g:base<=a.heap.size):Wr base A a b:=
 ⟨h.os,h.tape,h.output,h.size,λk f d=>h.block k oM (by simpa using d),λk c t fr e f d=>h.heap e (by simpa using d)⟩
theorem Wr.grown{base A:Nat}{a w w'}{sz:Nat}{v}{n:Nat}{xs:List Value}(s:Wr base A a w)(i:base<=a.heap.size)(h:w.ownsRow base 117 sz v n xs)(b:w.grownBy w' v.ownBlock):Wr base A a w':=
 ⟨b.os.trans s.os,b.tape.trans s.tape,b.output.trans s.output,lT s.size b.size,λk d f=>by
  refine (b.block k (by have:=s.size;omega) ?_).trans (s.low k d f);intro e;have:=qI4 h k e.symm;omega,λk c t g e d f=>qT5 h b (s.oth k c t g e d f) d⟩
theorem qI5{w w'}{S}{base:Nat}{e}{sz:Nat}{v}{n:Nat}{xs:List Value}(h:w.ownsRow base e sz v n xs)(hK:Kp S w w')(f:Apt w S [e]):w'.ownsRow base e sz v n xs:=by
 refine⟨h.1,?_⟩;rcases h.2 with a|⟨g,cap,cur,a,c,b,d⟩
 .exact Or.inl a
 .exact Or.inr ⟨g,cap,cur,a,c,hK.heap b (λi=>f g i _ _ _ b sM),d⟩
theorem kR4(A n C:Nat)(v)(base k:Nat)(xs:List Value)(b d:Int)(i:Nat)(B f cap:Nat)(src)(tb)(w)(h:w.heap[A]?=some (qA6 κ n C v b d))
  (hi:i<n) (hn:n<=1000) (V:w.heap[B]?=some (.cells src tb)) (O:f+128<=src.size) (ad:allBytes src) (ag:B≠A) (G:w.ownsRow base 117 129 v k xs) (hb:base<=w.heap.size) (hk:k<=100000):
  Calls prog 328 #[.pointer (some ⟨A,0,none⟩),.int .i64 i,.slice (some ⟨B,f,none⟩) 128 cap] w λe P=>e=.returned .nilIface/\∃ v',
   P.ownsRow base 117 129 v' (k+1) (xs++.int .i64 i::(qB0 src f 128).toList)/\P.heap[A]?=some (qA6 κ n C v' (nx b) (nx d))/\Wr base A w P:=by
 have HV:=zh G;have l:=zh (n2 hb hk);clear G hb hk;have z:=ξ h 1;have D:=ξ h 3;simp at z D;have hA:=ζ h;have am:=ζ V;go_enter func328,ntmps328;go_wp2_with fail;refine (zE8 A n C _ b d _ h).mono ?_;rintro e p ⟨rfl,rfl⟩;go_wp2_with fail;refine (xL9 A n C v (nx b) d i _ (μ h 2 _) oM oM).mono ?_;rintro e p ⟨rfl,rfl⟩;go_wp2_with fail;have M:((w.setCell ⟨A,2,none⟩ (ϊ (nx b))).alloc (.cells zeroCells117 117)).heap[w.heap.size]?=some (.cells zeroCells117 117):=by
  simpa using υ (w.setCell ⟨A,2,none⟩ (ϊ (nx b))) (.cells zeroCells117 117)
 rw[qQ3 M (by simp[qX7]) (λv G=>by rcases List.mem_or_eq_of_mem_set G with h | h;exact kS1 v h;subst h;rfl)];obtain⟨m,ab,L,U,J⟩:∃ m,m=((w.setCell ⟨A,2,none⟩ (ϊ (nx b))).alloc (.cells zeroCells117 117)).setRow w.heap.size (qI2 zeroCells117 0 (zeroCells117.toList.set 0 (ϊ i)).toArray)/\Kp [A] w m/\
   m.heap[A]?=some (qA6 κ n C v (nx b) d)/\m.heap[w.heap.size]?=some (.cells (zeroCells117.toList.set 0 (ϊ i)).toArray 117):=
  ⟨_,rfl,((kF.sc _).alloc _).setRow sM _,(setRow_other _ _ _ _ oM).trans (ρ _ (μ h 2 _)),by
   rw[setRow_heap _ _ _ _ _ _ M,qO7 sM]⟩
 rw[<-ab];clear ab M;have W:=L.heap V (by simp[ag]);go_wp2_with fail;rw[zB5 (n:=128) 3 underlying118 Tryz.size5 rfl J W (by simp[qX7]) O (zD4 ad _ _).one];obtain⟨a,ac,Z,r,Y⟩:∃ a,a=m.setRow w.heap.size (qI2 (zeroCells117.toList.set 0 (ϊ i)).toArray 1 (qB0 src f 128))/\Kp [A] w a/\
   a.heap[A]?=some (qA6 κ n C v (nx b) d)/\a.heap[w.heap.size]?=some (.cells (ϊ i::(qB0 src f 128).toList).toArray 117):=
  ⟨_,rfl,L.setRow sM _,(setRow_other _ _ _ _ oM).trans U,by
   rw[setRow_heap _ _ _ _ _ _ J];have e:qI2 (zeroCells117.toList.set 0 (ϊ i)).toArray 1 (qB0 src f 128)=(ϊ i::(qB0 src f 128).toList).toArray:=by
    have o:zeroCells117.toList.length=129:=by simp[qX7]
    obtain⟨H,y,aj⟩:∃ H y,zeroCells117.toList=H::y:=by
     cases x:zeroCells117.toList with
     | nil=>rw[x] at o;cases o
     | cons H y=>exact⟨H,y,rfl⟩
    rw[aj] at o |-;have hp:=qU7 (cs:=src) O;have hd:y.drop 128=[]:=dL (by simp at o;omega);unfold qI2;rw[hp];simp[hd]
   rw[e]⟩
 rw[<-ac];clear ac L U J W z D;have z:=ξ r 1;have D:=ξ r 3;simp at z D;have f1:=ψ r 1;go_wp2_with fail;refine wp_region_any kR ?_;change wpAny _ _ _ _ _ _ _ (World.drew _);refine zu 0 (ϖ A) ?_;refine zu 1 (ϖ A) ?_;refine zu 2 (ϖ A) ?_;refine zu 3 (.pointer (some ⟨A,1,none⟩)) ?_;obtain⟨X,s⟩:=eX ((Value.int .i64 (i:Int)::(qB0 src f 128).toList).toArray);rw[<-s] at Y;have ae:a.drew.heap[w.heap.size]?=some (.cells X 117):=Y;have j:X.size=129:=by rw[s];simp[qU7 O]
 have ah:(a.drew.alloc (.cells (Value.agg X).cells 117)).heap[a.heap.size]?=some (.cells X 117):=υ a.drew _;have ai:∀ u∈(qB0 X 0 (1*129)).toList,u.oneCell'=true:=by
  have e:qB0 X 0 (1*129)=X:=by have:=xN8 X;rw[j] at this;exact this
  rw[e,s];intro u F;simp at F;rcases F with rfl|F
  .rfl
  .exact (zD4 ad f 128).one u (by simpa using F)
 have HX:=zh s;clear s;have ak:=ζ r;have Q:=zh Z;have I:Hid ((a.drew.alloc (.cells (Value.agg X).cells 117)).ownsRow base 117 129 v k xs):=qI5 HV ((Z.drew).alloc _) (λq x c t fr e=>by rw[mS x,h] at e;cases e;decide);refine wpAny_ready (rs:=[4,5]) kR sM ?_;refine AllReady.cons rfl (λK hK=>?_) (AllReady.cons rfl (λK hK=>?_) AllReady.nil)
 focus
  go_simp;refine hK _ _ ?_;refine zQ 5 λK hK=>?_;refine qF2 rfl (qP6 (t:=117) rfl kR 129 kR w.heap.size (by simp[Act.eval]) ae j) ?_;refine hK _ _ ?_;simp only[zZ];refine zQ 6 λK hK=>?_;refine qF2 rfl (qP5 rfl (.agg X) _ _ _ underlying112 zF9 (by simp[Act.eval]) (by simpa [Value.cells] using j) dC dC) ?_;refine hK _ _ ?_;simp only[zZ];refine zQ 7 λK hK=>?_
 rotate_left
 focus
  refine qF2 rfl (qP6 (t:=117) rfl kR 129 kR w.heap.size (by simp[Act.eval]) ae j) ?_;refine hK _ _ ?_;simp only[zZ];refine wpAny_ready (rs:=[4,6]) kR sM ?_;refine AllReady.cons rfl (λK hK=>?_) (AllReady.cons rfl (λK hK=>?_) AllReady.nil)
  focus
   go_simp;refine hK _ _ ?_;refine zQ 6 λK hK=>?_;refine qF2 rfl (qP5 rfl (.agg X) _ _ _ underlying112 zF9 (by simp[Act.eval]) (by simpa [Value.cells] using j) dC dC) ?_;refine hK _ _ ?_;simp only[zZ];refine zQ 7 λK hK=>?_
  rotate_left
  focus
   refine qF2 rfl (qP5 rfl (.agg X) _ _ _ underlying112 zF9 (by simp[Act.eval]) (by simpa [Value.cells] using j) dC dC) ?_;refine hK _ _ ?_;simp only[zZ];refine zQ 4 λK hK=>?_;go_simp;refine hK _ _ ?_;refine zQ 7 λK hK=>?_
 all_goals
  refine zB8 rfl rfl (.agg zeroCells117) 129 136 underlying112 zF9 (by simp[Value.cells,qX7]) dC base v k xs (by simp[Act.eval]) I a.heap.size 0 1 1 X 117 (0,0) (by simp[Act.eval]) ah oM ai (by have:=l.out;omega) (by have:=l.out;omega) (by have:=Q.out.size;have:=l.out;simp;omega) ?_;intro v1 p E N _;obtain⟨T,S,rfl⟩:=qL7 (n:=k) E;refine hK _ _ ?_;simp only[zZ];have g:p.heap[A]?=some (qA6 κ n C v (nx b) d):=qT5 I N (ρ _ r) dC;have R:=zh (((Wr.ofKp ((Q.drew).alloc _) l.1).grown l.1 I N));have af:Hid (p.ownsRow base 117 129 (.slice (some ⟨T,0,none⟩) (k+1) S) (k+1) (xs++X.toList)):=by
   have o:qB0 X 0 (1*129)=X:=by have:=xN8 X;rw[j] at this;exact this
   rw[o] at E;exact E
  have al:=ζ g;have d1:=ξ g 1;simp at d1;have e1:=ψ g 1;clear E N;refine zu 8 (ϖ A) ?_;refine zu 9 (.pointer (some ⟨A,1,none⟩)) ?_;refine zQ 10 λK hK=>?_;go_simp;refine hK _ _ ?_;refine wpAny_done kR ?_ _;have d3:=ξ g 3;simp at d3;have e3:=ψ g 3;have an:wrap64 (d+1)=nx d:=rfl;go_wp2;go_ret;have aa:Kp [A] p ((p.setCell ⟨A,1,none⟩ (.slice (some ⟨T,0,none⟩) (k+1) S)).setCell ⟨A,3,none⟩ (ϊ (nx d))):=(kF.sc _).sc _;refine⟨rfl,_,?_,μ (μ g 1 _) 3 _,R.trans (Wr.ofKp aa (lT l.1 R.size))⟩;have h:=af.out;rw[HX.out] at h;exact qI5 h aa (λq x c t fr e=>by rw[mS x,g] at e;cases e;decide)
variable {κ:Nat}
def wcs(x:Nat × List UInt8):List Value:=.int .i64 (x.1:Int)::qC0 x.2
def laidAll(l:List UInt8)(ws:List (Nat × List UInt8)):List UInt8:=ws.foldl (fun l x=>qC7 l x.1 x.2) l
theorem jR3(l:List UInt8)(a:List (Nat × List UInt8))(j:Nat)(h:j<a.length):laidAll l (a.take (j+1))=qC7 (laidAll l (a.take j)) a[j].1 a[j].2:=by
 unfold laidAll;rw[tA h,List.foldl_append];rfl
theorem qU9(l b)(i n:Nat)(a:b.length=128)(d:n*128<=l.length)(c:i<n):n*128<=(qC7 l i b).length:=by
 unfold qC7;simp only[lA,lK,lD];omega
theorem qX2(l b)(i n:Nat)(a:b.length=128)(d:n*128<=l.length)(c:i<n):(qC7 l i b).length=l.length:=by
 unfold qC7;simp only[lA,lK,lD];omega
theorem xG5(n:Nat)(ws):∀ (l),n*128<=l.length->(∀ x∈ws,x.1<n/\x.2.length=128)->(laidAll l ws).length=l.length:=by
 induction ws with
 | nil=>intro l h _;rfl
 | cons a ws ih=>
  intro l h d;have b:=d a sM;have c:=qX2 l a.2 a.1 n b.2 h b.1;rw[<-c];exact ih _ (by rw[c];exact h) (λx e=>d x (by simp[e]))
theorem zO7(n:Nat)(ws):∀ (l),n*128<=l.length->(∀ x∈ws,x.1<n/\x.2.length=128)->n*128<=(laidAll l ws).length:=by
 induction ws with
 | nil=>intro l h _;exact h
 | cons a ws ih=>
  intro l h c;have b:=c a sM;exact ih _ (qU9 l a.2 a.1 n b.2 h b.1) (λx d=>c x (by simp[d]))
theorem xD5{α e:Type}(f:α->List e)(m:Nat)(l:List α):(∀ x∈l,(f x).length=m)->∀ j (h:j<l.length),((l.flatMap f).drop (j*m)).take m=f l[j]:=by
 induction l with
 | nil=>intro _ j h;cases h
 | cons a l ih=>
  intro b j h;have c:=b a sM
  cases j with
  | zero=>
   simp only[Nat.zero_mul,dZ,fC,zF];rw[List.take_append_of_le_length oM,tL oM]
  | succ j=>
   simp only[fC,zE];rw[show (j+1)*m=(f a).length+j*m from by rw[c,Nat.succ_mul];omega,<-List.drop_drop,List.drop_left];exact ih (λx d=>b x (by simp[d])) j (by simpa using h)
theorem jK0(A n C base:Nat)(v)(a)(d m:Int)(l)(w)(h:w.heap[A]?=some (qA6 κ n C v d m))
  (r:w.ownsRow base 117 129 v a.length (a.flatMap wcs)) (av:∀ x∈a,x.1<n/\x.2.length=128) (bp:a.length<=100000) (hn:n<=1000) (u:w.heap[C]?=some (.cells (enc l) 115)) (hs:n*128<=l.length) (G:C≠A):
  Calls prog 326 #[.pointer (some ⟨A,0,none⟩)] w λe Y=>e=.returned .nilIface/\Y.heap[A]?=some (qA6 κ n C (.slice none 0 0) (nx d) m)/\
   Y.heap[C]?=some (.cells (enc (laidAll l a)) 115)/\Kp [A,C] w Y:=by
 rcases r.2 with⟨rfl,bb⟩|⟨g,cap,cur,rfl,bk,q,au,_,ao,ap⟩
 .have e:=List.eq_nil_of_length_eq_zero bb;subst e;refine (jK1 A n C d m w h).mono ?_;rintro e w1 ⟨rfl,hA,hK⟩;exact⟨rfl,hA,hK.heap u (by simpa using G),hK.mono sM⟩
 have M:=zh av;have a1:=zh ap;have HS:=zh hs;have a8:g≠A:=by intro e;subst e;rw[h] at q;simp[qA6] at q
 have a9:g≠C:=by intro e;subst e;rw[u] at q;simp at q
 have be:=ζ h;have bh:=ζ u;have bl:=ζ q;have a0:Hid (a.length*129<=cur.size):=by show _<=_;rw[ao];exact Nat.mul_le_mul_right _ au
 have E:=ξ h 1;simp at E;have Z:=ψ h 1;have HN:=zh hn;clear r av ap hs ao au;go_enter func326,ntmps326;go_wp2_with fail;refine (zE8 A n C _ d m _ h).mono ?_;rintro e w1 ⟨rfl,rfl⟩;have aa:=μ h 2 (ϊ (nx d));have ab:=(qB2 G 2 (ϊ (nx d))).trans u;have aq:=(qB2 a8 2 (ϊ (nx d))).trans q;have af:Kp [A,C] w (w.setCell ⟨A,2,none⟩ (ϊ (nx d))):=kF.sc _;go_wp2
 go_loopw [13] (λi wr=>∃ (j:Nat),j<=a.length/\i=.int .i64 j/\Hid (wr.heap[A]?=some (qA6 κ n C (.slice (some ⟨g,0,none⟩) a.length cap) (nx d) m))/\Hid (wr.heap[C]?=some (.cells (enc (laidAll l (a.take j))) 115))/\Hid (wr.heap[g]?=some (.cells cur 117))/\Hid (Kp [A,C] w wr)) (λi _=>a.length-(intOf i).toNat)
 case atStart=>exact⟨0,zL _,rfl,aa,ab,aq,af⟩
 case round=>
  obtain⟨j,hj,rfl,B,D,J,L⟩:=hrel;clear aa ab aq af h u q E Z;by_cases T:j<a.length
  .have ba:(j:Int)<(a.length:Int):=oM
   obtain⟨hi,am⟩:=M.out a[j] (gM T);obtain⟨X,R⟩:=eX ((wcs a[j]).toArray);obtain⟨i,I⟩:=eX (a[j].1);obtain⟨p,z⟩:=eX (enc a[j].2);have U:p.size=128:=by rw[z,qH1];exact am
   have an:allBytes p:=by rw[z];exact qJ4 _
   have y:X=(ϊ (i:Int)::p.toList).toArray:=by rw[R,I,z];simp[wcs,enc]
   have al:X.size=129:=by rw[y];simp[U]
   have a5:X[0]?=some (ϊ i):=by rw[y];rfl
   have a7:qB0 X 1 128=p:=by rw[y];simp[qB0,tL,U]
   have a6:∀ v∈X.toList,v.oneCell'=true:=by
    rw[y];intro v r;simp at r;rcases r with rfl|r
    .rfl
    .exact an.one v (by simpa using r)
   have bm:j*129+129<=a.length*129:=oM
   have bi:qB0 cur (j*129) 129=X:=by
    have hf:=xD5 wcs 129 a (λx V=>by simp[wcs,zE7,(M.out x V).2]) j T;rw[R];unfold qB0
    congr 1
    rw[<-hf,<-a1.out,List.drop_take,List.take_take]
    congr 1
    omega
   have a4:Hid (qI2 (enc (laidAll l (a.take j))) (i*128) p=enc (laidAll l (a.take (j+1)))):=by
    show _=_;rw[z,I,xG7,jR3 l a j T];rfl
   have bn:n*128<=(enc (laidAll l (a.take j))).size:=by rw[qH1];exact zO7 n _ l HS (λx V=>M x (mT V))
   rw[<-I] at hi;have bj:=a0.out;clear R I z y am
   go_wp2_with (
    with_reducible refine qV2 (t:=117) ?_ 129 ?_ g (j*129) ?_ cur 117 (0,0) ?_ ?_ ?_
    .kernel_rfl
    .kernel_rfl
    .rfl
    .exact J
    .omega)
   have Q:=υ wr (.cells zeroCells117 117);rw[qQ3 Q (by simp[qX7,al]) a6];obtain⟨b,aj,ag,F,O,ad,H,bc⟩:∃ b,b=(wr.alloc (.cells zeroCells117 117)).setRow wr.heap.size (qI2 zeroCells117 0 X.toList.toArray)/\Kp [A,C] w b/\
     b.heap[A]?=some (qA6 κ n C (.slice (some ⟨g,0,none⟩) a.length cap) (nx d) m)/\b.heap[C]?=some (.cells (enc (laidAll l (a.take j))) 115)/\b.heap[g]?=some (.cells cur 117)/\b.heap[wr.heap.size]?=some (.cells X 117)/\b.heap.size=wr.heap.size+1:=
    ⟨_,rfl,(L.alloc _).setRow (Or.inr L.size) _,(setRow_other _ _ _ _ (Nat.ne_of_lt (ζ B))).trans (ρ _ B),(setRow_other _ _ _ _ (Nat.ne_of_lt (ζ D))).trans (ρ _ D),(setRow_other _ _ _ _ (Nat.ne_of_lt (ζ J))).trans (ρ _ J),by
     rw[setRow_heap _ _ _ _ _ _ Q,qO7 (by simp[qX7,al])],sM⟩
   have bd:=ζ B.out;have bg:=ζ D.out;rw[<-aj];clear aj Q;go_wp2_with fail;refine wp_region_held_drew (S:=λW=>W.heap[A]?=some (qA6 κ n C (.slice (some ⟨g,0,none⟩) a.length cap) (nx d) m)/\W.heap[wr.heap.size]?=some (.cells X 117)) kR ⟨F,H⟩ (λ_=>?_);have k:b.drew.heap[A]?=some (qA6 κ n C (.slice (some ⟨g,0,none⟩) a.length cap) (nx d) m)/\b.drew.heap[wr.heap.size]?=some (.cells X 117):=⟨F,H⟩;refine zP 0 A 0 k ?_;refine zV 1 (ϖ A) rfl (λW f=>by have c:=ζ f.1;clear f;go_simp) k ?_;refine zP 2 A 0 k ?_;refine zV 3 (.slice (some ⟨C,0,none⟩) n κ) rfl (λW f=>by have c:=ξ f.1 0;simp at c;clear f;go_simp) k ?_;refine zP 4 wr.heap.size 0 k ?_;refine zV 5 (ϊ i) rfl (λW f=>by have c:=ξ f.2 0;rw[a5] at c;clear f;go_simp) k ?_;refine zP 6 wr.heap.size 1 k ?_;refine zV 7 (.agg p) rfl (λW f=>qO4 (t:=115) rfl kR 128 kR wr.heap.size 1 rfl f.2 oM a7) k ?_;refine zU 8 (.pointer (some ⟨C,i*128,none⟩)) k ?_;refine zq 9 λK hK=>?_;refine kL3 rfl (jH6 (t:=115) rfl p (by rw[U];kernel_rfl) C (i*128) rfl rfl (cur:=enc (laidAll l (a.take j))) (tb:=115) O oM an.one) ?_;rw[a4.out];obtain⟨o,ak,N,ai,ac,ae,ah,bo⟩:∃ o,o=b.drew.setRow C (enc (laidAll l (a.take (j+1))))/\o.heap[A]?=some (qA6 κ n C (.slice (some ⟨g,0,none⟩) a.length cap) (nx d) m)/\o.heap[wr.heap.size]?=some (.cells X 117)/\o.heap[C]?=some (.cells (enc (laidAll l (a.take (j+1)))) 115)/\o.heap[g]?=some (.cells cur 117)/\Kp [A,C] w o/\o.heap.size=wr.heap.size+1:=
    ⟨_,rfl,(setRow_other b.drew C A _ G.symm).trans F,(setRow_other b.drew C wr.heap.size _ oM).trans H,setRow_heap b.drew C _ _ _ _ O,(setRow_other b.drew C g _ a9).trans ad,(ag.drew).setRow (g:=C) sM _,by simp[bc]⟩
   rw[<-ak];clear ak;refine hK.out _ _ ⟨N,ai⟩ (λ_=>?_);refine zd ?_;simp only[zZ];have aw:=zh N;have ay:=zh ac;have a2:=zh ae;have a3:=zh ah;clear F H O ad ag N ai ac ae ah k;go_wp2;exact⟨⟨j+1,oM,by go_num,aw,ay,a2,a3⟩,by simp[intOf];omega⟩
  .have ba:¬(j:Int)<(a.length:Int):=oM
   have ar:a.take j=a:=tL oM;have P:=D.out;rw[ar] at P;have s:=B.out;have bf:=ζ s;have E:=ξ s 1;simp at E;have Z:=ψ s 1;have ax:=zh s;have az:=zh P;clear ar P s;go_wp2;go_ret;exact⟨rfl,μ ax 1 _,(qB2 G _ _).trans az,L.sc _⟩
variable {κ:Nat}
theorem zT6(V A n C base:Nat)(v)(a)(b d:Int)(l)(w)(m:w.heap[V]?=some (qE4 A n))(h:w.heap[A]?=some (qA6 κ n C v b d))
  (q:w.ownsRow base 117 129 v a.length (a.flatMap wcs)) (s:∀ x∈a,x.1<n/\x.2.length=128) (r:a.length<=100000) (o:n<=1000) (i:w.heap[C]?=some (.cells (enc l) 115)) (p:n*128<=l.length) (g:C≠A):
  Calls prog 145 #[.pointer (some ⟨V,0,none⟩)] w λe c=>e=.returned (.tuple #[])/\c.heap[A]?=some (qA6 κ n C (.slice none 0 0) (nx b) d)/\
   c.heap[C]?=some (.cells (enc (laidAll l a)) 115)/\Kp [A,C] w c:=by
 have c0:=ξ m 0;simp at c0;go_enter func145,ntmps145;go_wp2_with fail;refine (jK0 A n C base v a b d l _ h q s r o i p g).mono ?_;rintro e t ⟨rfl,f,j,k⟩;go_wp2
 go_end0
 exact⟨rfl,f,j,k⟩
theorem xP7(V A n C base:Nat)(v)(ws)(b f:Int)(i:Nat)(bl)(w)(g:w.heap[V]?=some (qE4 A n))(h:w.heap[A]?=some (qA6 κ n C v b f))
  (p:w.ownsRow base 117 129 v ws.length (ws.flatMap wcs)) (J:ws.length<=100000) (D:base<=w.heap.size)
  (F:i<n) (G:n<=1000) (E:bl.length=128) (M:V≠A):
  Calls prog 208 #[.pointer (some ⟨V,0,none⟩),.int .i64 i,.agg (enc bl)] w λe j=>e=.returned (.tuple #[])/\∃ d,j.ownsRow base 117 129 d (ws++[(i,bl)]).length ((ws++[(i,bl)]).flatMap wcs)/\
   j.heap[A]?=some (qA6 κ n C d (nx b) (nx f))/\Wr base A w j:=by
 have c0:=ξ g 0;simp at c0;have N:=ζ g;have L:=ζ h;have O:(enc bl).size=128:=by rw[qH1,E]
 have s:=zh p;clear p;go_enter func208,ntmps208;go_wp2_with fail;obtain⟨a,m,k,u,y,z⟩:∃ a,a=w.alloc (.cells (enc bl) 288)/\Kp [A] w a/\Ϙ a A (qA6 κ n C v b f)/\Ϙ a w.heap.size (.cells (enc bl) 288)/\Ϙ a V (qE4 A n):=
  ⟨_,rfl,kF.alloc _,ρ _ h,υ _ _,ρ _ g⟩
 rw[<-m];clear m c0;have c0:=ξ z 0;simp at c0;have H:qB0 (enc bl) 0 128=enc bl:=by rw[qP2,dZ,tL oM]
 have P:∀ W:World,(method 513 27 (ϖ A) "Write").run prog W=.ok (328,ϖ A) W:=λ_=>by kernel_rfl
 have l:=k.drew;have Q:=k.size;have r:=zh (qI5 s l (λq I c t K e=>by rw[mS I,h] at e;cases e;decide))
 go_region_with (go_at_call 328;go_must (refine (kR4 A n C v base ws.length (ws.flatMap wcs) b f i w.heap.size 0 128 (enc bl) 288 a.drew u F G y oM (qJ4 bl) oM r (by show base<=a.heap.size;omega) J).mono ?_);rintro e R ⟨rfl,d,o,x,B⟩)
 go_wp2
 go_end0
 refine⟨rfl,d,?_,x,(Wr.ofKp l D).trans B⟩;rw[H] at o;rw[lA,fA];have e:List.flatMap wcs [(i,bl)]=.int .i64 (i:Int)::(enc bl).toList:=by simp[wcs,enc]
 rw[e];exact o
variable {κ:Nat}
theorem Wr.tail{base A:Nat}{a w w'}{S}(h:Wr base A a w)(hK:Kp S w w')(g:∀ k∈S,a.heap.size<=k)(j:base<=a.heap.size):Wr base A a w':=
 ⟨hK.os.trans h.os,hK.tape.trans h.tape,hK.output.trans h.output,lT h.size hK.size,λk b d=>(hK.block k (by have:=h.size;omega) (λf=>by have:=g k f;omega)).trans (h.low k b d),λk c t i e b d=>hK.heap (h.oth k c t i e b d) (λf=>by have:=g k f;have:=ζ e;omega)⟩
theorem kA0(p)(h:qC3 p):∀ x∈qD7 p,0<=x/\x<256:=by
 obtain⟨b,c,d⟩:=h;intro x a;simp only[qD7,List.mem_append,List.mem_singleton] at a;rcases a with (rfl|a)|a
 .omega
 .exact zT7 _ x a
 .exact zT7 _ x a
theorem jT4(h)(b:h.key.size<=8):∀ x∈qD9 h,0<=x/\x<256:=by
 intro x a;simp only[qD9,List.mem_append,List.mem_singleton] at a;rcases a with ((a|a)|rfl)|a
 .exact qK9 _ _ x a
 .exact qK9 _ _ x a
 .omega
 .exact zT7 _ x a
theorem qG5(c:Int)(ps)(hs)(g:0<=c)(h:c<256)(f:ps.length+hs.length<=255)(e:∀ p∈ps,qC3 p)(d:∀ p∈hs,p.key.size<=8):∀ x∈qA3 c ps hs,0<=x/\x<256:=by
 intro x a;simp only[qA3,qL5,List.mem_append,mC,lN,or_false,List.mem_flatMap] at a;rcases a with (((rfl|rfl)|⟨p,b,a⟩)|⟨p,b,a⟩)|a
 .omega
 .omega
 .exact kA0 p (e p b) x a
 .exact jT4 p (d p b) x a
 .rw[List.eq_of_mem_replicate a];omega
theorem xB8(xs:List Int)(h:∀ x∈xs,0<=x/\x<256):qC0 (toB xs)=u8s xs:=by
 unfold qC0 toB u8s;rw[List.map_map];refine List.map_congr_left λx a=>?_;have b:=h x a;simp only[Function.comp]
 congr 1
 have e:(UInt8.ofNat x.toNat).toNat=x.toNat:=by
  rw[UInt8.toNat_ofNat'];omega
 rw[e];omega
theorem qH5(xs:List Int):(toB xs).length=xs.length:=by simp[toB]
theorem jV7(V A n C base:Nat)(v)(ws)(x P:Int)(i:Nat)(q:Nat)(a:Int)(vp vl)(ps)(hs)(w)
  (r:w.heap[q]?=some (χ a vp vl)) (J:0<=a) (K:a<256)
  (ae:Slc w 185 2 vp ps.length (qA4 ps)) (ad:Slc w 87 4 vl hs.length (qA9 hs)) (L:2+meas θ ps+meas φ hs<=128) (I:ps.length+hs.length<=255)
  (N:∀ p∈ps,qC3 p) (M:∀ p∈hs,p.key.size<=8/\0<=p.b/\p.b<=1000000/\0<=p.s)
  (G:w.heap[V]?=some (qE4 A n)) (h:w.heap[A]?=some (qA6 κ n C v x P))
  (hv:w.ownsRow base 117 129 v ws.length (ws.flatMap wcs)) (ao:ws.length<=100000) (hb:base<=w.heap.size) (hi:i<n) (hn:n<=1000) (al:V≠A):
  Calls prog 240 #[.pointer (some ⟨q,0,none⟩),.pointer (some ⟨V,0,none⟩),.int .i64 i] w λe O=>e=.returned (.agg #[.int .i64 i,.int .u64 (fnv (qA3 a ps hs))])/\
   ∃ u,O.ownsRow base 117 129 u (ws++[(i,toB (qA3 a ps hs))]).length ((ws++[(i,toB (qA3 a ps hs))]).flatMap wcs)/\
   O.heap[A]?=some (qA6 κ n C u (nx x) (nx P))/\Wr base A w O:=by
 have H:=qG5 a ps hs J K I N (λp hp=>(M p hp).1);have o:=qQ0 a ps hs L;have k:=zh (λW hK=>
  qY3 q a vp vl ps hs W (hK.hp r) J K (ae.keep0 hK) (ad.keep0 hK) L I N M)
 obtain⟨xs,s⟩:=eX (qA3 a ps hs);rw[<-s] at H o k;have HG:=zh s;rw[<-s];have Q:=zh H;have HV:=zh hv;have aq:=ζ h;have aw:=ζ G;clear r ae ad L I N M H hv J K s;have aa:(u8s xs).toArray=enc (toB xs):=by unfold enc;rw[xB8 xs Q.out]
 rw[aa] at k;clear aa;go_enter func240,ntmps240;go_wp2_with fail;obtain⟨w0,af,U,B,ax⟩:=qD5 w (.cells #[ϊ 0,.int .u64 0] 84);rw[<-af];clear af;refine (k w0 B).mono ?_;rintro e b ⟨rfl,l⟩;have E:=B.tr l;have X:=l.hp U;have ay:=l.size;clear l U B k;have ab:(enc (toB xs)).size=128:=by rw[qH1,qH5,o]
 go_wp2_with fail;have F:=υ b (.cells zeroCells288 288);rw[qQ3 F (by simp[qK4,ab]) (qJ4 _).one];rw[show (enc (toB xs)).toList.toArray=enc (toB xs) from by simp,qO7 (by rw[qK4,ab])];obtain⟨d,ag,y,Y,f,an⟩:∃ d,d=(b.alloc (.cells zeroCells288 288)).setRow b.heap.size (enc (toB xs))/\Ϙ d b.heap.size (.cells (enc (toB xs)) 288)/\Ϙ d w.heap.size (.cells #[ϊ 0,.int .u64 0] 84)/\Kp [] w d/\d.heap.size=b.heap.size+1:=
  ⟨_,rfl,setRow_heap _ _ _ _ _ _ F,(setRow_other _ _ _ _ oM).trans (ρ _ X),(E.alloc _).setRow (Or.inr (by have:=E.size;omega)) _,sM⟩
 rw[<-ag];clear ag F X;have am:qB0 (enc (toB xs)) 0 128=enc (toB xs):=by rw[qP2,dZ,tL (by rw[qH5];omega)]
 go_wp2_with (
  with_reducible refine qV2 (t:=288) ?_ 128 ?_ b.heap.size 0 ?_ (enc (toB xs)) 288 (0,0) ?_ ?_ ?_
  .kernel_rfl
  .kernel_rfl
  .rfl
  .exact y
  .omega)
 have Z:=f.hp G;have S:=f.hp h;refine (xP7 V A n C base v ws x P i (toB xs) d Z S (qI5 HV f (Apt.nil _ _)) ao (by have:=f.size;omega) hi hn (by rw[qH5,o]) al).mono ?_;rintro e w3 ⟨rfl,u,ac,T,m⟩;have ar:=an;have z:=m.oth _ _ _ _ y dC oM;have g:=m.oth _ _ _ _ Y dC oM;have ai:=zh ac;have ah:=zh T;have aj:=zh ((Wr.ofKp (f.mono sM) hb).trans m);have av:=ζ g;have au:=ζ z;clear ac T m y Y Z S am f E G h;go_wp2_with fail;refine (zB9 b.heap.size 0 128 128 xs w3 o oM (λj hj=>?_)).mono ?_
 .rw[ξ z];unfold enc;rw[<-qX5 xs Q.out];simp only[Nat.zero_add,zG,u8s,List.getElem?_map,List.getD];rw[gQ oM];rfl
 rintro e w4 ⟨rfl,rfl⟩;have r0:=ξ g;have ap:=ψ g;have R:=zh g;clear g z;go_wp2;have D:Kp [w.heap.size] w4 ((w4.setCell ⟨w.heap.size,0,none⟩ (ϊ (i:Int))).setCell ⟨w.heap.size,1,none⟩ (.int .u64 (fnv xs))):=(kF.sc _).sc _;have ak:=μ (μ R 0 (ϊ (i:Int))) 1 (.int .u64 (fnv xs));refine bodyPost_ret (results_cell_row results240 _ _ w.heap.size 84 #[ϊ (i:Int),.int .u64 (fnv xs)] (0,0) _ rfl ak underlying84 rfl kR) rfl ⟨rfl,u,?_,D.ho ah,aj.tail D sM hb⟩;exact qI5 ai D (λq r c t fr e=>by rw[mS r,R.out] at e;cases e;decide)
def StT(T:TypeId)(w w':World):Prop:=∀ (k:Nat) (c:Array Value) (t:TypeId) (fr:Nat × Nat),w.heap[k]?=some (.cells c t fr)→t≠T→w'.heap[k]?=some (.cells c t fr)
theorem StT.refl(T)(w):StT T w w:=λ_ _ _ _ h _=>h
theorem StT.kp{T}{a b c}(h:StT T a b)(k:Kp [] b c):StT T a c:=λq x t d e f=>k.heap (h q x t d e f) sM
theorem StT.grown{T}{a w w'}{base:Nat}{sz:Nat}{v}{n:Nat}{xs:List Value}(s:StT T a w)(h:w.ownsRow base T sz v n xs)(d:w.grownBy w' v.ownBlock):StT T a w':=λq x t c e b=>qT5 h d (s q x t c e b) b
theorem kE2{w}{g a k cap:Nat}{cur}{t}{fr}{l}(d:w.heap[g]?=some (.cells cur t fr))(f:a+k<=cur.size)(h:qB0 cur a k=(qC0 l).toArray):
  Sem.run prog (convert 118 9 (.slice (some ⟨g,a,none⟩) k cap)) w=.ok (.string ⟨l.toArray⟩) w:=by
 rw[run_convert_bytes_string w _ _ _ _ _ _ underlying118 underlying5 underlying9];have e:(l.map (λb=>(b.toNat:Int))).map (Value.int .u8)=qC0 l:=by simp[qC0]
 have c:=zB6 (P:=prog) (o:=a) (n:=k) d f;rw[h,<-e] at c;rw[run_bytesToString w _ _ _ _ c,zN6];simp
theorem zT2{w}{g a k cap:Nat}{cur}{t}{fr}{s}(b:w.heap[g]?=some (.cells cur t fr))(c:a+k<=cur.size)(d:qB0 cur a k=(qC0 s.data.toList).toArray):
  Sem.run prog (convert 118 9 (.slice (some ⟨g,a,none⟩) k cap)) w=.ok (.string s) w:=by
 rw[kE2 b c d,Array.toArray_toList]
theorem qS8(s):toB (qM4 s)=s.data.toList:=by
 unfold toB qM4;rw[List.map_map];refine Eq.trans (List.map_congr_left (g:=id) λb _=>?_) (List.map_id _);simp only[Function.comp,Int.toNat_natCast,id];exact UInt8.ofNat_toNat
theorem jA9(bl)(a:Nat)(p)(i:qC3 p)(j:(bl.drop a).take (θ p)=toB (qD7 p)):
  (enc bl)[a]?=some (.int .u8 ((p.k.size:Int)*16+p.v.size))/\qB0 (enc bl) (a+1) p.k.size=(qC0 p.k.data.toList).toArray/\qB0 (enc bl) (a+1+p.k.size) p.v.size=(qC0 p.v.data.toList).toArray:=by
 obtain⟨k,m,n⟩:=i;have o:θ p=1+p.k.size+p.v.size:=rfl;have d:p.k.data.toList.length=p.k.size:=Array.length_toList;have q:p.v.data.toList.length=p.v.size:=Array.length_toList;have e:(bl.drop a).take (θ p)=[UInt8.ofNat ((p.k.size:Int)*16+p.v.size).toNat]++p.k.data.toList++p.v.data.toList:=by
  rw[j,qD7,qI0,qI0,qS8,qS8];rfl
 obtain⟨l,b⟩:=eX (bl.drop a);rw[<-b] at e;refine⟨?_,?_,?_⟩
 .have c:l[0]?=some (UInt8.ofNat ((p.k.size:Int)*16+p.v.size).toNat):=by
   have:=congrArg (λz=>z[0]?) e;simp only[List.getElem?_take,aA,cA,nA,zH] at this;rw[if_pos oM] at this;exact this
  rw[b,List.getElem?_drop,Nat.add_zero] at c;unfold enc qC0;rw[zG,List.getElem?_map,c];simp only[Option.map_some,Option.some.injEq,Value.int.injEq,true_and];rw[UInt8.toNat_ofNat'];omega
 .rw[qP2];have f:(bl.drop (a+1)).take p.k.size=p.k.data.toList:=by
   rw[<-List.drop_drop,<-b];have h:=congrArg (λz=>(z.drop 1).take p.k.size) e;simp only[List.drop_take,List.take_take,aA,cA,nA,List.drop_succ_cons,dZ] at h;rw[Nat.min_eq_left oM,List.take_left' d] at h;exact h
  rw[f];rfl
 .rw[qP2];have g:(bl.drop (a+1+p.k.size)).take p.v.size=p.v.data.toList:=by
   rw[Nat.add_assoc,<-List.drop_drop,<-b];have h:=congrArg (λz=>(z.drop (1+p.k.size)).take p.v.size) e;simp only[List.drop_take,List.take_take] at h;rw[Nat.min_eq_left oM] at h;rw[h,List.drop_left' (by simp[d];omega),tL oM]
  rw[g];rfl
theorem xO0(B base c:Nat)(bl)(p)(ps)(v)(w)(u:w.heap[B]?=some (.cells (enc bl) 288))(V:bl.length=128)(hp:qC3 p)(ba:c+θ p<=128)
  (ae:(bl.drop c).take (θ p)=toB (qD7 p)) (hv:w.ownsRow base 185 2 v ps.length (qA4 ps)) (hb:base<=w.heap.size) (hl:ps.length<=1000):
  Calls prog 274 #[v,.slice (some ⟨B,c,none⟩) (128-c) (128-c)] w λe M=>∃ v' r,e=.returned (.tuple #[v',r,.bool true])/\(c+θ p<128->r=.slice (some ⟨B,c+θ p,none⟩) (128-(c+θ p)) (128-(c+θ p)))/\(∃ o,r=.slice (some ⟨B,o,none⟩) (128-(c+θ p)) (128-(c+θ p)))/\
   M.ownsRow base 185 2 v' (ps.length+1) (qA4 (ps++[p]))/\Below base w M/\StT 185 w M:=by
 obtain⟨ab,ac,ad⟩:=hp;have bb:θ p=1+p.k.size+p.v.size:=rfl;obtain⟨m,I⟩:=eX (128-c);obtain⟨x,hx⟩:∃ x:Int,x=(p.k.size:Int)*16+p.v.size:=⟨_,rfl⟩;obtain⟨a,X⟩:∃ a:Nat,a=p.k.size:=⟨_,rfl⟩;obtain⟨b,ah⟩:∃ b:Nat,b=p.v.size:=⟨_,rfl⟩;have a7:x / 16=(a:Int):=oM
 have bf:x % 16=(b:Int):=oM
 have a9:(0:Int)<(m:Int):=oM
 have a8:((m:Int) == 0)=false:=sO
 have a0:¬(a:Int)<1:=oM
 have a1:¬(8:Int)<(a:Int):=oM
 have a2:¬(12:Int)<(b:Int):=oM
 have a3:¬(m:Int)<1+(a:Int)+(b:Int):=oM
 have bd:=jA9 bl c p ⟨ab,ac,ad⟩ ae;obtain⟨af,J,A⟩:=bd;have b0:w.cell? ⟨B,c,none⟩=some (.int .u8 x):=by rw[ξ u,hx];exact af
 rw[<-X] at J A;rw[<-ah] at A;have av:=zh J;have P:=zh A;have l:Hid (m=128-c/\c+(1+a+b)<=128):=⟨I,oM⟩;have ar:Hid (θ p=1+a+b):=by show _=_;omega
 have HB:=zh u;have Q:=zh hv;have N:=zh V;have bh:=ζ u;rw[<-I,ar.out];clear ae hv u hx X ah I af J A bb ba V ab ac ad;go_enter func274,ntmps274;go_wp2_with fail
 go_quiet (fail)
 go_wp2_with fail;obtain⟨k,ai,R,ax,ag⟩:∃ k,k=w.drewN nq/\Ϙ k B (.cells (enc bl) 288)/\Kp [] w k/\k.heap.size=w.heap.size:=⟨_,rfl,HB,(Kp.refl _ _).drewN _,rfl⟩;rw[<-ai];clear ai b0 a7 bf a9 a8 a0 a1 a2 a3;have bk:a<=m-1:=by have:=l.out;omega
 have bn:a+b<=m-1:=by have:=l.out;omega
 have bm:(a:Int)<=((m-1:Nat):Int):=oM
 have bo:(a:Int)+(b:Int)<=((m-1:Nat):Int):=oM
 have bj:(a:Int)<=(a:Int)+(b:Int):=oM
 have bu:IntKind.i64.wrap ((a:Int)+(b:Int))=(a:Int)+(b:Int):=by rw[IntKind.wrap_i64];have:=l.out;omega
 obtain⟨L,Z⟩:=eX (if m-1=a then c+1 else c+1+a)
 have D:=zh Z;clear Z;have bt:((a:Int)+(b:Int)).toNat-a=b:=oM
 have a4:c+1+a<=(enc bl).size:=by rw[qH1,N.out];have:=l.out;omega
 have a5:c+1+a+b<=(enc bl).size:=by rw[qH1,N.out];have:=l.out;omega
 have a6:L+b<=(enc bl).size:=by
  rw[D.out];split
  .omega
  .exact a5
 have au:Hid (qB0 (enc bl) L b=(qC0 p.v.data.toList).toArray):=by
  show _=_;rw[D.out];split
  .rename_i he;have be:b=0:=oM
   have h:=P.out;rw[be] at h |-;rw[<-h];simp[qB0]
  .exact P
 have d:Ϙ k.drew B (.cells (enc bl) 288):=R;refine wp_region_held_drew (S:=λW=>Ϙ W B (.cells (enc bl) 288)) kR d (λ_=>?_);refine zU 0 (.slice (some ⟨B,c+1,none⟩) (m-1) (m-1)) d ?_;refine zU 1 (ϊ a) d ?_;refine zU 2 (.slice (some ⟨B,c+1,none⟩) a (m-1)) d ?_;refine zV 3 (.string p.k) rfl (λW i=>by have h:=zT2 (cap:=m-1) i a4 av.out;clear i;go_simp) d ?_;refine zU 4 (.slice (some ⟨B,c+1,none⟩) (m-1) (m-1)) d ?_;refine zU 5 (ϊ a) d ?_;refine zU 6 (ϊ a) d ?_;refine zU 7 (ϊ b) d ?_;refine zU 8 (ϊ ((a:Int)+(b:Int))) d ?_;refine zV 9 (.slice (some ⟨B,L,none⟩) b (m-1-a)) rfl (λW i=>by clear i;go_simp;rw[D.out];split<;>rfl) d ?_;refine zV 10 (.string p.v) rfl (λW i=>by have h:=zT2 (cap:=m-1-a) i a6 au.out;clear i;go_simp) d ?_;refine zU 11 (.agg #[.string p.k,.string p.v]) d ?_;refine zU 12 (.agg #[.string p.k,.string p.v]) d ?_;refine zq 13 λK hK=>?_;go_simp;obtain⟨n,aj,s,E,ay,bc⟩:∃ n,n=(k.alloc (.cells ϝ 185)).drew/\Ϙ n w.heap.size (.cells ϝ 185)/\Ϙ n B (.cells (enc bl) 288)/\Kp [] w n/\n.heap.size=w.heap.size+1:=
  ⟨_,rfl,by rw[<-ag];exact υ k _,ρ _ R,(ax.alloc _).drew,by simp[ag]⟩
 rw[<-aj];clear aj;refine hK.out _ _ E (λ_=>?_);clear hK K d
 try simp only[zZ]
 refine zq 14 λK hK=>?_;have z0:=ξ s;have f0:=ψ s;have bi:=ζ s;have aq:=zh s;have am:=zh E;clear s E;go_simp;obtain⟨f,ak,G,T,az,br⟩:∃ f,f=(n.setCell ⟨w.heap.size,0,none⟩ (.string p.k)).setCell ⟨w.heap.size,1,none⟩ (.string p.v)/\Ϙ f w.heap.size (.cells #[.string p.k,.string p.v] 185)/\Ϙ f B (.cells (enc bl) 288)/\Kp [] w f/\f.heap.size=w.heap.size+1:=
  ⟨_,rfl,μ (μ aq 0 _) 1 _,(qB2 oM _ _).trans ((qB2 oM _ _).trans am),(ay.setCell (Or.inr (Nat.le_refl _)) _).setCell (Or.inr (Nat.le_refl _)) _,by simp[bc]⟩
 rw[<-ak];clear ak z0 f0;refine hK.out _ _ T (λ_=>?_);refine zd ?_
 try simp only[zZ]
 go_wp2_with fail;obtain⟨C,Y⟩:=eX (if m-1=a+b then c+1 else c+1+(a+b))
 have O:=zh Y;clear Y;have bg:(0:Int)<=(a:Int)+(b:Int):=oM
 have bp:((a:Int)+(b:Int)).toNat=a+b:=oM
 have j:Ϙ f.drew w.heap.size (.cells #[.string p.k,.string p.v] 185):=G;refine wp_region_held_drew (S:=λW=>Ϙ W w.heap.size (.cells #[.string p.k,.string p.v] 185)) kR j (λ_=>?_);refine zU 0 v j ?_;refine zW 1 (.agg #[.string p.k,.string p.v]) j id ?_;refine zU 4 (.slice (some ⟨B,c+1,none⟩) (m-1) (m-1)) j ?_;refine zU 5 (ϊ a) j ?_;refine zU 6 (ϊ b) j ?_;refine zU 7 (ϊ ((a:Int)+(b:Int))) j ?_;refine zV 8 (.slice (some ⟨B,C,none⟩) (m-1-(a+b)) (m-1-(a+b))) rfl (λW i=>by clear i;go_simp;rw[O.out];split<;>rfl) j ?_;refine zq 2 λK hK=>?_;go_simp;obtain⟨q,al,U,H,F,bs⟩:∃ q,q=(f.alloc (.cells #[.string p.k,.string p.v] 185)).drew/\Ϙ q f.heap.size (.cells #[.string p.k,.string p.v] 185)/\Ϙ q w.heap.size (.cells #[.string p.k,.string p.v] 185)/\Kp [] w q/\q.heap.size=f.heap.size+1:=
  ⟨_,rfl,υ f _,ρ _ G,(az.alloc _).drew,sM⟩
 rw[<-al];clear al;refine hK.out _ _ H (λ_=>?_);clear hK K j
 try simp only[zZ]
 have z:=qI5 Q F (Apt.nil _ _);refine zq 3 λK hK=>?_;refine zB8 rfl rfl (.agg #[.string ⟨#[]⟩,.string ⟨#[]⟩]) 2 32 underlying186 zO3 rfl dC base v ps.length (qA4 ps) (by simp[Act.eval]) z f.heap.size 0 1 1 #[.string p.k,.string p.v] 185 (0,0) (by simp[Act.eval]) U sM (by simp[qB0,Value.oneCell']) oM oM oM ?_;intro v4 w4 aa y _;have t:Ϙ w4 w.heap.size (.cells #[.string p.k,.string p.v] 185):=by
  refine (y.block _ oM ?_).trans H;rcases Q.2 with⟨rfl,_⟩|⟨g,cap,cur,rfl,_,hh,_⟩
  .simp[Value.ownBlock]
  .intro e;simp only[Value.ownBlock,Option.some.injEq] at e;have:=ζ hh;omega
 have ap:Hid (w4.ownsRow base 185 2 v4 (ps.length+1) (qA4 (ps++[p]))):=by
  have e:qA4 (ps++[p])=qA4 ps++(qB0 #[.string p.k,.string p.v] 0 (1*2)).toList:=by simp[qA4,pcs,qB0]
  show World.ownsRow _ _ _ _ _ _ _;rw[e];exact aa
 have ao:=zh ((F.below hb sM).grown y oM (qI4 z));have aw:=zh (((StT.refl _ w).kp F).grown z y);refine hK.out _ _ t (λ_=>?_);clear hK K aa y z
 try simp only[zZ]
 refine zq 9 λK hK=>?_;go_simp;refine zk hK t ?_
 refine zq 10 λK hK=>?_;go_simp;refine zk hK t ?_
 refine zq 11 λK hK=>?_;go_simp;refine zk hK t ?_
 refine zd ?_;have an:Hid (c+(1+a+b)<128->(Value.slice (some ⟨B,C,none⟩) (m-1-(a+b)) (m-1-(a+b)))=.slice (some ⟨B,c+(1+a+b),none⟩) (128-(c+(1+a+b))) (128-(c+(1+a+b)))):=by
  intro bq;have h1:=l.out;rw[O.out,if_neg oM,show c+1+(a+b)=c+(1+a+b) from by omega,show m-1-(a+b)=128-(c+(1+a+b)) from by omega]
 clear t U H G T;go_wp2
 go_ret3
 refine⟨v4,_,rfl,an,⟨C,?_⟩,ap,ao,aw⟩;show Value.slice (some ⟨B,C,none⟩) (m-1-(a+b)) (m-1-(a+b))=_;rw[show m-1-(a+b)=128-(c+(1+a+b)) from by have:=l.out;omega]
end Go.Proofs.YtdohpenfkdckiaaGreatDoor
