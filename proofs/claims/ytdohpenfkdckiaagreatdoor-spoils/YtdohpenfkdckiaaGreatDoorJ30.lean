import Derived.Test.YtdohpenfkdckiaaGreatDoorJ28
import Derived.Test.YtdohpenfkdckiaaGreatDoorJ29
set_option linter.all false
set_option maxRecDepth 100000
set_option maxHeartbeats 20000000
namespace Go.Proofs.YtdohpenfkdckiaaGreatDoor
open Go.Proofs.Tryz
open Go.RowKit
def IsT(N:Nat)(l:List UInt8):(n:Nat)→List KV→List HL→Tn n→Prop
 | 0,ps,hs,t=>prs t=ps∧hs=[]
 | n+1,ps,hs,t=>ps=[]∧Both (RLof (fun _ _=>False) (Laid N l n)) hs (η t)
def qI9:Nat→Nat
 | 0=>1
 | n+1=>1+11*qI9 n
theorem IsT.laid{N:Nat}{l}{n b:Nat}{s:Int}{ps}{hs}{t}(h:IsT N l n ps hs t)(f:RawAt l n b s ps hs)(g:2<=b)(i:b<N)(m:n<6):Laid N l n b s t:=by
 have j:=f.len
 cases n with
 | zero=>
  obtain⟨rfl,rfl⟩:=h;rcases f with⟨_,_,a,c,d,e⟩|⟨k,_⟩
  .exact⟨g,i,a,c,d,e,by simpa using j⟩
  .omega
 | succ n=>
  obtain⟨rfl,o⟩:=h;rcases f with⟨k,_⟩|⟨_,_,_,_,_,a,c,d,e⟩
  .omega
  .exact⟨g,i,m,hs,o,a,c,λp q=>(d p q).2.1,e,by simpa using j⟩
theorem zN0{k x}{xs}(d:Sorted xs)(b:∀ p∈xs,kl k p.k=true)(h:kl (qE0 k xs) x=true):kl k x=true/\∀ q∈xs,kl q.k x=true:=by
 rcases List.eq_nil_or_concat xs with rfl|⟨c,p,rfl⟩
 .exact⟨h,λq a=>by cases a⟩
 .rw[List.concat_eq_append] at *;rw[qV5] at h;refine⟨qO6 (b p sM) h,λq a=>?_⟩;rcases mA a with a|a
  .exact qO6 ((pA d).2.2 q a p sM) h
  .rw[mS a];exact h
theorem xM0{a b}(h:¬kl b a=true):Op.bytesLess a.toList b.toList=true\/(Op.bytesLess a.toList b.toList=false/\(a.toList == b.toList)=true):=by
 cases hx:kl a b with
 | true=>exact .inl hx
 | false=>
  have e:=qZ8 hx (by simpa using h);subst e;exact .inr ⟨hx,sM⟩
def zD2(V A N C:Nat)(l:List UInt8)(writes:Int)(n:Nat):Prop:=
 ∀ (ps:List KV) (hs:List HL) (q G:Nat) (lh:HL) (bl:Int) (k:ByteArray) (b:Nat) (s:Int) (w:World),Devl V A N C l writes w→w.heap[G]?=some (qB3 V bl k)→RawM w q n ps hs→RawAt l n b s ps hs→0≤bl→bl+qI9 n≤1000000→
  Calls prog 210 #[.pointer (some ⟨G,0,none⟩),qC1 lh,.pointer (some ⟨q,0,none⟩)] w fun e w'=>(e=.panicked cor∨e=.returned (.tuple #[])∧∃ t:Tn n,IsT N l n ps hs t∧Good n lh.key t∧(∀ p∈cont n t,kl k p.k=true)∧qB1 n t≤qI9 n∧w'.heap[G]?=some (qB3 V (bl+qB1 n t-1) (qE0 k (cont n t))))∧Devl V A N C l writes w'∧Kp [A,G] w w'
theorem kP3(V A N C:Nat)(l)(a8:Int):zD2 V A N C l a8 0:=by
 intro ps hs q G g z k b s w hd hG M af bx bh;have az:=af.len;obtain⟨rfl,a2,bj⟩:hs=[]/\(∀ p∈ps,qC3 p)/\2+meas θ ps<=128:=by
  rcases af with⟨_,h,h1,h3,h4,h5⟩|⟨h0,_⟩
  .exact⟨h,h4,h5⟩
  .omega
 obtain⟨vp,vl,O,ak,a3⟩:=M;obtain⟨bs,cp,rfl⟩:=qK2 ak;obtain⟨lb,lc,rfl⟩:=qK2 a3;have ba:Hid (Sorted ps->(∀ p∈ps,kl p.k g.key=false/\kl k p.k=true)->∃ t:Tn 0,IsT N l 0 ps [] t/\Good 0 g.key t/\(∀ p∈cont 0 t,kl k p.k=true)/\qB1 0 t<=qI9 0/\qB3 V z (qE0 k ps)=qB3 V (z+qB1 0 t-1) (qE0 k (cont 0 t))):=λh1 h2=>
  ⟨ps,⟨rfl,rfl⟩,⟨h1,λp m=>⟨a2 p m,(h2 p m).1⟩,oM⟩,λp m=>(h2 p m).2,lR,by simp[qB1,cont]⟩
 have HD:=zh hd;have aq:=zh ak;have hz:([]:List HL).length=0:=rfl;rw[hz] at O;have HQ:=zh O;have bn:=qA1 O hG dC;have bv:=ζ hG;have b1:=ζ O;have U:=zh hG;have bz:ps.length<=126:=by simpa using az
 have q1:=ξ O;simp only[χ,zG,zH,zI] at q1;clear hd hG O ak a3 af a2 bj az hz bh;rw[qC1];go_enter func210,ntmps210;go_wp2_with fail;obtain⟨w0,a4,au,ar,bo⟩:=qD5 w (.cells (ϡ g) 87);rw[<-a4];have an:=zh au;have ac:=zh ar;clear a4 au ar q1
 go_loopw [15] (λi wr=>∃ (j:Nat),j<=ps.length/\i=.int .i64 j/\w.heap.size<wr.heap.size/\Hid (Sorted (ps.take j)/\∀ p∈ps.take j,kl p.k g.key=false/\kl k p.k=true)/\Hid (Ϙ wr G (qB3 V z (qE0 k (ps.take j))))/\Hid (Ϙ wr w.heap.size (.cells (ϡ g) 87))/\Hid (Kp [G] w wr)) (λi _=>ps.length-(intOf i).toNat)
 case atStart=>exact⟨0,zL _,rfl,oM,⟨by simp[Sorted],sM⟩,ac.hp U,an,ac.mono sM⟩
 case round=>
  obtain⟨j,hj,rfl,b4,u,Y,ao,P⟩:=hrel;clear an ac bo;by_cases ah:j<ps.length
  .obtain⟨gb,a7,bp,cur,fr,hv,bi,aj,aw⟩:=aq.out.pair oM;obtain⟨c0,o⟩:=aw j ah;simp only[vJ,true_and] at hv;obtain⟨rfl,rfl⟩:=hv;have M:=P.out.heap aj (by simp;exact qA1 aj U dC);have a0:=ξ M (a7+j*2);rw[c0] at a0;have a1:=ξ M (a7+j*2+1);rw[o] at a1;have bk:=ζ M;have bm:(j:Int)<(ps.length:Int):=oM
   have am:Hid (qE0 k (ps.take (j+1))=ps[j].k):=by
    show qE0 k (ps.take (j+1))=ps[j].k;rw[tA ah,qV5]
   have F:Hid (kl (qE0 k (ps.take j)) ps[j].k=true->kl ps[j].k g.key=false->Sorted (ps.take (j+1))/\∀ p∈ps.take (j+1),kl p.k g.key=false/\kl k p.k=true):=by
    intro h1 h2;obtain⟨h3,h4⟩:=zN0 u.1 (λp m=>(u.2 p m).2) h1;rw[tA ah];refine⟨Sorted.append.2 ⟨u.1,by simp[Sorted],λx hx y hy=>by rw[mS hy];exact h4 x hx⟩,λp m=>?_⟩;rcases mA m with m|m
    .exact u.2 p m
    .rw[mS m];exact⟨h2,h3⟩
   obtain⟨E,ay⟩:=eX (qE0 k (ps.take j));rw[<-ay] at F Y;generalize ps[j]=x at a0 a1 am F;clear aw bi aj c0 o ay u;go_wp2_with fail;obtain⟨n,a5,H,I,b3⟩:=qD5 wr (.cells #[.string x.k,.string x.v] 185);rw[<-a5];clear a5 a0 a1 M bk;have r:=I.hp Y.out;have L:=I.hp ao.out;have bt:=ζ r;have bw:=ζ L;have bq:=ζ H;have X:=zh r;have aa:=zh L;have T:=zh H;have Z:=zh (P.tr I);have HE:Hid (∀ W,Kp [] n W->Devl V A N C l a8 W/\Kp [A,G] w W):=λW hW=>⟨qD0 HD (Z.tr hW) (OffD.one U dC),(Z.tr hW).mono sM⟩;by_cases o:kl E x.k=true
   .by_cases Q:kl x.k g.key=false
    .obtain⟨ab,ag⟩:=qZ7 o;have ax:Op.bytesLess x.k.toList g.key.toList=false:=Q;have bg:=Hid.mk' (F o Q);have g0:=ξ r 0;have g1:=ξ r 1;have g2:=ξ r 2;simp only[qB3,zG,zH,zI] at g0 g1 g2;have p0:=ϻ L 0;have z0:=ξ H;clear r L H I F o Q
     go_quiet (first | (go_at_call 253;exact Calls.quiet_of_same (qL4 _)))
     obtain⟨R,a6,J⟩:∃ R,R=n.drewN nq/\Kp [] n R:=⟨_,rfl,kF.drewN _⟩;rw[<-a6];clear a6 g0 g1 g2 p0 z0 ab ag ax;have B:=J.hp X.out;have av:=J.hp aa.out;have ad:=J.hp T.out;have bu:=ζ B;have br:=ζ ad;have b2:=J.size;have g0:=ξ B 0;have g1:=ξ B 1;have g2:=ξ B 2;simp only[qB3,zG,zH,zI] at g0 g1 g2;have z0:=ξ ad;have f2:=ψ B 2;have bb:=zh B;have bf:=zh av;have bd:=zh (Z.tr J);clear B av ad J X aa Z T HE;go_wp2;have D:Kp [G] R (R.setCell ⟨G,2,none⟩ (.string x.k)):=kF.sc _;refine⟨⟨j+1,oM,by go_num,by have:=D.size;omega,bg,?_,D.ho bf,bd.tr D⟩,by simp[intOf];omega⟩;show _=_;rw[am.out];exact μ bb 2 _
    .obtain⟨ab,ag⟩:=qZ7 o;have ax:Op.bytesLess x.k.toList g.key.toList=true:=(by simpa using Q:kl x.k g.key=true);clear r L H I F o Q;have d:Ϙ n.drew wr.heap.size (.cells #[.string x.k,.string x.v] 185)/\Ϙ n.drew G (qB3 V z E)/\Ϙ n.drew w.heap.size (.cells (ϡ g) 87):=⟨T,X,aa⟩;refine wp_region_held_drew (S:=λW=>Ϙ W wr.heap.size (.cells #[.string x.k,.string x.v] 185)/\Ϙ W G (qB3 V z E)/\Ϙ W w.heap.size (.cells (ϡ g) 87)) kR d (λ_=>?_);refine zP 0 wr.heap.size 0 d ?_;refine zP 1 wr.heap.size 0 d ?_;refine zV 2 (.string x.k) rfl (λW f=>by have a:=ϻ f.1 0;clear f;go_simp) d ?_;refine zP 3 G 0 d ?_;refine zV 4 (ϖ G) rfl (λW f=>by have c:=ζ f.2.1;clear f;go_simp) d ?_;refine zP 5 G 2 d ?_;refine zV 6 (.string E) rfl (λW f=>by have a:=ξ f.2.1 2;simp only[qB3,zG,zH,zI] at a;clear f;go_simp) d ?_;refine zU 7 (.bool true) d ?_;refine zU 8 (.bool true) d ?_;refine zP 9 wr.heap.size 0 d ?_;refine zP 10 wr.heap.size 0 d ?_;refine zV 11 (.string x.k) rfl (λW f=>by have a:=ϻ f.1 0;clear f;go_simp) d ?_;refine zP 12 w.heap.size 0 d ?_;refine zV 13 (.string g.key) rfl (λW f=>by have a:=ϻ f.2.2 0;clear f;go_simp) d ?_;refine zU 14 (.bool false) d ?_;refine zU 15 (.bool false) d ?_;refine zq 16 λK hK=>?_;go_simp;refine (qP0 _).mono ?_;rintro e w3 ⟨rfl,D⟩;clear hK;go_wp2;obtain⟨e1,e2⟩:=HE.out _ (((Kp.refl [] n).drew).tr D);exact⟨rfl,.inl rfl,e1,e2⟩
   .rcases xM0 o with ab|⟨ab,ag⟩
    all_goals
     clear r L H I F o;have d:Ϙ n.drew wr.heap.size (.cells #[.string x.k,.string x.v] 185)/\Ϙ n.drew G (qB3 V z E)/\Ϙ n.drew w.heap.size (.cells (ϡ g) 87):=⟨T,X,aa⟩;refine wp_region_held_drew (S:=λW=>Ϙ W wr.heap.size (.cells #[.string x.k,.string x.v] 185)/\Ϙ W G (qB3 V z E)/\Ϙ W w.heap.size (.cells (ϡ g) 87)) kR d (λ_=>?_);refine zP 0 wr.heap.size 0 d ?_;refine zP 1 wr.heap.size 0 d ?_;refine zV 2 (.string x.k) rfl (λW f=>by have a:=ϻ f.1 0;clear f;go_simp) d ?_;refine zP 3 G 0 d ?_;refine zV 4 (ϖ G) rfl (λW f=>by have c:=ζ f.2.1;clear f;go_simp) d ?_;refine zP 5 G 2 d ?_;refine zV 6 (.string E) rfl (λW f=>by have a:=ξ f.2.1 2;simp only[qB3,zG,zH,zI] at a;clear f;go_simp) d ?_;refine zU 7 (.bool false) d ?_;refine zU 8 (.bool false) d ?_;refine wpAnyH_take (i:=9) (v:=undef) rfl kR kR kR (λ_ _ _ h=>h) (Or.inr ⟨by rfl,rfl⟩) d ?_;simp only[zZ];refine wpAnyH_take (i:=10) (v:=undef) rfl kR kR kR (λ_ _ _ h=>h) (Or.inr ⟨by rfl,rfl⟩) d ?_;simp only[zZ];refine wpAnyH_take (i:=11) (v:=undef) rfl kR kR kR (λ_ _ _ h=>h) (Or.inr ⟨by rfl,rfl⟩) d ?_;simp only[zZ];refine wpAnyH_take (i:=12) (v:=undef) rfl kR kR kR (λ_ _ _ h=>h) (Or.inr ⟨by rfl,rfl⟩) d ?_;simp only[zZ];refine wpAnyH_take (i:=13) (v:=undef) rfl kR kR kR (λ_ _ _ h=>h) (Or.inr ⟨by rfl,rfl⟩) d ?_;simp only[zZ];refine wpAnyH_take (i:=14) (v:=undef) rfl kR kR kR (λ_ _ _ h=>h) (Or.inr ⟨by rfl,rfl⟩) d ?_;simp only[zZ];refine zU 15 (.bool false) d ?_;refine zq 16 λK hK=>?_;go_simp;refine (qP0 _).mono ?_;rintro e w3 ⟨rfl,D⟩;clear hK;go_wp2;obtain⟨e1,e2⟩:=HE.out _ (((Kp.refl [] n).drew).tr D);exact⟨rfl,.inl rfl,e1,e2⟩
  .have bm:¬(j:Int)<(ps.length:Int):=oM
   have e:ps.take j=ps:=tL oM;have ae:=Y.out;rw[e] at ae;have bc:=Hid.mk' ae;have al:=u.out;rw[e] at al;have ap:=Hid.mk' al;have ai:=P.out.heap HQ (by simpa using bn);have b0:=ζ ai;have q1:=ξ ai;simp only[χ,zG,zH,zI] at q1;have be:Hid (Kp [A,G] w wr):=P.out.mono sM;have a9:=zh (qD0 HD P (OffD.one U dC));clear e ae Y ai aq ao al u;go_wp2_with fail
   go_loopw [48] (λi w'=>i=.int .i64 0/\w'=wr) (λ_ _=>0)
   case atStart=>exact⟨rfl,rfl⟩
   case round=>
    obtain⟨rfl,rfl⟩:=hrel;go_wp2
    go_end0
    obtain⟨t,t1,t2,t3,t4,t5⟩:=ba.out ap.1 ap.2;exact⟨.inr ⟨rfl,t,t1,t2,t3,t4,by rw[<-t5];exact bc⟩,a9,be⟩
theorem jA4{α c:Type}{R:α->c->Prop}{a:List α}{b:List c}{x:α}{y:c}(h:Both R a b)(e:R x y):Both R (a++[x]) (b++[y]):=h.append ⟨rfl,λi d f=>by
 have:i=0:=by simpa using d
 subst this;exact e⟩
structure SoFar(N:Nat)(l:List UInt8)(n:Nat)(lo k:ByteArray)(hs:List HL)(ls:List (Lnk (Tn n))):Prop where
 both:Both (RLof (fun _ _=>False) (Laid N l n)) hs ls
 good:Good (n+1) lo (ls:Tn (n+1))
 keys:∀ p∈ls.flatMap (fun m=>cont n m.sub),kl k p.k=true
 fits:meas qA2 ls=meas φ hs
 few:meas (fun m:Lnk (Tn n)=>qB1 n m.sub) ls≤hs.length*qI9 n
theorem SoFar.nil(N:Nat)(l)(n:Nat)(lo k):SoFar N l n lo k [] []:=
 ⟨⟨rfl,λi h=>(by simp at h)⟩,⟨λm hm=>(by cases hm),λm hm=>(by cases hm),List.Pairwise.nil,(by simp[qD1])⟩,λp hp=>(by simp at hp),(by simp[qD1]),(by simp[qD1])⟩
theorem SoFar.snoc{N:Nat}{l}{n:Nat}{lo k}{hs}{ls}(h:SoFar N l n lo k hs ls){x}{b:Nat}{t}(B:x.b=(b:Int))(d:x.p=none)(z:x.key.size<=8)(A:Laid N l n b x.s t)(C:Good n x.key t)(w:3<=cnt n t)(P:qB1 n t<=qI9 n)
  (E:hs=[]->x.key=lo) (F:hs≠[]->kl (qE0 k (ls.flatMap λm=>cont n m.sub)) x.key=true) (D:∀ p∈cont n t,kl (qE0 k (ls.flatMap λm=>cont n m.sub)) p.k=true) (O:meas φ (hs++[x])<=126):
  SoFar N l n lo k (hs++[x]) (ls++[⟨x.key,some (b,x.s),t⟩]):=by
 have u:Sorted (ls.flatMap λm=>cont n m.sub):=(qK5 (n+1) lo ls h.good).1;have j:=h.both.1;have g:GoodB (Good n) (cnt n) (cont n) lo ls:=h.good;refine⟨jA4 h.both ⟨rfl,B,rfl,d,A⟩,⟨?_,?_,?_,?_⟩,?_,?_,?_⟩
 .intro m c
  cases hls:ls with
  | nil=>
   have e:=List.eq_nil_of_length_eq_zero (by rw[j,hls];rfl);rw[hls] at c;simp only[nA,List.head?_cons,Option.mem_def,Option.some.injEq] at c;rw[<-c];exact E e
  | cons a r=>
   refine g.head m ?_;rw[hls] at c |-;simpa using c
 .intro m c;rcases mA c with c|c
  .exact g.all m c
  .rw[mS c];exact⟨C,w,z⟩
 .refine List.pairwise_append.2 ⟨g.pair,sM,λa f y H=>?_⟩;rw[mS H];have G:hs≠[]:=λe=>by rw[e] at j;have:=List.eq_nil_of_length_eq_zero j.symm;rw[this] at f;cases f
  have v:=(zN0 u h.keys (F G)).2;have s:=λq i=>v q (List.mem_flatMap.2 ⟨a,f,i⟩);obtain⟨o,L,M⟩:=g.all a f;obtain⟨q,i⟩:=qY6 n a.key a.sub o oM;exact⟨qW0 ((qK5 n _ _ o).2 q i).2 (s q i),s⟩
 .have I:=qP9 qA2 ls (⟨x.key,some (b,x.s),t⟩:Lnk (Tn n));have J:=qP9 φ hs x;have K:qA2 (⟨x.key,some (b,x.s),t⟩:Lnk (Tn n))=φ x:=rfl;have:=h.fits;show meas qA2 (ls++[⟨x.key,some (b,x.s),t⟩])<=126;omega
 .intro p d;rw[fA] at d;rcases mA d with d|d
  .exact h.keys p d
  .simp only[fC,List.flatMap_nil,aN] at d;exact (zN0 u h.keys (D p d)).1
 .rw[qP9,qP9,h.fits];rfl
 .rw[qP9,lA,List.length_singleton,Nat.add_mul,Nat.one_mul];have:=h.few;show _+qB1 n t<=_;omega
theorem kP5(V A N C:Nat)(l)(F:Int)(hN:N<=1000)(c9:N*128<=l.length)(cy:C≠A)(cz:V≠A)(n:Nat)(dm:n+1<6)(IH:zD2 V A N C l F n):zD2 V A N C l F (n+1):=by
 intro ps d q G Z bl k b s w hd hG hR cg dk ch;obtain⟨rfl,an,ck,cn⟩:ps=[]/\(∀ p∈d,xO3 p)/\2+meas φ d<=128/\d.length<=11:=by
  rcases cg with⟨h0,_⟩|⟨_,_,h,T⟩
  .omega
  .exact⟨h,T.2.2.2.2.1,T.2.2.2.2.2,T.len⟩
 obtain⟨vp,vl,hq,co,b8⟩:=hR;obtain⟨bs,cp,rfl⟩:=qK2 b8;obtain⟨pb,pc,rfl⟩:=qK2 co;have hz:([]:List KV).length=0:=rfl;rw[hz] at hq;have cb:=zh (n2 an ck);have aq:=zh cn;have ca:Hid (n<6):=by show n<6;omega
 have b9:Hid (∀ ps d (t:Tn n),IsT N l n ps d t->cnt n t=ps.length+d.length):=by
  intro ps d t h
  cases n with
  | zero=>obtain⟨rfl,rfl⟩:=h;rfl
  | succ n=>obtain⟨rfl,h⟩:=h;show (η t).length=_;rw[<-h.1];simp
 have HD:=zh hd;have cx:=zh b8;have HQ:=zh hq;have bt:=qA1 hq hG dC;have br:q≠A:=by obtain⟨c,h⟩:=hd.hA;exact qA1 hq h dC
 have di:G≠A:=by obtain⟨c,h⟩:=hd.hA;exact qA1 hG h dC
 have dg:A<w.heap.size:=by obtain⟨c,h⟩:=hd.hA;exact ζ h
 have dj:=ζ hG;have dp:=ζ hq;have HG:=zh hG;have ct:Hid (bl+qI9 (n+1)<=1000000/\qI9 (n+1)=1+11*qI9 n):=⟨ch,rfl⟩;have q1:=ξ hq;simp only[χ,zG,zH,zI] at q1;clear hd hG hq b8 co cg ch an ck cn hz;rw[qC1];go_enter func210,ntmps210;go_wp2_with fail;obtain⟨w0,cr,cf,ce,dc⟩:=qD5 w (.cells (ϡ Z) 87);rw[<-cr];have cc:=zh cf;have ap:=zh ce;clear cr cf ce q1
 go_loopw [15] (λi U=>i=.int .i64 0/\U=w0) (λ_ _=>0)
 case atStart=>exact⟨rfl,rfl⟩
 case round=>
  obtain⟨rfl,cs⟩:=hrel;rw[cs];clear cs;have bq:=ap.out.hp HQ.out;have db:=ζ bq;have q1:=ξ bq 1;have P:=ξ bq 2;simp only[χ,zG,zH,zI] at q1 P;clear bq;go_wp2_with fail
  go_loopw [48] (λi wr=>∃ (j:Nat) (ls:List (Lnk (Tn n))),j<=d.length/\i=.int .i64 j/\w.heap.size<wr.heap.size/\Hid (SoFar N l n Z.key k (d.take j) ls)/\Hid (Ϙ wr G (qB3 V (bl+meas (λm:Lnk (Tn n)=>qB1 n m.sub) ls) (qE0 k (ls.flatMap λm=>cont n m.sub))))/\Hid (Devl V A N C l F wr)/\Hid (Ϙ wr w.heap.size (.cells (ϡ Z) 87))/\Hid (Kp [A,G] w wr)) (λi _=>d.length-(intOf i).toNat)
  case atStart=>exact⟨0,[],zL _,rfl,oM,SoFar.nil _ _ _ _ _,by show _=_;simpa [qD1,xC2] using ap.hp HG,qD0 HD ap (by intro k o;cases o),cc,ap.mono sM⟩
  case round=>
   rename_i wr hrel;obtain⟨j,ls,hj,rfl,dq,av,al,ao,am,Q⟩:=hrel;clear q1 P cc ap dc db;by_cases bh:j<d.length
   .have cj:=av.out.few;have b6:(d.take j).length=j:=by rw[lK,Nat.min_eq_left oM]
    rw[b6] at cj;have da:j*qI9 n<=10*qI9 n:=Nat.mul_le_mul_right _ (by have:=aq.out;omega);have an:=cb.out.1 d[j] (gM bh);obtain⟨L,b4⟩:∃ x:Int,x=bl+meas (λm:Lnk (Tn n)=>qB1 n m.sub) ls:=⟨_,rfl⟩;obtain⟨v,bg⟩:∃ x,x=qE0 k (ls.flatMap λm=>cont n m.sub):=⟨_,rfl⟩;have c4:0<=L/\L+1+qI9 n<=1000000:=by have:=ct.out;omega
    have bw:Hid (∀ W,Devl V A N C l F W->Ϙ W G (qB3 V L v)->Ϙ W q (χ ((n+1:Nat):Int) (.slice pb 0 pc) (.slice bs d.length cp))->Ω 254 #[ϖ G,ϖ q,.agg #[ϊ d[j].b,.int .u64 d[j].s]] W λe U=>(e=.panicked cor\/∃ q b ps hs',e=ϱ (ϖ q)/\d[j].b=((b:Nat):Int)/\2<=b/\b<N/\RawM U q n ps hs'/\RawAt l n b d[j].s ps hs'/\3<=ps.length+hs'.length/\Ϙ U G (qB3 V (L+1) v))/\Devl V A N C l F U/\Kp [A,G] W U):=λW T h2 h3=>jB4 V A N C l F hN c9 cy cz n d[j].b d[j].s G q _ _ _ _ W T h2 h3 oM oM oM;have b0:Hid (∀ W P z aa Y,Devl V A N C l F W->Ϙ W G (qB3 V (L+1) v)->RawM W P n aa Y->RawAt l n z d[j].s aa Y->Ω 210 #[ϖ G,.agg #[.string d[j].key,ϊ d[j].b,.int .u64 d[j].s,.pointer d[j].ptr],ϖ P] W λe U=>(e=.panicked cor\/e=ϱ (.tuple #[])/\∃ t:Tn n,IsT N l n aa Y t/\Good n d[j].key t/\(∀ p∈cont n t,kl v p.k=true)/\qB1 n t<=qI9 n/\Ϙ U G (qB3 V (L+1+qB1 n t-1) (qE0 v (cont n t))))/\Devl V A N C l F U/\Kp [A,G] W U):=λW P z aa Y T h2 h3 h4=>IH aa Y P G d[j] (L+1) v z d[j].s W T h2 h3 h4 oM oM;have bz:Hid (∀ (b3:Nat) (t:Tn n),d[j].b=(b3:Int)->Laid N l n b3 d[j].s t->Good n d[j].key t->3<=cnt n t->qB1 n t<=qI9 n->(∀ p∈cont n t,kl v p.k=true)->((j=0/\d[j].key=Z.key)\/(j≠0/\kl v d[j].key=true))->∃ ak,SoFar N l n Z.key k (d.take (j+1)) ak/\qB3 V (L+1+qB1 n t-1) (qE0 v (cont n t))=qB3 V (bl+meas (λm:Lnk (Tn n)=>qB1 n m.sub) ak) (qE0 k (ak.flatMap λm=>cont n m.sub))):=by
     intro b3 t e1 e2 e3 e4 e5 e6 R;have cq:=tA bh;refine⟨ls++[⟨d[j].key,some (b3,d[j].s),t⟩],?_,?_⟩
     .rw[cq];refine av.snoc e1 an.1 an.2.1 e2 e3 e4 e5 (λh=>?_) (λh=>?_) (by rw[<-bg];exact e6) ?_
      .have h0:j=0:=by have:=congrArg List.length h;rw[b6] at this;simpa using this
       rcases R with R|R
       .exact R.2
       .exact absurd h0 R.1
      .have h0:j≠0:=λe=>h (by rw[e];rfl);rcases R with R|R
       .exact absurd R.1 h0
       .rw[<-bg];exact R.2
      .have T:=qN7 φ d (j+1);rw[cq] at T;have:=cb.out.2;omega
     .rw[qP9,fA,bg,xC1,b4];simp only[fC,List.flatMap_nil,aN]
      congr 1
      omega
    rw[<-b4,<-bg] at al;obtain⟨gb,bv,de,cur,fr,hv,c5,bu,ci⟩:=cx.out.link oM;obtain⟨c0,c1,c2,c3⟩:=ci j bh;simp only[vJ,true_and] at hv;obtain⟨rfl,rfl⟩:=hv;have hR:=Q.out.heap bu (by simp;exact⟨by obtain⟨c,h⟩:=HD.out.hA;exact qA1 bu h dC,qA1 bu HG dC⟩);have a0:=ξ hR (bv+j*4);rw[c0] at a0;have a1:=ξ hR (bv+j*4+1);rw[c1] at a1;have a2:=ξ hR (bv+j*4+2);rw[c2] at a2;have a3:=ξ hR (bv+j*4+3);rw[c3] at a3;have bp:=ζ hR;have c6:(j:Int)<(d.length:Int):=oM
    clear c0 c1 c2 c3 hR ci c5 bu cj da an b6 b4 bg av c4;generalize d[j]=hx at bw b0 bz a0 a1 a2 a3;have HJ:=zh bh;clear bh hj;by_cases cm:j=0
    .subst cm;simp only[Nat.zero_mul,Nat.add_zero] at a0 a1 a2 a3;by_cases bf:hx.key=Z.key
     .have ba:=am.out;have p0:=ξ ba 0;simp only[zG,zH,zI] at p0;rw[<-bf] at p0;clear ba;have cw:=zh bf;clear bf;go_wp2_with fail;obtain⟨r,O,B,g,b7⟩:=qD5 wr (.cells (ϡ hx) 87);rw[<-O];clear O a0 a1 a2 a3 bp;have ac:=Hid.mk' (g.hp al);have ar:=zh (g.hp am);have ab:=zh B;have X:=zh (qD0 ao g (by intro k o;cases o));have au:=zh (g.heap (Q.heap HQ (by simp[br,bt])) sM);have H:=zh (Q.tr g);have HE:Hid (∀ W,Kp [] r W->Devl V A N C l F W/\Kp [A,G] w W):=λW hW=>⟨qD0 X hW (by intro k o;cases o),H.tr hW⟩;clear B g;clear p0;refine (qL4 r).mono ?_;rintro e dd ⟨rfl,hw⟩;rw[hw];clear hw dd;go_wp2_with fail;obtain⟨wq,bn,a8⟩:∃ wq,wq=r/\Kp [] r wq:=⟨_,rfl,kF⟩;rw[<-bn];clear bn;have u:=a8.drew;have a7:=u.hp ac.out;have f:=u.hp ab.out;have az:=qD0 X u (by intro k o;cases o);have bb:=u.hp au.out;refine wp_region_held_drew (S:=λW=>Ϙ W wr.heap.size (.cells (ϡ hx) 87)) kR f (λ_=>?_);refine zP 0 G 0 f ?_;refine zV 1 (.agg (ϡ hx)) rfl (λW D=>by have a:=ξ D;clear D;go_simp) f ?_;refine zP 2 G 0 f ?_;refine zP 3 q 0 f ?_;refine zP 4 wr.heap.size 1 f ?_;refine zW 5 (.agg #[ϊ hx.b,.int .u64 hx.s]) f id ?_;refine zq 6 λK hK=>?_;go_simp;refine (show Calls _ _ _ _ _ from bw wq.drew az a7 bb).mono ?_;rintro e w2 ⟨ai,ad,J⟩;rcases ai with rfl|⟨P,z,aa,Y,rfl,bc,ax,bd,a9,ag,ay,a5⟩
      .clear hK;go_wp2;exact⟨rfl,.inl rfl,ad,H.trans ((u.mono (S':=[A,G]) sM).tr J) sM⟩
      have I:=zh (n5 bc ax bd ag ay);have aw:=Hid.mk' (b0 w2 P z aa Y ad a5 a9 ag);clear bc ax bd ag ay a9 a5;have ah:=J.ho f;refine zk hK ah ?_
      refine zq 7 λK hK=>?_;go_simp;refine (show Calls _ _ _ _ _ from aw).mono ?_;rintro e E ⟨ai,ae,M⟩;rcases ai with rfl|⟨rfl,y,aj,bi,bj,bk,a6⟩
      .clear hK;go_wp2;exact⟨rfl,.inl rfl,ae,H.trans (((u.mono (S':=[A,G]) sM).tr J).tr M) sM⟩
      refine hK.out _ _ (M.ho ah) (λ_=>?_);refine zd ?_
      try simp only[zZ]
      have HN:Hid (∃ z s2,hx.b=((z:Nat):Int)/\Laid N l n z hx.s y/\Good n hx.key y/\(∀ p∈cont n y,kl v p.k=true)/\qB1 n y<=qI9 n/\3<=cnt n y/\s2=hx.s):=⟨z,_,I.1,aj.laid I.2.2.2.1 I.2.1 I.2.2.1 ca,bi,bj,bk,by rw[b9.out _ _ _ aj];exact I.2.2.2.2,rfl⟩;have bx:Hid (Ϙ E G (qB3 V (L+1+qB1 n y-1) (qE0 v (cont n y)))/\Devl V A N C l F E/\Ϙ E w.heap.size (.cells (ϡ Z) 87)/\Kp [A,G] w E/\w.heap.size<E.heap.size):=by
       have af:Kp [A,G] r E:=((u.mono sM).tr J).tr M;exact⟨a6,ae,af.ho ar,H.tr af,by have:=af.size;omega⟩
      clear a6 ae M ah ad J f az bb a7 u a8 aj bi bj bk aw I;go_wp2
      try rw[cd.out]
      obtain⟨f1,f2,f3,f4,f5⟩:=bx.out;obtain⟨b3,s3,g1,g2,g3,g4,g5,g6,g7⟩:=HN.out;obtain⟨ak,j1,j2⟩:=bz.out b3 y g1 g2 g3 g6 g5 g4 (.inl ⟨by trivial,cw⟩);have c8:=aq.out;have c7:=HJ.out;exact⟨⟨0+1,ak,oM,by go_num,f5,j1,by show _=_;rw[f1,j2],f2,f3,f4⟩,by simp[intOf];omega⟩
     .have ba:=am.out;have p0:=ξ ba 0;simp only[zG,zH,zI] at p0;clear ba;have dn:(hx.key.toList == Z.key.toList)=false:=by rw[zB7];simpa using bf
      clear bf;go_wp2_with fail;obtain⟨r,O,B,g,b7⟩:=qD5 wr (.cells (ϡ hx) 87);rw[<-O];clear O a0 a1 a2 a3 bp;have ac:=Hid.mk' (g.hp al);have ar:=zh (g.hp am);have ab:=zh B;have X:=zh (qD0 ao g (by intro k o;cases o));have au:=zh (g.heap (Q.heap HQ (by simp[br,bt])) sM);have H:=zh (Q.tr g);have HE:Hid (∀ W,Kp [] r W->Devl V A N C l F W/\Kp [A,G] w W):=λW hW=>⟨qD0 X hW (by intro k o;cases o),H.tr hW⟩;clear B g;clear p0;refine (qP0 r).mono ?_;rintro e w2 ⟨rfl,J⟩;go_wp2;obtain⟨e1,e2⟩:=HE.out _ J;exact⟨rfl,.inl rfl,e1,e2⟩
    .have dl:¬(j:Int)=0:=oM
     by_cases be:kl v hx.key=true
     .obtain⟨b5,cl⟩:=qZ7 be;have cu:=zh be;clear be;go_wp2_with fail;obtain⟨r,O,B,g,b7⟩:=qD5 wr (.cells (ϡ hx) 87);rw[<-O];clear O a0 a1 a2 a3 bp;have ac:=Hid.mk' (g.hp al);have ar:=zh (g.hp am);have ab:=zh B;have X:=zh (qD0 ao g (by intro k o;cases o));have au:=zh (g.heap (Q.heap HQ (by simp[br,bt])) sM);have H:=zh (Q.tr g);have HE:Hid (∀ W,Kp [] r W->Devl V A N C l F W/\Kp [A,G] w W):=λW hW=>⟨qD0 X hW (by intro k o;cases o),H.tr hW⟩;clear B g;have a4:=ac.out;have B:=ab.out;have dh:=ζ a4;have df:=ζ B;have g0:=ξ a4 0;have g1:=ξ a4 1;have g2:=ξ a4 2;simp only[qB3,zG,zH,zI] at g0 g1 g2;have z0:=ξ B;clear a4 B
      go_quiet (first | (go_at_call 253;exact Calls.quiet_of_same (qL4 _)))
      clear b5 cl g0 g1 g2 z0;go_wp2_with fail;have cd:Hid (wrap64 ((j:Int)+1)=(j:Int)+1):=by show wrap64 ((j:Int)+1)=(j:Int)+1;have:=HJ.out;have:=aq.out;simp only[wrap64];omega
      have cv:=zh cm;obtain⟨wq,bn,a8⟩:∃ wq,wq=r.drewN nq/\Kp [] r wq:=⟨_,rfl,(kF.drewN _)⟩;rw[<-bn];clear bn;have u:=a8.drew;have a7:=u.hp ac.out;have f:=u.hp ab.out;have az:=qD0 X u (by intro k o;cases o);have bb:=u.hp au.out;refine wp_region_held_drew (S:=λW=>Ϙ W wr.heap.size (.cells (ϡ hx) 87)) kR f (λ_=>?_);refine zP 0 G 0 f ?_;refine zV 1 (.agg (ϡ hx)) rfl (λW D=>by have a:=ξ D;clear D;go_simp) f ?_;refine zP 2 G 0 f ?_;refine zP 3 q 0 f ?_;refine zP 4 wr.heap.size 1 f ?_;refine zW 5 (.agg #[ϊ hx.b,.int .u64 hx.s]) f id ?_;refine zq 6 λK hK=>?_;go_simp;refine (show Calls _ _ _ _ _ from bw wq.drew az a7 bb).mono ?_;rintro e w2 ⟨ai,ad,J⟩;rcases ai with rfl|⟨P,z,aa,Y,rfl,bc,ax,bd,a9,ag,ay,a5⟩
      .clear hK;go_wp2;exact⟨rfl,.inl rfl,ad,H.trans ((u.mono (S':=[A,G]) sM).tr J) sM⟩
      have I:=zh (n5 bc ax bd ag ay);have aw:=Hid.mk' (b0 w2 P z aa Y ad a5 a9 ag);clear bc ax bd ag ay a9 a5;have ah:=J.ho f;refine zk hK ah ?_
      refine zq 7 λK hK=>?_;go_simp;refine (show Calls _ _ _ _ _ from aw).mono ?_;rintro e E ⟨ai,ae,M⟩;rcases ai with rfl|⟨rfl,y,aj,bi,bj,bk,a6⟩
      .clear hK;go_wp2;exact⟨rfl,.inl rfl,ae,H.trans (((u.mono (S':=[A,G]) sM).tr J).tr M) sM⟩
      refine hK.out _ _ (M.ho ah) (λ_=>?_);refine zd ?_
      try simp only[zZ]
      have HN:Hid (∃ z s2,hx.b=((z:Nat):Int)/\Laid N l n z hx.s y/\Good n hx.key y/\(∀ p∈cont n y,kl v p.k=true)/\qB1 n y<=qI9 n/\3<=cnt n y/\s2=hx.s):=⟨z,_,I.1,aj.laid I.2.2.2.1 I.2.1 I.2.2.1 ca,bi,bj,bk,by rw[b9.out _ _ _ aj];exact I.2.2.2.2,rfl⟩;have bx:Hid (Ϙ E G (qB3 V (L+1+qB1 n y-1) (qE0 v (cont n y)))/\Devl V A N C l F E/\Ϙ E w.heap.size (.cells (ϡ Z) 87)/\Kp [A,G] w E/\w.heap.size<E.heap.size):=by
       have af:Kp [A,G] r E:=((u.mono sM).tr J).tr M;exact⟨a6,ae,af.ho ar,H.tr af,by have:=af.size;omega⟩
      clear a6 ae M ah ad J f az bb a7 u a8 aj bi bj bk aw I;go_wp2
      try rw[cd.out]
      obtain⟨f1,f2,f3,f4,f5⟩:=bx.out;obtain⟨b3,s3,g1,g2,g3,g4,g5,g6,g7⟩:=HN.out;obtain⟨ak,j1,j2⟩:=bz.out b3 y g1 g2 g3 g6 g5 g4 (.inr ⟨cv,cu⟩);have c8:=aq.out;have c7:=HJ.out;exact⟨⟨j+1,ak,oM,by go_num,f5,j1,by show _=_;rw[f1,j2],f2,f3,f4⟩,by simp[intOf];omega⟩
     .rcases xM0 be with b5|⟨b5,cl⟩
      all_goals
       clear be;go_wp2_with fail;obtain⟨r,O,B,g,b7⟩:=qD5 wr (.cells (ϡ hx) 87);rw[<-O];clear O a0 a1 a2 a3 bp;have ac:=Hid.mk' (g.hp al);have ar:=zh (g.hp am);have ab:=zh B;have X:=zh (qD0 ao g (by intro k o;cases o));have au:=zh (g.heap (Q.heap HQ (by simp[br,bt])) sM);have H:=zh (Q.tr g);have HE:Hid (∀ W,Kp [] r W->Devl V A N C l F W/\Kp [A,G] w W):=λW hW=>⟨qD0 X hW (by intro k o;cases o),H.tr hW⟩;clear B g;have f:Ϙ r.drew wr.heap.size (.cells (ϡ hx) 87)/\Ϙ r.drew G (qB3 V L v):=⟨ab,ac⟩;refine wp_region_held_drew (S:=λW=>Ϙ W wr.heap.size (.cells (ϡ hx) 87)/\Ϙ W G (qB3 V L v)) kR f (λ_=>?_);refine zP 0 wr.heap.size 0 f ?_;refine zV 1 (.string hx.key) rfl (λW D=>by have a:=ξ D.1 0;simp only[zG,zH,zI] at a;clear D;go_simp) f ?_;refine zP 2 G 0 f ?_;refine zV 3 (ϖ G) rfl (λW D=>by have c:=ζ D.2;clear D;go_simp) f ?_;refine zP 4 G 2 f ?_;refine zV 5 (.string v) rfl (λW D=>by have a:=ξ D.2 2;simp only[qB3,zG,zH,zI] at a;clear D;go_simp) f ?_;refine zU 6 (.bool false) f ?_;refine zq 7 λK hK=>?_;go_simp;refine (qP0 _).mono ?_;rintro e E ⟨rfl,M⟩;clear hK;go_wp2;obtain⟨e1,e2⟩:=HE.out _ (((Kp.refl [] r).drew).tr M);exact⟨rfl,.inl rfl,e1,e2⟩
   .have c6:¬(j:Int)<(d.length:Int):=oM
    have e:d.take j=d:=tL oM;have b1:=av.out;rw[e] at b1;have bo:=Hid.mk' b1;clear e b1 av;go_wp2
    go_end0
    refine⟨.inr ⟨rfl,ls,⟨rfl,bo.both⟩,bo.good,bo.keys,?_,?_⟩,ao,Q⟩
    .show 1+meas (λm:Lnk (Tn n)=>qB1 n m.sub) ls<=1+11*qI9 n;have T:=bo.out.few;have h2:d.length*qI9 n<=11*qI9 n:=Nat.mul_le_mul_right _ aq.out;omega
    .have h:=al.out;rw[h];show some (qB3 V (bl+((meas (λm:Lnk (Tn n)=>qB1 n m.sub) ls:Nat):Int)) _)=some (qB3 V (bl+((1+meas (λm:Lnk (Tn n)=>qB1 n m.sub) ls:Nat):Int)-1) _)
     congr 2
     omega
theorem xT0(V A N C:Nat)(l:List UInt8)(a:Int)(c:N<=1000)(e:N*128<=l.length)(b:C≠A)(d:V≠A):∀ n,n<6->zD2 V A N C l a n
 | 0,_=>kP3 V A N C l a
 | n+1,h=>kP5 V A N C l a c e b d n h (xT0 V A N C l a c e b d n oM)
end Go.Proofs.YtdohpenfkdckiaaGreatDoor
