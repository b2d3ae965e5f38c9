import Derived.Test.YtdohpenfkdckiaaGreatDoorJ06
import Derived.Test.YtdohpenfkdckiaaGreatDoorJ09
set_option linter.all false
set_option maxRecDepth 100000
set_option maxHeartbeats 20000000
namespace Go.Proofs.YtdohpenfkdckiaaGreatDoor
open Go.Proofs.Tryz
open Go.RowKit
theorem kS2(E:Env)(r h:HL)(l:Lnk (Tn 0))(q:Nat)(k:ByteArray)(w:World)(U:E.Dev w)(ab:h.key=l.key)(hN:RN E.O 0 w q l.sub)(B:Good 0 l.key l.sub)(ad:∃ q∈cont 0 l.sub,q.k=k):
  Calls prog 104 #[τ E.V r,qC0 h,.pointer (some ⟨q,0,none⟩),.string k] w λe w'=>∃ v',e=.returned v'/\RLs E.O 0 w' v' (qC3 0 l k)/\E.To w w':=by
 have aq:(prs l.sub).length<=10000:=qK0 0 l.key l.sub B;have J:Sorted (prs l.sub):=B.sorted;have p:=(zM8 J k).2 ad;have ar:qB0 (prs l.sub) k<(prs l.sub).length:=by
  unfold qG7 at p;by_cases h:qB0 (prs l.sub) k<(prs l.sub).length
  .exact h
  .rw[gN oM] at p;cases p
 obtain⟨f,s⟩:=eY ((prs l.sub).take (qB0 (prs l.sub) k)++[]++(prs l.sub).drop (qB0 (prs l.sub) k+1));have V:f=del k (prs l.sub):=by rw[<-s,aN];exact (xA3 J p).symm
 have X:meas ρ f<=210:=by
  have m:=qN8 ρ (prs l.sub) (qB0 (prs l.sub) k);have M:=qN8 ρ ((prs l.sub).drop (qB0 (prs l.sub) k)) 1;have h3:meas ρ (prs l.sub)<=126:=B.fits;rw[List.drop_drop] at M;rw[<-s,qD7,qD7,qD6];omega
 have ah:∀ q∈f,ρ q<=21:=by
  intro q d;rw[V] at d;obtain⟨⟨m,M,h3⟩,_⟩:=B.all q (zG0.1 d).1;unfold ρ;omega
 have aj:qC3 0 l k=qD5 l.key f:=by rw[<-s,aN];rfl
 have ak:=zh ab;have HD:=zh U;have C:=zh (n2 X ah);have an:=zh aj;have L:=zh s;obtain⟨vp,d,ag⟩:=hN;have au:=ζ d;have av:q<w.heap.size+1:=oM
 have aw:q<w.heap.size+1+1:=oM
 have q0:=ξ d 0;simp only[ι,zG,zH,zI] at q0;clear U ab X ah aj V s p ad;rw[τ,qC0];go_enter func104,ntmps104;go_wp2_with fail;obtain⟨w1,ai,ao,N,v,ax⟩:=alC w (.cells (ϟ E.V r) 89) (.cells (ϡ h) 87)
 rw[<-ai];clear ai ao ax q0 au av aw;have P:=Env.To.of0 HD v;have G:=v.hp d;have I:=ag.keep0 v;clear d ag;refine (zH7 q 0 vp _ (prs l.sub) k w1 G I oM J).mono ?_;rintro e w2 ⟨rfl,n⟩;have ap:=P.tail n;have ac:=n.hp G;have ae:=I.keep0 n;have O:=n.hp N;clear n G I N P v;obtain⟨t,u,hv⟩:∃ t u,vp=.slice t (prs l.sub).length u:=by
  rcases ae.val with⟨h0,b,c,m,_⟩|⟨g,az,cap,cur,fr,m,_⟩
  .rw[h0];exact⟨b,c,m⟩
  .exact⟨_,cap,m⟩
 subst hv;obtain⟨i,Y⟩:=eY (qB0 (prs l.sub) k);rw[Y] at ar L |-;clear Y;go_wp2_with fail;obtain⟨j,Z⟩:=eX (i+1);have ay:IntKind.i64.wrap ((i:Int)+1)=(j:Int):=by rw[wK];omega
 have HJ:=zh Z;clear Z;have a:=n2 ac O;refine wp_region_held_drew (S:=λW=>Ϙ W q (ι 0 (.slice t (prs l.sub).length u) (.slice none 0 0))/\W.heap[w.heap.size+1]?=some (.cells (ϡ h) 87)) kR a (λ_=>?_);refine zU 0 (ϖ (w.heap.size+1)) a ?_;refine zV 1 (.string h.key) rfl (λW o=>by have c:=ξ o.2 0;simp at c;clear o;go_simp) a ?_;refine zP 2 q 0 a ?_;refine zP 3 q 0 a ?_;refine zP 4 q 1 a ?_;refine zV 5 (.slice t (prs l.sub).length u) rfl (λW o=>by have c:=ξ o.1 1;simp[ι] at c;clear o;go_simp) a ?_;refine zU 6 (ϊ i) a ?_;refine zU 7 (ϊ i) a ?_;refine zU 8 (ϊ j) a ?_;refine zq 9 λK hK=>?_;go_simp;have T:=ap.tail (kF.drew);have af:Slc w2.drew 185 2 (.slice none 0 0) ([]:List KV).length (qA3 []):=⟨rfl,.inl ⟨rfl,_,_,rfl,λ_=>rfl⟩⟩;have aa:=HJ.out;refine (zR9 _ _ (prs l.sub) [] i j w2.drew (ae.keep0 ((Kp.refl [] _).drew)) af oM oM oM aq sM).mono ?_;rintro e w4 ⟨v4,rfl,H,y⟩;rw[aa,L.out] at H;clear aa;have Q:=T.tail y;have A:=And.intro (y.heap (k:=q) ac sM) (y.heap (k:=w.heap.size+1) O sM);refine hK.out _ _ A (λ_=>?_);clear hK K y af T a
 try simp only[zZ]
 refine zq 10 λK hK=>?_;go_simp;refine (qZ6 E.O h.key v4 f w4 H (by have:=qK1 ρ f (λx _=>by unfold ρ;omega);have:=C.out.1;omega) C.2 C.1).mono ?_;rintro e w5 ⟨v5,rfl,D,z⟩;have R:=Q.tail z;have F:=And.intro (z.hp A.1) (z.hp A.2);refine hK.out _ _ F (λ_=>?_);clear hK K A z Q
 try simp only[zZ]
 refine zq 11 λK hK=>?_;go_simp;refine hK.out _ _ F (λ_=>?_);refine zd ?_;rw[ak.out,<-an.out] at D;have al:=zh D;have am:=zh R;clear F D R H;go_wp2;go_ret;exact⟨v5,rfl,al,am⟩
theorem jU4{a b:Lnk (Tn 0)}(e:Good 0 a.key a.sub)(f:Good 0 b.key b.sub)(j:cnt 0 a.sub<=2\/cnt 0 b.sub<=2):(∀ x∈prs a.sub++prs b.sub,ρ x<=21)/\meas ρ (prs a.sub++prs b.sub)<=210:=by
 have d:∀ x∈prs a.sub++prs b.sub,ρ x<=21:=λp c=>by
  have k:qC6 p:=by
   rcases mA c with c|c
   .exact (e.all p c).1
   .exact (f.all p c).1
  obtain⟨g,h,i⟩:=k;unfold ρ;omega
 refine⟨d,?_⟩;rw[qD7];have g:=qN7 ρ 21 (prs a.sub) λp c=>d p (List.mem_append_left _ c);have h:=qN7 ρ 21 (prs b.sub) λp c=>d p (List.mem_append_right _ c);have i:meas ρ (prs a.sub)<=126:=e.fits;have l:meas ρ (prs b.sub)<=126:=f.fits;have m:(prs a.sub).length<=2\/(prs b.sub).length<=2:=j;omega
theorem jU3{n:Nat}{a b:Lnk (Tn (n+1))}(e:Good (n+1) a.key a.sub)(f:Good (n+1) b.key b.sub)(g:cnt (n+1) a.sub<=2\/cnt (n+1) b.sub<=2):(∀ x∈η a.sub++η b.sub,qA2 x<=21)/\meas qA2 (η a.sub++η b.sub)<=210:=by
 have d:∀ x∈η a.sub++η b.sub,qA2 x<=21:=λp c=>by
  have m:p.key.size<=8:=by
   rcases mA c with c|c
   .exact (e.all p c).2.2
   .exact (f.all p c).2.2
  unfold qA2;omega
 refine⟨d,?_⟩;rw[qD7];have h:=qN7 qA2 21 (η a.sub) λp c=>d p (List.mem_append_left _ c);have i:=qN7 qA2 21 (η b.sub) λp c=>d p (List.mem_append_right _ c);have j:meas qA2 (η a.sub)<=126:=e.fits;have k:meas qA2 (η b.sub)<=126:=f.fits;have l:(η a.sub).length<=2\/(η b.sub).length<=2:=g;omega
theorem kA2(E:Env)(n:Nat)(b:Int)(G:(n:Int)<b)(H:n<=100000)(r:HL)(v:Value)(ls:List (Lnk (Tn n)))(i:Nat)(c:Lnk (Tn n))(w:World)(d:E.Dev w)(m:RLs E.O n w v ls)(f:ls[i]?=some c)(g:ls.length<=10000)(k:c.ref=none)(D:cnt n c.sub<=10000)(t:2<=ls.length)(x:∀ l∈ls,Good n l.key l.sub):
  Calls prog 164 #[τ E.V r,v,.int .i64 b,.int .i64 i] w λe B=>∃ v',e=.returned v'/\RLs E.O n B v' (qC2 n ls i)/\E.To w B:=by
 obtain⟨F,a⟩:=gS f;by_cases C:3<=cnt n c.sub
 .exact kA3 E n b r v ls i w d m F g (by rw[a];exact k) (by rw[a];exact C) (by rw[a];exact D)
 .obtain⟨j,y⟩:=eX (min i (ls.length-2));have z:j<ls.length:=oM
  have A:j+1<ls.length:=oM
  have o:=gQ z;have p:=gQ A;have q:=x ls[j] (gM z);have s:=x ls[j+1] (gM A);have u:cnt n ls[j].sub<=2\/cnt n ls[j+1].sub<=2:=by
   by_cases h:i=j
   .subst h;left;rw[a];omega
   .have:i=j+1:=oM
    subst this;right;rw[a];omega
  cases n with
  | zero=>exact jZ9 E b oM r v ls i j (j+1) c ls[j] ls[j+1] w d m f g k oM t o p rfl y (jU4 q s u)
  | succ n=>exact jZ8 E n b oM r v ls i j (j+1) c ls[j] ls[j+1] w d m f g k oM t o p rfl y (jU3 q s u) oM
theorem kS4{n:Nat}{l:Lnk (Tn (n+1))}{k:ByteArray}(h:Good (n+1) l.key l.sub)(O:kl k l.key=false)(hz:l.key.size<=8)(g:∃ q∈cont (n+1) l.sub,q.k=k)(M:1<cnt (n+1) l.sub):
  ∃ (m:Lnk (Tn n)) (j:List (Lnk (Tn n))),(η l.sub)[qA6 (η l.sub) k]?=some m/\j=(η l.sub).take (qA6 (η l.sub) k)++qC3 n m k++(η l.sub).drop (qA6 (η l.sub) k+1)/\
   Good n m.key m.sub/\kl k m.key=false/\m.key.size<=8/\(∃ q∈cont n m.sub,q.k=k)/\3<=cnt n m.sub/\(qC3 n m k).length<=2/\
   (∀ x∈j,Good n x.key x.sub)/\2<=j.length/\(∃ c,j[qA6 (η l.sub) k]?=some c/\c.ref=none)/\(∀ x∈qC2 n j (qA6 (η l.sub) k),qA2 x<=21)/\meas qA2 (qC2 n j (qA6 (η l.sub) k))<=210/\
   qC3 (n+1) l k=qC4 n l.key (qC2 n j (qA6 (η l.sub) k)):=by
 have z:1<(η l.sub).length:=M;have H:=h.row;obtain⟨A,m,B,e,p,F,Q,R⟩:=zB6 (k:=k) H (by intro e;rw[e] at z;simp at z) O;have s:=λx d=>h.all x (by show x∈η l.sub;rw[e];exact d);have r:=s m sM;have S:=λb t q g=>qN6 (R b t) ((qK9 n b.key b.sub (s b (by simp[t])).1).2 q g).2;have G:∃ q∈cont n m.sub,q.k=k:=by
  obtain⟨q,g,v⟩:=g;have g:q∈(η l.sub).flatMap (λl=>cont n l.sub):=g;rw[e] at g;obtain⟨x,d,y⟩:=mF g;rcases mA d with d|d
  .exact absurd v (qI9 (Q x d q y))
  .rcases List.mem_cons.1 d with rfl|d
   .exact⟨q,y,v⟩
   .exact absurd v.symm (qI9 (S x d q y))
 obtain⟨w1,U,o⟩:=qX4 n m k r.1 F r.2.2 G oM;have T:∀ w∈qC3 n m k,1<=cnt n w.sub:=by
  rcases o with⟨a,f,_,_,Z⟩|⟨a,b,f,_,_,_,e5,e6⟩
  .rw[f];intro w i;rw[mS i];omega
  .rw[f];intro w i;simp only[mC,lN,or_false] at i;rcases i with rfl|rfl<;>omega
 have I:Row0 n l.key (A++m::B):=by rw[<-e];exact H
 have P:=pA I.pair;have J:=zH2 I w1 o.ne T (λw i q g b t=>by
  have:q∈(qC3 n m k).flatMap (λl=>cont n l.sub):=List.mem_flatMap.2 ⟨w,i,g⟩;rw[U] at this;exact ((pC P.2.1).1 b t).2 q (zG0.1 this).1)
 have ac:=o.meas (λw i=>(w1.all w i).2);have N:meas qA2 (A++m::B)<=126:=by have C:meas qA2 (η l.sub)<=126:=h.fits;rw[e] at C;exact C
 have ad:meas qA2 (A++qC3 n m k++B)<=145:=by
  rw[qD7,qD7];rw[qD7,qC1] at N;omega
 have aa:1<=(qC3 n m k).length:=List.length_pos_iff.2 o.ne;have ab:(η l.sub).length<=(A++qC3 n m k++B).length:=by rw[e];simp;omega
 obtain⟨L,V,W,X,Y⟩:=xI9 (m:=m) J (λx d=>(s x (by simp[d])).2.1) (λx d=>(s x (by simp[d])).2.1) o r.2.1 oM;have E:(η l.sub)[qA6 (η l.sub) k]?=some m:=by rw[<-p,e];simp
 have K:(η l.sub).take (qA6 (η l.sub) k)=A:=by rw[<-p,e];simp
 have D:(η l.sub).drop (qA6 (η l.sub) k+1)=B:=by
  rw[<-p,e,show A++m::B=(A++[m])++B by simp];exact List.drop_left' sM
 have i:qC3 (n+1) l k=qC4 n l.key (qC2 n (A++qC3 n m k++B) (qA6 (η l.sub) k)):=by
  show (match (η l.sub)[qA6 (η l.sub) k]? with
   | some m=>qC4 n l.key (qC2 n ((η l.sub).take (qA6 (η l.sub) k)++qC3 n m k++(η l.sub).drop (qA6 (η l.sub) k+1)) (qA6 (η l.sub) k))
   | none=>[])=_
  rw[E,K,D]
 refine⟨m,A++qC3 n m k++B,E,by rw[K,D],r.1,F,r.2.2,G,r.2.1,?_,λx d=>(J.all x d).1,oM,?_,?_,?_,i⟩
 .rcases o with⟨a,f,_⟩|⟨a,b,f,_⟩<;>rw[f]<;>simp
 .rw[<-p];rcases o with⟨a,f,_,u,_⟩|⟨a,b,f,_,u,_⟩
  .exact⟨a,by rw[f];simp,u⟩
  .exact⟨a,by rw[f];simp,u⟩
 .rw[<-p];intro x d;have:=(L.all x d).2;unfold qA2;omega
 .rw[<-p];omega
theorem kS1(E:Env)(n:Nat)
  (ih:∀ (r h:HL) (l:Lnk (Tn n)) (q:Nat) (k:ByteArray) (w:World),E.Dev w->h.key=l.key->RN E.O n w q l.sub->Good n l.key l.sub->kl k l.key=false->l.key.size<=8->(∃ q∈cont n l.sub,q.k=k)->min n 1<cnt n l.sub->Calls prog 104 #[τ E.V r,qC0 h,.pointer (some ⟨q,0,none⟩),.string k] w λe w'=>∃ v',e=.returned v'/\RLs E.O n w' v' (qC3 n l k)/\E.To w w')
  (hn:n<=100000) (r h:HL) (l:Lnk (Tn (n+1))) (q:Nat) (k:ByteArray) (w:World) (hd:E.Dev w) (bn:h.key=l.key) (hN:RN E.O (n+1) w q l.sub) (hg:Good (n+1) l.key l.sub) (hk:kl k l.key=false) (hz:l.key.size<=8) (bq:∃ q∈cont (n+1) l.sub,q.k=k) (hc:1<cnt (n+1) l.sub):
  Calls prog 104 #[τ E.V r,qC0 h,.pointer (some ⟨q,0,none⟩),.string k] w λe w'=>∃ v',e=.returned v'/\RLs E.O (n+1) w' v' (qC3 (n+1) l k)/\E.To w w':=by
 have ch:(η l.sub).length<=10000:=(qK0 (n+1) l.key l.sub hg).1;obtain⟨m,z,hgm,hnw,m1,m2,m3,m4,m5,m6,n1,n2,⟨c,n3,n4⟩,n5,n6,n7⟩:=kS4 hg hk hz bq hc;have bo:=hg.pair;obtain⟨i,ac⟩:=eY (qA6 (η l.sub) k);rw[ac] at hgm hnw n3 n5 n6 n7;have cm:z.length<=10000:=by
  have h1:=qK1 qA2 (qC2 n z i) (λx _=>by unfold qA2;omega);have h2:(η l.sub).length<=126:=by
   have h3:=qK1 qA2 (η l.sub) (λx _=>by unfold qA2;omega);have h4:meas qA2 (η l.sub)<=126:=hg.fits;omega
  rw[hnw];simp only[lA,lK,lD];omega
 have bk:cnt n c.sub<=10000:=by
  have gc:=n1 c (mO n3)
  cases n with
  | zero=>exact qK0 0 c.key c.sub gc
  | succ n=>exact (qK0 (n+1) c.key c.sub gc).1
 have ck:i<(η l.sub).length:=(gS hgm).1;obtain⟨ls,ad⟩:=eY (η l.sub);rw[ad] at hgm hnw ch ac ck;have b7:=zh ad;have b4:=zh ac;have b3:=zh hgm;have b8:=zh hnw;have HN:Hid ((∀ x∈z,Good n x.key x.sub)/\2<=z.length/\z[i]?=some c/\c.ref=none):=⟨n1,n2,n3,n4⟩;have HF:Hid ((∀ x∈qC2 n z i,qA2 x<=21)/\meas qA2 (qC2 n z i)<=210):=⟨n5,n6⟩;have ce:=zh n7;have b9:Hid (ls.Pairwise (qQ2 n)):=by show List.Pairwise _ _;rw[<-ad];exact bo
 have P:Hid (Good n m.key m.sub/\kl k m.key=false/\m.key.size<=8/\(∃ q∈cont n m.sub,q.k=k)/\3<=cnt n m.sub):=⟨m1,m2,m3,m4,m5⟩;have b6:=zh bn;have F:=zh hd;have b2:=zh bk;have cd:=zh m6;have b5:=ih;clear hd bn hg hk hz bq hc hgm hnw n1 n2 n3 n4 n5 n6 n7 m1 m2 m3 m4 m5 m6 bo ad ac bk ih;obtain⟨vl,hq,a,ao,J⟩:=hN;rw[b7.out] at J;have ax:=zh J.1;have cs:i<a.length:=by have:=ax.out;omega
 have cj:a.length<=10000:=by have:=ax.out;omega
 obtain⟨B,p,A,cur,fr,rfl,cr,bs,bl⟩:=ao.link oM;obtain⟨x,_,bu,c0,c1,c2,c3⟩:=qR9 J bl b3.out;obtain⟨f,ak⟩:∃ f:Int,((n+1:Nat):Int)=f:=⟨_,rfl⟩;rw[ak] at hq;have af:=zh ak.symm;have ct:¬f=0:=oM
 have HB:=zh J;have ay:=zh bu;have br:Rise a:=zB0 J b9.out;have b1:a.findIdx (λl=>kl k l.key)-1=i:=by rw[zU0 J];exact b4
 have cn:=ζ hq;have co:q<w.heap.size+1:=oM
 have an:q<w.heap.size+1+1:=oM
 have q0:=ξ hq 0;simp only[ι,zG,zH,zI] at q0;clear bl J ak bu;rw[τ,qC0];go_enter func104,ntmps104;go_wp2_with fail;obtain⟨w1,bz,a6,a9,H,cq⟩:=alC w (.cells (ϟ E.V r) 89) (.cells (ϡ h) 87)
 rw[<-bz];clear bz;have bd:=Env.To.of0 F H;have al:=H.hp hq;have ap:=ao.keep0 H;have bt:=H.hp bs;have au:Hid (Both (RL E.O n w1) a ls):=HB.out.mono λx y v=>RL.keep v H (Apt.nil _ _);have az:Hid (RL E.O n w1 x m):=RL.keep ay H (Apt.nil _ _);clear hq ao bs HB ay q0 cn co an H;have ar:=zU1 q _ _ _ a k w1 al ap oM br;rw[b1] at ar;refine ar.mono ?_;rintro e w2 ⟨rfl,C⟩;have be:=bd.tail C;have ae:=C.hp al;have bw:=ap.keep0 C;have a7:=C.hp a6;have ba:=C.hp a9;have M:=C.hp bt;have aq:w.heap.size<=w2.heap.size:=by have:=C.size;omega
 have av:Hid (Both (RL E.O n w2) a ls):=au.out.mono λx y v=>RL.keep v C (Apt.nil _ _);have a4:Hid (RL E.O n w2 x m):=RL.keep az C (Apt.nil _ _);clear C al ap a9 bd a6 bt ar b1 br au az cq;have an:=ζ ae;have ci:=ζ M;have a0:=ξ M (p+i*4);rw[c0] at a0;have a1:=ξ M (p+i*4+1);rw[c1] at a1;have a2:=ξ M (p+i*4+2);rw[c2] at a2;have a3:=ξ M (p+i*4+3);rw[c3] at a3;have q2:=ξ ae 2;simp only[ι,zG,zH,zI] at q2;go_wp2_with fail;obtain⟨d,b0,ai,G⟩:=alA w2 (.cells (ϡ x) 87);rw[<-b0];clear b0;have u:=be.tail G;have bp:=G.hp ae;have aa:=bw.keep0 G;have R:=G.hp ba;have O:Hid (Both (RL E.O n d) a ls):=av.out.mono λx y v=>RL.keep v G (Apt.nil _ _);have a5:Hid (RL E.O n d x m):=RL.keep a4 G (Apt.nil _ _);obtain⟨X,bj⟩:=eY w2.heap.size;rw[bj] at ai aq |-;have b:Ϙ d q (ι f (.slice none 0 0) (.slice (some ⟨B,p,none⟩) a.length A))/\Ϙ d w.heap.size (.cells (ϟ E.V r) 89)/\Ϙ d X (.cells (ϡ x) 87):=⟨bp,G.hp a7,ai⟩;clear ae bw ba a7 M G ai av a4 be a0 a1 a2 a3 q2 an ci bj c0 c1 c2 c3 bp;obtain⟨j,hj⟩:=eX (i+1);have cu:IntKind.i64.wrap ((i:Int)+1)=(j:Int):=by rw[wK];omega
 have HJ:=zh hj;clear hj;refine wp_region_held_drew (S:=λW=>Ϙ W q (ι f (.slice none 0 0) (.slice (some ⟨B,p,none⟩) a.length A))/\Ϙ W w.heap.size (.cells (ϟ E.V r) 89)/\Ϙ W X (.cells (ϡ x) 87)) kR b (λ_=>?_);refine zP 0 q 0 b ?_;refine zP 1 q 0 b ?_;refine zP 2 q 2 b ?_;refine zV 3 (.slice (some ⟨B,p,none⟩) a.length A) rfl (λW o=>by have c:=ξ o.1 2;simp[ι] at c;clear o;go_simp) b ?_;refine zU 4 (ϊ i) b ?_;refine zU 5 (ϊ i) b ?_;refine zU 6 (ϊ j) b ?_;refine zW 7 (.agg (ϟ E.V r)) b (·.2.1) ?_;refine zW 8 (.agg (ϡ x)) b (·.2.2) ?_;refine zW 9 (.agg (ϟ E.V r)) b (·.2.1) ?_;refine zW 10 (.agg (ϡ x)) b (·.2.2) ?_;refine zP 11 q 0 b ?_;refine zP 12 q 0 b ?_;refine zP 13 q 0 b ?_;refine zV 14 (ϊ f) rfl (λW o=>by have c:=ξ o.1 0;simp[ι] at c;clear o;go_simp) b ?_;refine zU 16 (.string k) b ?_;refine zq 15 λK hK=>?_;go_simp;have L:E.To w d.drew:=u.tail (kF.drew);have bi:RL E.O n d.drew x m:=RL.keep a5 ((Kp.refl [] _).drew) (Apt.nil _ _);refine (qJ4 E n x r m f d.drew L.dev bi (by have:=af.out;omega)).mono ?_;rintro e s ⟨q4,rfl,bb,D⟩;have Y:=L.trans D;have t:Ϙ s q (ι f (.slice none 0 0) (.slice (some ⟨B,p,none⟩) a.length A))/\Ϙ s w.heap.size (.cells (ϟ E.V r) 89)/\Ϙ s X (.cells (ϡ x) 87):=
  ⟨D.kp.heap (k:=q) b.1 (λhm=>E.apt _ L.dev _ hm _ _ _ b.1 dC),D.new (k:=w.heap.size) F oM b.2.1,D.new (k:=X) F aq b.2.2⟩
 have N:Slc s 87 4 (.slice (some ⟨B,p,none⟩) a.length A) a.length (qA7 a):=Slc.keep (w:=d.drew) (aa.keep0 ((Kp.refl [] _).drew)) D.kp ((E.apt _ L.dev).sub dC);have T:=D.new (k:=w.heap.size+1) F oM R;have aw:Hid (Both (RL E.O n s) a ls):=O.out.mono λx y v=>Env.RL (RL.keep v ((Kp.refl [] d).drew) (Apt.nil _ _)) L.dev D;refine hK.out _ _ t (λ_=>?_);clear hK K b L bi aa O D u R
 try simp only[zZ]
 refine zq 17 λK hK=>?_;go_simp;refine (b5 r x m q4 k s Y.dev a5.1 bb P.1 P.2.1 P.2.2.1 P.2.2.2.1 (by have:=P.out.2.2.2.2;omega)).mono ?_;rintro e d ⟨v3,rfl,cf,u⟩;have bf:=Y.trans u;have U:Ϙ d q (ι f (.slice none 0 0) (.slice (some ⟨B,p,none⟩) a.length A))/\Ϙ d w.heap.size (.cells (ϟ E.V r) 89)/\Ϙ d X (.cells (ϡ x) 87):=
  ⟨u.kp.heap (k:=q) t.1 (λhm=>E.apt _ Y.dev _ hm _ _ _ t.1 dC),u.new (k:=w.heap.size) F oM t.2.1,u.new (k:=X) F aq t.2.2⟩
 have R:=u.new (k:=w.heap.size+1) F oM T;have aa:Slc d 87 4 (.slice (some ⟨B,p,none⟩) a.length A) a.length (qA7 a):=Slc.keep N u.kp ((E.apt _ Y.dev).sub dC);have O:Hid (Both (RL E.O n d) a ls):=aw.out.mono λx y v=>Env.RL v Y.dev u;refine hK.out _ _ U (λ_=>?_);clear hK K t N aw bb T
 try simp only[zZ]
 refine zq 18 λK hK=>?_;go_simp;obtain⟨bv,bx,aj⟩:=cf;have cl:bv.length<=10000:=by rw[aj.1];have:=cd.out;omega
 have bm:=HJ.out;refine (zG9 _ v3 a bv i j d aa bx oM oM oM cj cl).mono ?_;rintro e s ⟨v4,rfl,N,I⟩;rw[bm] at N;clear bm;have D:=bf.tail I;have bc:RLs E.O n s v4 z:=by
  rw[b8.out];exact⟨_,N,(((O.take i).append aj).append (O.drop (i+1))).mono λx y v=>RL.keep v I (Apt.nil _ _)⟩
 have ca:=zh bc;have t:=And.intro (I.hp U.1) (And.intro (I.hp U.2.1) (I.hp U.2.2));have T:=I.hp R;refine hK.out _ _ t (λ_=>?_);clear hK K U I aa bf u bc N aj bx R
 try simp only[zZ]
 refine zq 19 λK hK=>?_;go_simp;refine hK.out _ _ t (λ_=>?_);refine zd ?_;have am:=t.1;have a8:=t.2.1;clear t;go_wp2_with fail;have g:Ϙ s q (ι f (.slice none 0 0) (.slice (some ⟨B,p,none⟩) a.length A))/\Ϙ s w.heap.size (.cells (ϟ E.V r) 89)/\s.heap[w.heap.size+1]?=some (.cells (ϡ h) 87):=⟨am,a8,T⟩;refine wp_region_held_drew (S:=λW=>Ϙ W q (ι f (.slice none 0 0) (.slice (some ⟨B,p,none⟩) a.length A))/\Ϙ W w.heap.size (.cells (ϟ E.V r) 89)/\W.heap[w.heap.size+1]?=some (.cells (ϡ h) 87)) kR g (λ_=>?_);refine zU 0 (ϖ (w.heap.size+1)) g ?_;refine zV 1 (.string h.key) rfl (λW o=>by have c:=ξ o.2.2 0;simp at c;clear o;go_simp) g ?_;refine zP 2 q 0 g ?_;refine zP 3 q 0 g ?_;refine zP 4 q 0 g ?_;refine zV 5 (ϊ f) rfl (λW o=>by have c:=ξ o.1 0;simp[ι] at c;clear o;go_simp) g ?_;refine zW 6 (.agg (ϟ E.V r)) g (·.2.1) ?_;refine zU 7 v4 g ?_;refine zP 8 q 0 g ?_;refine zP 9 q 0 g ?_;refine zP 10 q 0 g ?_;refine zV 11 (ϊ f) rfl (λW o=>by have c:=ξ o.1 0;simp[ι] at c;clear o;go_simp) g ?_;refine zU 12 (ϊ i) g ?_;refine zq 13 λK hK=>?_;go_simp;have ab:E.To w s.drew:=D.tail (kF.drew);refine (kA2 E n f (by have:=af.out;omega) hn r v4 z i c s.drew ab.dev (RLs.keep ca ((Kp.refl [] _).drew) (Apt.nil _ _)) HN.2.2.1 cm HN.2.2.2 b2 HN.2.1 HN.1).mono ?_;rintro e w6 ⟨v6,rfl,cg,Z⟩;have bg:=ab.trans Z;have V:Ϙ w6 q (ι f (.slice none 0 0) (.slice (some ⟨B,p,none⟩) a.length A))/\Ϙ w6 w.heap.size (.cells (ϟ E.V r) 89)/\w6.heap[w.heap.size+1]?=some (.cells (ϡ h) 87):=
  ⟨Z.kp.heap (k:=q) am (λhm=>E.apt _ ab.dev _ hm _ _ _ am dC),Z.new (k:=w.heap.size) F oM a8,Z.new (k:=w.heap.size+1) F oM T⟩
 refine hK.out _ _ V (λ_=>?_);clear hK K g ab Z
 try simp only[zZ]
 refine zq 14 λK hK=>?_;go_simp;refine (zD0 E.O n f af h.key v6 (qC2 n z i) w6 cg (by have:=qK1 qA2 (qC2 n z i) (λx _=>by unfold qA2;omega);have:=HF.out.2;omega) HF.1 HF.2).mono ?_;rintro e w7 ⟨v7,rfl,ag,Q⟩;have bh:=bg.tail Q;have ah:=And.intro (Q.hp V.1) (And.intro (Q.hp V.2.1) (Q.hp V.2.2));refine hK.out _ _ ah (λ_=>?_);clear hK K V Q bg
 try simp only[zZ]
 refine zq 15 λK hK=>?_;go_simp;refine hK.out _ _ ah (λ_=>?_);refine zd ?_;rw[b6.out,<-ce.out] at ag;have cb:=zh ag;have cc:=zh bh;clear ah ag bh;go_wp2;go_ret;exact⟨v7,rfl,cb,cc⟩
theorem kS3(E:Env):∀ (n:Nat),n<=100000->∀ (r h:HL) (l:Lnk (Tn n)) (q:Nat) (k:ByteArray) (w:World),E.Dev w->h.key=l.key->RN E.O n w q l.sub->Good n l.key l.sub->kl k l.key=false->l.key.size<=8->(∃ q∈cont n l.sub,q.k=k)->min n 1<cnt n l.sub->
  Calls prog 104 #[τ E.V r,qC0 h,.pointer (some ⟨q,0,none⟩),.string k] w λe i=>∃ v',e=.returned v'/\RLs E.O n i v' (qC3 n l k)/\E.To w i:=by
 intro n
 induction n with
 | zero=>
  intro _ r h l q k w b f a c g _ d _;exact kS2 E r h l q k w b f a c d
 | succ n ih=>
  intro o r h l q k w b f a c g j d m;exact kS1 E n (ih oM) oM r h l q k w b f a c g j d oM
theorem xD0{n:Nat}{lo}{t}(h:Good n lo t):cnt n t<=10000:=by
 cases n with
 | zero=>exact qK0 0 lo t h
 | succ n=>exact (qK0 (n+1) lo t h).1
theorem zT8(E)(n:Nat)(J:n<=100000)(r)(v)(l)(d:Nat)(W)(w)(q:E.Dev w)(s:RLs E.O n w v W)(A:Row0 n l.key W)(F:Made n l d W)(G:min n 1<cnt n l.sub)(N:d<=1):
  Calls prog 103 #[τ E.V r,v] w λe k=>∃ h,e=.returned (τ E.V h)/\RR E k h (qE0 n W)/\E.To w k:=by
 rcases F with⟨a,rfl,D,o,B⟩|⟨a,b,rfl,D,o,B,K,L⟩
 .have p:=(A.all a sM).1
  cases n with
  | zero=>
   by_cases z:cnt 0 a.sub=0
   .refine (kQ6 E r v a w q s o z).mono ?_;rintro e k ⟨f,c⟩;refine⟨_,f,?_,c⟩;have g:prs a.sub=[]:=List.length_eq_zero_iff.1 z;have i:qE0 0 [a]=.none:=by
     show (match prs a.sub with | []=>Root.none | _::_=>.at 0 a)=_;rw[g]
    rw[i];rfl
   .refine (xQ4 E 0 r v a w q s o oM (xD0 p)).mono ?_;rintro e k ⟨h,f,c,j⟩;refine⟨h,f,?_,j⟩;have i:qE0 0 [a]=.at 0 a:=by
     show (match prs a.sub with | []=>Root.none | _::_=>.at 0 a)=_
     cases g:prs a.sub with
     | nil=>exact absurd (show cnt 0 a.sub=0 from by show (prs a.sub).length=0;rw[g];rfl) z
     | cons x r=>rfl
    rw[i];exact c
  | succ n=>
   have M:1<(η l.sub).length:=by have c:min (n+1) 1<(η l.sub).length:=G;omega
   have C:(η l.sub).length<=(η a.sub).length+d:=B
   cases g:η a.sub with
   | nil=>rw[g] at C;simp at C;omega
   | cons x t=>
    cases t with
    | nil=>
     refine (kQ7 E n r v a x w q s o g).mono ?_;rintro e k ⟨h,f,c,j⟩;refine⟨h,f,?_,j⟩;have i:qE0 (n+1) [a]=.at n x:=by
      show (match η a.sub with | []=>Root.none | [m]=>.at n m | _::_::_=>.at (n+1) a)=_;rw[g]
     rw[i];exact c
    | cons y t=>
     have H:min (n+1) 1<cnt (n+1) a.sub:=by show min (n+1) 1<(η a.sub).length;rw[g];simp
     refine (xQ4 E (n+1) r v a w q s o H (xD0 p)).mono ?_;rintro e k ⟨h,f,c,j⟩;refine⟨h,f,?_,j⟩;have i:qE0 (n+1) [a]=.at (n+1) a:=by
      show (match η a.sub with | []=>Root.none | [m]=>.at n m | _::_::_=>.at (n+1) a)=_;rw[g]
     rw[i];exact c
 .have p:=A.all a sM;have u:=A.all b sM;refine (kQ8 E n r v a b w q s J o ⟨p.2,u.2⟩ (zM7 n a.key a.sub p.1 oM) (zM7 n b.key b.sub u.1 oM)).mono ?_;rintro e k ⟨h,f,c,j⟩;refine⟨h,f,?_,j⟩;have I:meas qA2 [a,b]<=126:=by
   have:=p.2;have:=u.2;simp[meas,qA2];omega
  have i:qE0 n [a,b]=.at (n+1) ⟨⟨#[]⟩,none,[a,b]⟩:=by
   show (match qC4 n ⟨#[]⟩ [a,b] with | []=>Root.none | r::_=>qN0 (n+1) r)=_;have e:qC4 n ⟨#[]⟩ [a,b]=[⟨⟨#[]⟩,none,[a,b]⟩]:=by
    unfold qC4 qB7;rw[if_pos I];rfl
   rw[e];rfl
  rw[i];exact c
theorem kQ0(E)(n:Nat)(hn:n<=100000)(h)(l)(p)(w)(hd:E.Dev w)(hr:RL E.O n w h l)(hg:RGood (.at n l))(M:qC6 p):
  Calls prog 74 #[τ E.V h,.agg #[.string p.k,.string p.v]] w λe w'=>∃ b,e=.returned (τ E.V b)/\RR E w' b (Root.put (.at n l) p)/\E.To w w':=by
 obtain⟨u,F,N⟩:=hg;have J:l.key.size<=8:=by rw[u];decide
 have L:kl p.k l.key=false:=by rw[u];exact qN5 _
 obtain⟨ai,ar,aj⟩:=zB7 n l p F M L J oM;have a:=zh hd;have D:=zh hr;have g:Hid (Good n l.key l.sub/\qC6 p/\kl p.k l.key=false/\1<=cnt n l.sub/\l.key.size<=8):=⟨F,M,L,oM,J⟩;have C:=zh (n3 ai aj N);have ak:=zh u;clear hd hr u F N J L ai ar aj M;rw[τ];go_enter func74,ntmps74;go_wp2_with fail;obtain⟨w0,ag,P,T,U,Q,av⟩:=alD w (.cells (ϟ E.V h) 89) (.cells #[.string p.k,.string p.v] 42) (.cells ϛ 89)
 rw[<-ag];clear ag;have G:=Env.To.of0 a Q;refine (qV1 E n h l w0 (Env.RL D a G) ak).mono ?_;rintro e w1 ⟨rfl,j⟩;have aq:=G.tail j;have d:=n2 (j.hp P) (j.hp T);have V:=j.hp U;clear j G Q P T U;go_wp2_with fail;refine wp_region_held_drew (S:=λW=>Ϙ W w.heap.size (.cells (ϟ E.V h) 89)/\W.heap[w.heap.size+1]?=some (.cells #[.string p.k,.string p.v] 42)) kR d (λ_=>?_);refine zW 0 (.agg (ϟ E.V h)) d (·.1) ?_;refine zW 1 (.agg (ϟ E.V h)) d (·.1) ?_;refine zP 2 w.heap.size 1 d ?_;refine zW 3 (.agg (ϡ h)) d (·.1) ?_;refine zW 4 (.agg (ϟ E.V h)) d (·.1) ?_;refine zW 6 (.agg #[.string p.k,.string p.v]) d (·.2) ?_;refine zU 7 (.agg #[.string p.k,.string p.v]) d ?_;refine zq 5 λK hK=>?_;go_simp;have A:=aq.tail (kF.drew);refine (qX3 E n h l w1.drew A.dev (Env.RL D a A)).mono ?_;rintro e wt ⟨qt,rfl,R,s⟩;have I:=A.trans s;have y:=n2 (s.new (k:=w.heap.size) a oM d.1) (s.new (k:=w.heap.size+1) a oM d.2);have ab:=s.new (k:=w.heap.size+1+1) a oM V;refine hK.out _ _ y (λ_=>?_);clear hK K d A s V
 try simp only[zZ]
 refine zq 8 λK hK=>?_;go_simp;refine (kR9 E n hn h h l qt p wt I.dev D.1 R g.1 g.2.1 g.2.2.1 g.2.2.2.1 g.2.2.2.2).mono ?_;rintro e w2 ⟨v2,rfl,X,q⟩;have H:=I.trans q;have v:=n2 (q.new (k:=w.heap.size) a oM y.1) (q.new (k:=w.heap.size+1) a oM y.2);have ap:=q.new (k:=w.heap.size+1+1) a oM ab;refine hK.out _ _ v (λ_=>?_);clear hK K y I q ab R
 try simp only[zZ]
 refine zq 9 λK hK=>?_;go_simp;refine (zT8 E n hn h v2 l 0 (qD8 n l p) w2 H.dev X C.1 C.2.1 C.2.2 oM).mono ?_;rintro e w3 ⟨b,rfl,Y,r⟩;have ad:=H.trans r;have x:=n2 (r.new a oM v.1) (r.new a oM v.2);have f:=r.new a oM ap;refine hK.out _ _ x (λ_=>?_);clear hK K v r H X
 try simp only[zZ]
 have r0:=ξ f;have ao:=φ f;refine zq 10 λK hK=>?_;rw[τ];go_simp;have af:=qN1 (ϖ E.V) (.string b.key) (ϊ b.b) (.int .u64 b.s) (.pointer b.ptr) f;obtain⟨w4,ah,Z,o⟩:=gE af;rw[<-ah];clear ah af r0 ao;have ae:=ad.store' oM f dC o;have O:Apt w3 [w.heap.size+1+1] qF5:=λi hi c t au e=>by
  rw[mS hi,f] at e;cases e;decide
 have aa:RR E w4 b (Root.put (.at n l) p):=by
  have B:=Y;show RR E w4 b (qE0 n (qD8 n l p))
  cases hu:qE0 n (qD8 n l p) with
  | none=>rw[hu] at B;exact B
  | «at» m z=>rw[hu] at B;exact RL.keep B o O
 have ac:=And.intro (o.ho x.1) (o.hp x.2);refine hK.out _ _ ac (λ_=>?_);refine zd ?_;have am:=zh aa;have an:=zh ae;have al:=zh Z;clear ac x f ae aa Z o O Y ad;go_wp2;exact bodyPost_ret (results_cell_row results74 _ _ (w.heap.size+1+1) 89 (ϟ E.V b) (0,0) _ rfl al underlying89 rfl kR) rfl ⟨b,rfl,am,an⟩
theorem kO7(E)(n:Nat)(hn:n<=100000)(h)(l)(k)(w)(hd:E.Dev w)(hr:RL E.O n w h l)(hg:RGood (.at n l))(ax:(cont n l.sub).length<=1000000)(A:∃ q∈cont n l.sub,q.k=k):
  Calls prog 63 #[τ E.V h,.string k] w λe w'=>∃ b,e=.returned (τ E.V b)/\RR E w' b (qE0 n (qC3 n l k))/\E.To w w':=by
 have ak:=zh hg;obtain⟨j,F,o⟩:=hg;have M:l.key.size<=8:=by rw[j];decide
 have N:kl k l.key=false:=by rw[j];exact qN5 _
 obtain⟨ai,ay,aj⟩:=qX4 n l k F N M A o;have ae:(qG1 (cont n l.sub) k).isSome=true:=by
  obtain⟨q,av,aw⟩:=A;unfold qG1;rw[List.find?_isSome];exact⟨q,av,by simp[aw]⟩
 have a:=zh hd;have D:=zh hr;have g:=zh (n5 F N M A o);have C:=zh (n3 ai aj o);have an:=zh ae;have az:=zh j;clear hd hr j F o M N ai ay aj A ae;rw[τ];go_enter func63,ntmps63;go_wp2_with fail;obtain⟨w0,ag,P,T,Q,a1⟩:=alC w (.cells (ϟ E.V h) 89) (.cells ϛ 89)
 rw[<-ag];clear ag;have r:=Env.To.of0 a Q;refine (qZ0 E (.at n l) h k w0 r.dev (Env.RL D a r) ak ax).mono ?_;rintro e w1 ⟨rfl,x⟩;have au:=r.trans x;rw[show (qG1 (Root.cont (.at n l)) k).isSome=true from an.out];have aq:=x.new a oM P;have U:=x.new a oM T;have d:=n2 aq trivial;clear x r Q P T;go_wp2_with fail;refine wp_region_held_drew (S:=λW=>Ϙ W w.heap.size (.cells (ϟ E.V h) 89)/\True) kR d (λ_=>?_);refine zW 0 (.agg (ϟ E.V h)) d (·.1) ?_;refine zW 1 (.agg (ϟ E.V h)) d (·.1) ?_;refine zP 2 w.heap.size 1 d ?_;refine zW 3 (.agg (ϡ h)) d (·.1) ?_;refine zW 4 (.agg (ϟ E.V h)) d (·.1) ?_;refine zU 6 (.string k) d ?_;refine zq 5 λK hK=>?_;go_simp;have v:=au.tail (kF.drew);refine (qX3 E n h l w1.drew v.dev (Env.RL D a v)).mono ?_;rintro e wt ⟨qt,rfl,R,y⟩;have L:=v.trans y;have I:=n2 (y.new (k:=w.heap.size) a oM d.1) trivial;have aa:=y.new (k:=w.heap.size+1) a oM U;refine hK.out _ _ I (λ_=>?_);clear hK K d v y U
 try simp only[zZ]
 refine zq 7 λK hK=>?_;go_simp;refine (kS3 E n hn h h l qt k wt L.dev D.1 R g.1 g.2.1 g.2.2.1 g.2.2.2.1 g.2.2.2.2).mono ?_;rintro e w2 ⟨v2,rfl,V,s⟩;have J:=L.trans s;have G:=n2 (s.new (k:=w.heap.size) a oM I.1) trivial;have ar:=s.new (k:=w.heap.size+1) a oM aa;refine hK.out _ _ G (λ_=>?_);clear hK K I L s aa R
 try simp only[zZ]
 refine zq 8 λK hK=>?_;go_simp;refine (zT8 E n hn h v2 l 1 (qC3 n l k) w2 J.dev V C.1 C.2.1 C.2.2 oM).mono ?_;rintro e w3 ⟨b,rfl,X,u⟩;have ac:=J.trans u;have H:=n2 (u.new a oM G.1) trivial;have f:=u.new a oM ar;refine hK.out _ _ H (λ_=>?_);clear hK K G u J V
 try simp only[zZ]
 have r0:=ξ f;have ap:=φ f;refine zq 9 λK hK=>?_;rw[τ];go_simp;have af:=qN1 (ϖ E.V) (.string b.key) (ϊ b.b) (.int .u64 b.s) (.pointer b.ptr) f;obtain⟨w4,ah,Y,p⟩:=gE af;rw[<-ah];clear ah af r0 ap;have ad:=ac.store' oM f dC p;have O:Apt w3 [w.heap.size+1] qF5:=λi hi c t a0 e=>by
  rw[mS hi,f] at e;cases e;decide
 have Z:RR E w4 b (qE0 n (qC3 n l k)):=by
  have B:=X;show RR E w4 b (qE0 n (qC3 n l k))
  cases hu:qE0 n (qC3 n l k) with
  | none=>rw[hu] at B;exact B
  | «at» m z=>rw[hu] at B;exact RL.keep B p O
 have ab:=And.intro (p.hp H.1) trivial;refine hK.out _ _ ab (λ_=>?_);refine zd ?_;have am:=zh Z;have ao:=zh ad;have al:=zh Y;clear ab H f ad Z Y p O X ac;go_wp2;exact bodyPost_ret (results_cell_row results63 _ _ (w.heap.size+1) 89 (ϟ E.V b) (0,0) _ rfl al underlying89 rfl kR) rfl ⟨b,rfl,am,ao⟩
theorem RR.keepT{E}{S}{w w'}{h}{r}(a:RR E w h r)(hK:Kp S w w')(b:Apt w S qF5):RR E w' h r:=by
 cases r with
 | none=>exact a
 | «at» n l=>exact RL.keep a hK b
theorem kO8(E)(r)(h)(k)(w)(p:E.Dev w)(v:RR E w h r)(s:RGood r)(F:r.cont.length<=1000000)(u:¬∃ q∈r.cont,q.k=k):
  Calls prog 63 #[τ E.V h,.string k] w λe z=>∃ h',e=.returned (τ E.V h')/\RR E z h' r/\E.To w z:=by
 have t:(qG1 r.cont k).isSome=false:=by
  unfold qG1;rw[List.find?_eq_none.2 (λq D=>by simp;exact λe=>u ⟨q,D,e⟩)];rfl
 have a:=zh p;have i:=zh v;have A:=zh s;have B:=zh t;clear p v s t u;rw[τ];go_enter func63,ntmps63;go_wp2_with fail;obtain⟨G,y,j,m,l,L⟩:=alC w (.cells (ϟ E.V h) 89) (.cells ϛ 89)
 rw[<-y];clear y;have c:=Env.To.of0 a l;refine (qZ0 E r h k G c.dev (RR.to i a c) A F).mono ?_;rintro e w1 ⟨rfl,d⟩;have n:=c.trans d;rw[B.out];have f:=d.new a oM j;have b:=d.new a oM m;have J:=ζ f;have K:=ζ b;have H:=ξ f;have M:=ξ b;have I:=φ b;have g:=zh b;have C:=zh n;clear d c l j m f b n;go_wp2;have x:=qN1 (ϖ E.V) (.string h.key) (ϊ h.b) (.int .u64 h.s) (.pointer h.ptr) g.out;have o:=C.out.store' oM g dC x.2;exact bodyPost_ret (results_cell_row results63 _ _ (w.heap.size+1) 89 (ϟ E.V h) (0,0) _ rfl x.1 underlying89 rfl kR) rfl ⟨h,rfl,RR.to i a o,o⟩
theorem kO9(E)(r)(h)(k)(w)(d:E.Dev w)(f:RR E w h r)(c:RGood r)(i:r.cont.length<=100000):
  Calls prog 63 #[τ E.V h,.string k] w λe g=>∃ h',e=.returned (τ E.V h')/\RR E g h' (r.del k)/\E.To w g:=by
 by_cases a:∃ q∈r.cont,q.k=k
 .cases r with
  | none=>obtain⟨q,a,_⟩:=a;cases a
  | «at» n l=>
   have b:∃ q∈cont n l.sub,q.k=k:=a;have j:=zS1 c;have m:(cont n l.sub).length<=100000:=i;have e:Root.del (.at n l) k=qE0 n (qC3 n l k):=by
    show (if (cont n l.sub).any (λq=>decide (q.k=k)) then qE0 n (qC3 n l k) else .at n l)=_;rw[if_pos (by simpa using b)]
   rw[e];exact kO7 E n oM h l k w d f c oM b
 .have e:r.del k=r:=by
   cases r with
   | none=>rfl
   | «at» n l=>
    have b:¬∃ q∈cont n l.sub,q.k=k:=a;show (if (cont n l.sub).any (λq=>decide (q.k=k)) then qE0 n (qC3 n l k) else .at n l)=_;rw[if_neg (by simpa using b)]
  rw[e];exact kO8 E r h k w d f c oM a
theorem kQ1(E)(p)(w)(hd:E.Dev w)(N:qC6 p):
  Calls prog 74 #[τ E.V ⟨⟨#[]⟩,0,0,none⟩,.agg #[.string p.k,.string p.v]] w λe D=>∃ d,e=.returned (τ E.V d)/\RR E D d (Root.put .none p)/\E.To w D:=by
 have hs:Sorted [p]:=by simp[Sorted]
 have aj:ρ p<=21:=by obtain⟨h1,h2,h3⟩:=N;unfold ρ;omega
 have M:meas ρ [p]<=210:=by simp[meas];omega
 obtain⟨r1,r2,r3⟩:=qZ5 (lo:=⟨#[]⟩) (ps:=[p]) hs (λq hq=>by rw[mS hq];exact⟨N,qN5 _⟩) M dC;have V:Made 0 (⟨⟨#[]⟩,none,[p]⟩:Lnk (List KV)) 0 (qD5 ⟨#[]⟩ [p]):=by
  rcases r3 with⟨a,F,G,H,I⟩|⟨a,b,F,G,H,I,e5,e6⟩
  .exact .inl ⟨a,F,G,H,by rw[I];exact lR⟩
  .exact .inr ⟨a,b,F,G,H,I,e5,e6⟩
 have s:=zh hd;have P:Hid (Row0 0 (⟨⟨#[]⟩,none,[p]⟩:Lnk (List KV)).key (qD5 ⟨#[]⟩ [p])/\Made 0 (⟨⟨#[]⟩,none,[p]⟩:Lnk (List KV)) 0 (qD5 ⟨#[]⟩ [p])):=⟨r1,V⟩;have O:Hid ((∀ q∈[p],ρ q<=21)/\meas ρ [p]<=210):=⟨λq hq=>by rw[mS hq];exact aj,M⟩;clear hd N hs aj M r1 r2 r3 V;obtain⟨h,L⟩:∃ h:HL,h=⟨⟨#[]⟩,0,0,none⟩:=⟨_,rfl⟩;have HH:=zh L;rw[<-L];clear L;rw[τ];go_enter func74,ntmps74;go_wp2_with fail;obtain⟨f,am,R,X,Y,U,a0⟩:∃ f,f=((w.alloc (.cells (ϟ E.V h) 89)).alloc (.cells #[.string p.k,.string p.v] 42)).alloc (.cells ϛ 89)/\Ϙ f w.heap.size (.cells (ϟ E.V h) 89)/\f.heap[w.heap.size+1]?=some (.cells #[.string p.k,.string p.v] 42)/\f.heap[w.heap.size+1+1]?=some (.cells ϛ 89)/\Kp [] w f/\f.heap.size=w.heap.size+3:=by
  refine⟨_,rfl,ν _ (ν _ (υ _ _)),ν _ ?_,?_,((kF.alloc _).alloc _).alloc _,sM⟩
  .have e:=υ (w.alloc (.cells (ϟ E.V h) 89)) (.cells #[.string p.k,.string p.v] 42);simpa using e
  .have e:=υ ((w.alloc (.cells (ϟ E.V h) 89)).alloc (.cells #[.string p.k,.string p.v] 42)) (.cells ϛ 89);simpa using e
 rw[<-am];clear am;have af:=Env.To.of0 s U;have ay:Ω 92 #[τ E.V h] f λe D=>e=ϱ (.bool true)/\Kp [] f D:=by rw[HH.out];exact qY7 E.V f
 refine ay.mono ?_;rintro e w1 ⟨rfl,l⟩;have ax:=af.tail l;have g:=n2 (l.hp R) (l.hp X);have av:=l.hp Y;clear l af U R X Y;go_wp2_with fail;refine wp_region_held_drew (S:=λW=>Ϙ W w.heap.size (.cells (ϟ E.V h) 89)/\W.heap[w.heap.size+1]?=some (.cells #[.string p.k,.string p.v] 42)) kR g (λ_=>?_);refine zW 0 (.agg (ϟ E.V h)) g (·.1) ?_;refine zW 1 (.agg #[.string p.k,.string p.v]) g (·.2) ?_;refine zU 2 (.agg #[.string p.k,.string p.v]) g ?_;refine zq 3 λK hK=>?_;go_simp;obtain⟨wb,ao,T,o⟩:=alF w1 (.cells #[.string p.k,.string p.v] 185);rw[<-ao];clear ao;have A:=And.intro (o.hp g.1) (o.hp g.2);have ad:=o.hp av;have ai:=ax.tail o;refine hK.out _ _ A (λ_=>?_);clear hK K g
 try simp only[zZ]
 refine zq 4 λK hK=>?_;go_simp;have ak:Slc wb 185 2 (.slice (some ⟨w1.heap.size,0,none⟩) 1 1) [p].length (qA3 [p]):=⟨rfl,.inr ⟨w1.heap.size,0,1,_,_,rfl,lR,lR,T,λj u B=>by simpa [qA3,pcs] using B⟩⟩;refine (qZ6 E.O ⟨#[]⟩ _ [p] wb ak sM O.1 O.2).mono ?_;rintro e w2 ⟨v2,rfl,Z,v⟩;have J:=ai.tail v;have x:=n2 (v.hp A.1) (v.hp A.2);have aw:=v.hp ad;refine hK.out _ _ x (λ_=>?_);clear hK K A ai ak T o ad
 try simp only[zZ]
 refine zq 5 λK hK=>?_;go_simp;refine (zT8 E 0 oM h v2 (⟨⟨#[]⟩,none,[p]⟩:Lnk (List KV)) 0 (qD5 ⟨#[]⟩ [p]) w2 J.dev Z P.1 P.2 (by show 0<1;omega) oM).mono ?_;rintro e w3 ⟨d,rfl,aa,r⟩;have ag:=J.trans r;have y:=n2 (r.new s oM x.1) (r.new s oM x.2);have k:=r.new s oM aw;refine hK.out _ _ y (λ_=>?_);clear hK K x r J Z
 try simp only[zZ]
 have r0:=ξ k;have au:=φ k;refine zq 6 λK hK=>?_;rw[τ];go_simp;have al:=qN1 (ϖ E.V) (.string d.key) (ϊ d.b) (.int .u64 d.s) (.pointer d.ptr) k;obtain⟨w4,an,ab,n⟩:=gE al;rw[<-an];clear an al r0 au;have ah:=ag.store' oM k dC n;have Q:Apt w3 [w.heap.size+1+1] qF5:=λi hi c t az e=>by
  rw[mS hi,k] at e;cases e;decide
 have ac:RR E w4 d (Root.put .none p):=by
  have C:=aa;show RR E w4 d (qE0 0 (qD5 ⟨#[]⟩ [p]))
  cases B:qE0 0 (qD5 ⟨#[]⟩ [p]) with
  | none=>rw[B] at C;exact C
  | «at» m z=>rw[B] at C;exact RL.keep C n Q
 have ae:=And.intro (n.ho y.1) (n.hp y.2);refine hK.out _ _ ae (λ_=>?_);refine zd ?_;have aq:=zh ac;have ar:=zh ah;have ap:=zh ab;clear ae y k ah ac ab n Q aa ag;go_wp2;exact bodyPost_ret (results_cell_row results74 _ _ (w.heap.size+1+1) 89 (ϟ E.V d) (0,0) _ rfl ap underlying89 rfl kR) rfl ⟨d,rfl,aq,ar⟩
theorem zI4(E)(r)(h)(p)(w)(a:E.Dev w)(d:RR E w h r)(b:RGood r)(i:r.cont.length<=100000)(c:qC6 p):
  Calls prog 74 #[τ E.V h,.agg #[.string p.k,.string p.v]] w λe f=>∃ h',e=.returned (τ E.V h')/\RR E f h' (r.put p)/\E.To w f:=by
 cases r with
 | none=>
  have g:h=⟨⟨#[]⟩,0,0,none⟩:=d;subst g;exact kQ1 E p w a c
 | «at» n l=>
  have j:=zS1 b;have k:(cont n l.sub).length<=100000:=i;exact kQ0 E n oM h l p w a d b c
def Asks(E:Env)(w:World)(g:Nat)(cap:Array Value)(f:ByteArray→Bool):Prop:=∀ W k,E.To w W→Calls prog g (#[.string k]++cap) W fun e W'=>e=.returned (.bool (f k))∧Kp [] W W'
theorem Asks.to{E}{w W}{g:Nat}{cap}{f:ByteArray->Bool}(h:Asks E w g cap f)(b:E.To w W):Asks E W g cap f:=λa k c=>h a k (b.trans c)
theorem jM6(g F:Nat)(cap:Array Value)(p:KV)(b:Bool)(w:World)(a:w.heap[F]?=some (.cells #[.func (.func g) #[] cap] 92))
  (l:∀ (args:Array Value) (W:World),Sem.run prog (callFunc g args) W=.ok (.enter g args) W)
  (c:∀ W,Kp [] w W->Calls prog g (#[.string p.k]++cap) W λe W'=>e=.returned (.bool b)/\Kp [] W W'):
  Calls prog 147 #[.agg #[.string p.k,.string p.v],.pointer (some ⟨F,0,none⟩)] w λe i=>e=.returned (.bool b)/\Kp [] w i:=by
 have d:=zh c;clear c;have k:=ζ a;have j:=ϻ a 0;go_enter func147,ntmps147;go_wp2_with fail;refine (d _ (kF.alloc _)).mono ?_;rintro e w1 ⟨rfl,f⟩;have h:Kp [] w w1:=(kF.alloc _).tr f;go_wp2;go_ret;exact⟨rfl,h⟩
theorem jM7(g F:Nat)(cap:Array Value)(p:HL)(b:Bool)(w:World)(a:w.heap[F]?=some (.cells #[.func (.func g) #[] cap] 92))
  (l:∀ (args:Array Value) (W:World),Sem.run prog (callFunc g args) W=.ok (.enter g args) W)
  (c:∀ W,Kp [] w W->Calls prog g (#[.string p.key]++cap) W λe W'=>e=.returned (.bool b)/\Kp [] W W'):
  Calls prog 149 #[.agg #[.string p.key,.int .i64 p.b,.int .u64 p.s,.pointer p.ptr],.pointer (some ⟨F,0,none⟩)] w λe i=>e=.returned (.bool !b)/\Kp [] w i:=by
 have d:=zh c;clear c;have k:=ζ a;have j:=ϻ a 0;go_enter func149,ntmps149;go_wp2_with fail;refine (d _ (kF.alloc _)).mono ?_;rintro e w1 ⟨rfl,f⟩;have h:Kp [] w w1:=(kF.alloc _).tr f;go_wp2;go_ret;exact⟨rfl,h⟩
def qC7:Option KV→Value
 | some p=>.tuple #[.agg #[.string p.k,.string p.v],.bool true]
 | none=>.tuple #[.agg #[.string ⟨#[]⟩,.string ⟨#[]⟩],.bool false]
theorem qI2{W}{k:Nat}{a b}(v0 v1)(h:W.heap[k]?=some (.cells #[a,b] 42)):
  ((W.setCell ⟨k,0,none⟩ v0).setCell ⟨k,1,none⟩ v1).heap[k]?=some (.cells #[v0,v1] 42)/\Kp [k] W ((W.setCell ⟨k,0,none⟩ v0).setCell ⟨k,1,none⟩ v1):=
 ⟨μ (μ h 0 _) 1 _,((Kp.refl _ W).sc _).sc _⟩
theorem zM1{l:List KV}{f:KV->Bool}:l.find? f=l[l.findIdx f]?:=by
 induction l with
 | nil=>rfl
 | cons a l ih=>
  rw[List.find?_cons,List.findIdx_cons]
  cases f a with
  | true=>simp
  | false=>simpa using ih
theorem jN3(E:Env)(r:HL)(l:Lnk (Tn 0))(q:Nat)(g:Nat)(cap:Array Value)(f:ByteArray->Bool)(w:World)(X:E.Dev w)(hN:RN E.O 0 w q l.sub)(Y:Good 0 l.key l.sub)(ac:Up f)(U:Asks E w g cap f)
  (ah:∀ (args:Array Value) (W:World),Sem.run prog (callFunc g args) W=.ok (.enter g args) W):
  Calls prog 93 #[τ E.V r,.pointer (some ⟨q,0,none⟩),.func (.func g) #[] cap] w λe w'=>e=.returned (qC7 ((cont 0 l.sub).find? λq=>f q.k))/\E.To w w':=by
 have ax:=zM;have aq:(prs l.sub).length<=10000:=qK0 0 l.key l.sub Y;have am:Sorted (prs l.sub):=Y.sorted;have HD:=zh X;have HA:=zh U;have ae:Hid (∀ i j (t:i<(prs l.sub).length) (H:j<(prs l.sub).length),i<=j->f (prs l.sub)[i].k=true->f (prs l.sub)[j].k=true):=by
  show ∀ i j (t:i<(prs l.sub).length) (H:j<(prs l.sub).length),_;intro i j t H av d;by_cases e:i=j
  .subst e;exact d
  .exact ac _ _ (pG am i j t H oM) d
 obtain⟨vp,u,ab⟩:=hN;have aj:=ζ u;have ak:q<w.heap.size+1:=oM
 have aa:q<w.heap.size+1+1:=oM
 have q0:=ξ u;simp only[ι,zG,zH,zI] at q0;clear X ac U;rw[τ];go_enter func93,ntmps93;go_wp2_with fail;obtain⟨w1,ad,af,Q,S,s,al⟩:=alD w (.cells (ϟ E.V r) 89) (.cells #[.func (.func g) #[] cap] 92) (.cells ϝ 42)
 rw[<-ad];clear ad q0 aj ak aa al;have C:=Env.To.of0 HD s;have hq:=s.hp u;have J:=ab.keep0 s;clear u ab af;refine (zM2 147 _ vp (prs l.sub) (λp=>f p.k) w1 J oM ae ?_ ?_).mono ?_
 .intro args W;simp[go_sem,func147]
 .intro W R i t;exact jM6 g (w.heap.size+1) cap (prs l.sub)[i] (f (prs l.sub)[i].k) W (R.hp Q) ah (λW' ag=>HA W' _ ((C.tail R).tail ag))
 rintro e w2 ⟨rfl,h⟩;have T:=C.tail h;have k:=h.hp S;have I:=h.hp hq;have y:=J.keep0 h;have F:(cont 0 l.sub).find? (λq=>f q.k)=(prs l.sub)[(prs l.sub).findIdx (λp=>f p.k)]?:=zM1;obtain⟨i,G⟩:∃ i,(prs l.sub).findIdx (λp=>f p.k)=i:=⟨_,rfl⟩;rw[G] at F |-;have L:=zh F;have aw:i<=(prs l.sub).length:=by rw[<-G];exact fL
 have aa:=ζ I;have ap:=ζ k;obtain⟨N,P,z⟩:∃ N P,vp=.slice N (prs l.sub).length P:=by
  rcases y.val with⟨h0,b,c,B,_⟩|⟨g,K,cap,cur,fr,B,_⟩
  .rw[h0];exact⟨b,c,B⟩
  .exact⟨_,cap,B⟩
 subst z;have y1:=ξ I 1;simp only[ι,zG,zH,zI] at y1;have z0:=ξ k;have ao:=φ k;have M:=zh T;have o:=zh k;clear h T k S hq J I Q C F G s;by_cases Z:i<(prs l.sub).length
 .have ai:(i:Int)<((prs l.sub).length:Int):=oM
  obtain⟨gb,K,an,cur,fr,z,ar,x,V⟩:=y.pair oM;simp only[vJ,true_and] at z;obtain⟨rfl,rfl⟩:=z;obtain⟨c0,O⟩:=V i Z;obtain⟨p,d⟩:=eY ((prs l.sub)[i]);rw[d] at c0 O;have A:Hid ((prs l.sub)[i]?=some p):=by show _=_;rw[gQ Z,d]
  have a0:=ξ x (K+i*2);rw[c0] at a0;have a1:=ξ x (K+i*2+1);rw[O] at a1;have au:=ζ x;clear V y x d;go_wp2;have a:=qI2 (.string p.k) (.string p.v) o.out;have D:=M.out.store' oM o dC a.2;have m:=ξ a.1 0;have n:=ξ a.1 1;simp only[zG,zH,zI] at m n;refine bodyPost_ret (v:=qC7 (some p)) ?_ rfl ⟨by rw[L.out,A.out],D⟩;simp[results,results93,go_sem,m,n,qC7]
 .have ai:¬(i:Int)<((prs l.sub).length:Int):=oM
  clear y;have A:Hid ((prs l.sub)[i]?=none):=by show _=_;rw[gN oM]
  go_wp2;have a:=qI2 (.string ⟨#[]⟩) (.string ⟨#[]⟩) o.out;have D:=M.out.store' oM o dC a.2;have m:=ξ a.1 0;have n:=ξ a.1 1;simp only[zG,zH,zI] at m n;refine bodyPost_ret (v:=qC7 none) ?_ rfl ⟨by rw[L.out,A.out],D⟩;simp[results,results93,go_sem,m,n,qC7]
end Go.Proofs.YtdohpenfkdckiaaGreatDoor
