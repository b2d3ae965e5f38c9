import Derived.Test.YtdohpenfkdckiaaGreatDoorJ09
import Derived.Test.YtdohpenfkdckiaaGreatDoorJ11
set_option linter.all false
set_option maxRecDepth 100000
set_option maxHeartbeats 20000000
namespace Go.Proofs.YtdohpenfkdckiaaGreatDoor
open Go.Proofs.Tryz
open Go.RowKit
theorem kQ5(E:Env)(r h:HL)(l:Lnk (Tn 0))(q:Nat)(k:ByteArray)(w:World)(U:E.Dev w)(ab:h.key=l.key)(hN:RN E.O 0 w q l.sub)(B:Good 0 l.key l.sub)(ad:∃ q∈cont 0 l.sub,q.k=k):
  Calls prog 104 #[τ E.V r,qC1 h,.pointer (some ⟨q,0,none⟩),.string k] w λe w'=>∃ v',e=.returned v'/\RLs E.O 0 w' v' (qC8 0 l k)/\E.To w w':=by
 have aq:(prs l.sub).length<=10000:=qK8 0 l.key l.sub B;have J:Sorted (prs l.sub):=B.sorted;have p:=(zN8 J k).2 ad;have ar:qB9 (prs l.sub) k<(prs l.sub).length:=by
  unfold qG1 at p;by_cases h:qB9 (prs l.sub) k<(prs l.sub).length
  .exact h
  .rw[gN oM] at p;cases p
 obtain⟨f,s⟩:=eY ((prs l.sub).take (qB9 (prs l.sub) k)++[]++(prs l.sub).drop (qB9 (prs l.sub) k+1));have V:f=del k (prs l.sub):=by rw[<-s,aN];exact (xB5 J p).symm
 have X:meas θ f<=210:=by
  have m:=qN6 θ (prs l.sub) (qB9 (prs l.sub) k);have M:=qN6 θ ((prs l.sub).drop (qB9 (prs l.sub) k)) 1;have h3:meas θ (prs l.sub)<=126:=B.fits;rw[List.drop_drop] at M;rw[<-s,qE2,qE2,qD1];omega
 have ah:∀ q∈f,θ q<=21:=by
  intro q d;rw[V] at d;obtain⟨⟨m,M,h3⟩,_⟩:=B.all q (zH4.1 d).1;unfold θ;omega
 have aj:qC8 0 l k=qE1 l.key f:=by rw[<-s,aN];rfl
 have ak:=zh ab;have HD:=zh U;have C:=zh (n2 X ah);have an:=zh aj;have L:=zh s;obtain⟨vp,d,ag⟩:=hN;have au:=ζ d;have av:q<w.heap.size+1:=oM
 have aw:q<w.heap.size+1+1:=oM
 have q0:=ξ d 0;simp only[χ,zG,zH,zI] at q0;clear U ab X ah aj V s p ad;rw[τ,qC1];go_enter func104,ntmps104;go_wp2_with fail;obtain⟨w1,ai,ao,N,v,ax⟩:=alC w (.cells (ϟ E.V r) 89) (.cells (ϡ h) 87)
 rw[<-ai];clear ai ao ax q0 au av aw;have P:=Env.To.of0 HD v;have G:=v.hp d;have I:=ag.keep0 v;clear d ag;refine (zJ3 q 0 vp _ (prs l.sub) k w1 G I oM J).mono ?_;rintro e w2 ⟨rfl,n⟩;have ap:=P.tail n;have ac:=n.hp G;have ae:=I.keep0 n;have O:=n.hp N;clear n G I N P v;obtain⟨t,u,hv⟩:∃ t u,vp=.slice t (prs l.sub).length u:=by
  rcases ae.val with⟨h0,b,c,m,_⟩|⟨g,az,cap,cur,fr,m,_⟩
  .rw[h0];exact⟨b,c,m⟩
  .exact⟨_,cap,m⟩
 subst hv;obtain⟨i,Y⟩:=eY (qB9 (prs l.sub) k);rw[Y] at ar L |-;clear Y;go_wp2_with fail;obtain⟨j,Z⟩:=eX (i+1);have ay:IntKind.i64.wrap ((i:Int)+1)=(j:Int):=by rw[wK];omega
 have HJ:=zh Z;clear Z;have a:=n2 ac O;refine wp_region_held_drew (S:=λW=>Ϙ W q (χ 0 (.slice t (prs l.sub).length u) (.slice none 0 0))/\W.heap[w.heap.size+1]?=some (.cells (ϡ h) 87)) kR a (λ_=>?_);refine zU 0 (ϖ (w.heap.size+1)) a ?_;refine zV 1 (.string h.key) rfl (λW o=>by have c:=ξ o.2 0;simp at c;clear o;go_simp) a ?_;refine zP 2 q 0 a ?_;refine zP 3 q 0 a ?_;refine zP 4 q 1 a ?_;refine zV 5 (.slice t (prs l.sub).length u) rfl (λW o=>by have c:=ξ o.1 1;simp[χ] at c;clear o;go_simp) a ?_;refine zU 6 (ϊ i) a ?_;refine zU 7 (ϊ i) a ?_;refine zU 8 (ϊ j) a ?_;refine zq 9 λK hK=>?_;go_simp;have T:=ap.tail (kF.drew);have af:Slc w2.drew 185 2 (.slice none 0 0) ([]:List KV).length (qA4 []):=⟨rfl,.inl ⟨rfl,_,_,rfl,λ_=>rfl⟩⟩;have aa:=HJ.out;refine (zS7 _ _ (prs l.sub) [] i j w2.drew (ae.keep0 ((Kp.refl [] _).drew)) af oM oM oM aq sM).mono ?_;rintro e w4 ⟨v4,rfl,H,y⟩;rw[aa,L.out] at H;clear aa;have Q:=T.tail y;have A:=And.intro (y.heap (k:=q) ac sM) (y.heap (k:=w.heap.size+1) O sM);refine hK.out _ _ A (λ_=>?_);clear hK K y af T a
 try simp only[zZ]
 refine zq 10 λK hK=>?_;go_simp;refine (zA1 E.O h.key v4 f w4 H (by have:=qK0 θ f (λx _=>by unfold θ;omega);have:=C.out.1;omega) C.2 C.1).mono ?_;rintro e w5 ⟨v5,rfl,D,z⟩;have R:=Q.tail z;have F:=And.intro (z.hp A.1) (z.hp A.2);refine hK.out _ _ F (λ_=>?_);clear hK K A z Q
 try simp only[zZ]
 refine zq 11 λK hK=>?_;go_simp;refine hK.out _ _ F (λ_=>?_);refine zd ?_;rw[ak.out,<-an.out] at D;have al:=zh D;have am:=zh R;clear F D R H;go_wp2;go_ret;exact⟨v5,rfl,al,am⟩
theorem jQ0{a b:Lnk (Tn 0)}(e:Good 0 a.key a.sub)(f:Good 0 b.key b.sub)(j:cnt 0 a.sub<=2\/cnt 0 b.sub<=2):(∀ x∈prs a.sub++prs b.sub,θ x<=21)/\meas θ (prs a.sub++prs b.sub)<=210:=by
 have d:∀ x∈prs a.sub++prs b.sub,θ x<=21:=λp c=>by
  have k:qC3 p:=by
   rcases mA c with c|c
   .exact (e.all p c).1
   .exact (f.all p c).1
  obtain⟨g,h,i⟩:=k;unfold θ;omega
 refine⟨d,?_⟩;rw[qE2];have g:=qN5 θ 21 (prs a.sub) λp c=>d p (List.mem_append_left _ c);have h:=qN5 θ 21 (prs b.sub) λp c=>d p (List.mem_append_right _ c);have i:meas θ (prs a.sub)<=126:=e.fits;have l:meas θ (prs b.sub)<=126:=f.fits;have m:(prs a.sub).length<=2\/(prs b.sub).length<=2:=j;omega
theorem jP9{n:Nat}{a b:Lnk (Tn (n+1))}(e:Good (n+1) a.key a.sub)(f:Good (n+1) b.key b.sub)(g:cnt (n+1) a.sub<=2\/cnt (n+1) b.sub<=2):(∀ x∈η a.sub++η b.sub,qA2 x<=21)/\meas qA2 (η a.sub++η b.sub)<=210:=by
 have d:∀ x∈η a.sub++η b.sub,qA2 x<=21:=λp c=>by
  have m:p.key.size<=8:=by
   rcases mA c with c|c
   .exact (e.all p c).2.2
   .exact (f.all p c).2.2
  unfold qA2;omega
 refine⟨d,?_⟩;rw[qE2];have h:=qN5 qA2 21 (η a.sub) λp c=>d p (List.mem_append_left _ c);have i:=qN5 qA2 21 (η b.sub) λp c=>d p (List.mem_append_right _ c);have j:meas qA2 (η a.sub)<=126:=e.fits;have k:meas qA2 (η b.sub)<=126:=f.fits;have l:(η a.sub).length<=2\/(η b.sub).length<=2:=g;omega
theorem jU8(E:Env)(n:Nat)(b:Int)(G:(n:Int)<b)(H:n<=100000)(r:HL)(v:Value)(ls:List (Lnk (Tn n)))(i:Nat)(c:Lnk (Tn n))(w:World)(d:E.Dev w)(m:RLs E.O n w v ls)(f:ls[i]?=some c)(g:ls.length<=10000)(k:c.ref=none)(D:cnt n c.sub<=10000)(t:2<=ls.length)(x:∀ l∈ls,Good n l.key l.sub):
  Calls prog 164 #[τ E.V r,v,.int .i64 b,.int .i64 i] w λe B=>∃ v',e=.returned v'/\RLs E.O n B v' (qC6 n ls i)/\E.To w B:=by
 obtain⟨F,a⟩:=gS f;by_cases C:3<=cnt n c.sub
 .exact jU9 E n b r v ls i w d m F g (by rw[a];exact k) (by rw[a];exact C) (by rw[a];exact D)
 .obtain⟨j,y⟩:=eX (min i (ls.length-2));have z:j<ls.length:=oM
  have A:j+1<ls.length:=oM
  have o:=gQ z;have p:=gQ A;have q:=x ls[j] (gM z);have s:=x ls[j+1] (gM A);have u:cnt n ls[j].sub<=2\/cnt n ls[j+1].sub<=2:=by
   by_cases h:i=j
   .subst h;left;rw[a];omega
   .have:i=j+1:=oM
    subst this;right;rw[a];omega
  cases n with
  | zero=>exact jU5 E b oM r v ls i j (j+1) c ls[j] ls[j+1] w d m f g k oM t o p rfl y (jQ0 q s u)
  | succ n=>exact jU4 E n b oM r v ls i j (j+1) c ls[j] ls[j+1] w d m f g k oM t o p rfl y (jP9 q s u) oM
theorem kQ7{n:Nat}{l:Lnk (Tn (n+1))}{k:ByteArray}(h:Good (n+1) l.key l.sub)(P:kl k l.key=false)(hz:l.key.size<=8)(g:∃ q∈cont (n+1) l.sub,q.k=k)(N:1<cnt (n+1) l.sub):
  ∃ (m:Lnk (Tn n)) (j:List (Lnk (Tn n))),(η l.sub)[qA8 (η l.sub) k]?=some m/\j=(η l.sub).take (qA8 (η l.sub) k)++qC8 n m k++(η l.sub).drop (qA8 (η l.sub) k+1)/\
   Good n m.key m.sub/\kl k m.key=false/\m.key.size<=8/\(∃ q∈cont n m.sub,q.k=k)/\3<=cnt n m.sub/\(qC8 n m k).length<=2/\
   (∀ x∈j,Good n x.key x.sub)/\2<=j.length/\(∃ c,j[qA8 (η l.sub) k]?=some c/\c.ref=none)/\(∀ x∈qC6 n j (qA8 (η l.sub) k),qA2 x<=21)/\meas qA2 (qC6 n j (qA8 (η l.sub) k))<=210/\
   qC8 (n+1) l k=qC9 n l.key (qC6 n j (qA8 (η l.sub) k)):=by
 have z:1<(η l.sub).length:=N;have H:=h.row;obtain⟨A,m,B,e,p,F,R,S⟩:=zC3 (k:=k) H (by intro e;rw[e] at z;simp at z) P;have s:=λx d=>h.all x (by show x∈η l.sub;rw[e];exact d);have r:=s m sM;have T:=λb t q g=>qN3 (S b t) ((qK5 n b.key b.sub (s b (by simp[t])).1).2 q g).2;have G:∃ q∈cont n m.sub,q.k=k:=by
  obtain⟨q,g,v⟩:=g;have g:q∈(η l.sub).flatMap (λl=>cont n l.sub):=g;rw[e] at g;obtain⟨x,d,y⟩:=mF g;rcases mA d with d|d
  .exact absurd v (qI8 (R x d q y))
  .rcases List.mem_cons.1 d with rfl|d
   .exact⟨q,y,v⟩
   .exact absurd v.symm (qI8 (T x d q y))
 obtain⟨L,V,o⟩:=qX6 n m k r.1 F r.2.2 G oM;have U:∀ w∈qC8 n m k,1<=cnt n w.sub:=by
  rcases o with⟨a,f,_,_,e4⟩|⟨a,b,f,_,_,_,e5,e6⟩
  .rw[f];intro w i;rw[mS i];omega
  .rw[f];intro w i;simp only[mC,lN,or_false] at i;rcases i with rfl|rfl<;>omega
 have I:Row0 n l.key (A++m::B):=by rw[<-e];exact H
 have Q:=pA I.pair;have J:=zI9 I L o.ne U (λw i q g b t=>by
  have:q∈(qC8 n m k).flatMap (λl=>cont n l.sub):=List.mem_flatMap.2 ⟨w,i,g⟩;rw[V] at this;exact ((pC Q.2.1).1 b t).2 q (zH4.1 this).1)
 have ac:=o.meas (λw i=>(L.all w i).2);have O:meas qA2 (A++m::B)<=126:=by have C:meas qA2 (η l.sub)<=126:=h.fits;rw[e] at C;exact C
 have ad:meas qA2 (A++qC8 n m k++B)<=145:=by
  rw[qE2,qE2];rw[qE2,qC2] at O;omega
 have aa:1<=(qC8 n m k).length:=List.length_pos_iff.2 o.ne;have ab:(η l.sub).length<=(A++qC8 n m k++B).length:=by rw[e];simp;omega
 obtain⟨M,W,X,Y,Z⟩:=xK7 (m:=m) J (λx d=>(s x (by simp[d])).2.1) (λx d=>(s x (by simp[d])).2.1) o r.2.1 oM;have E:(η l.sub)[qA8 (η l.sub) k]?=some m:=by rw[<-p,e];simp
 have K:(η l.sub).take (qA8 (η l.sub) k)=A:=by rw[<-p,e];simp
 have D:(η l.sub).drop (qA8 (η l.sub) k+1)=B:=by
  rw[<-p,e,show A++m::B=(A++[m])++B by simp];exact List.drop_left' sM
 have i:qC8 (n+1) l k=qC9 n l.key (qC6 n (A++qC8 n m k++B) (qA8 (η l.sub) k)):=by
  show (match (η l.sub)[qA8 (η l.sub) k]? with
   | some m=>qC9 n l.key (qC6 n ((η l.sub).take (qA8 (η l.sub) k)++qC8 n m k++(η l.sub).drop (qA8 (η l.sub) k+1)) (qA8 (η l.sub) k))
   | none=>[])=_
  rw[E,K,D]
 refine⟨m,A++qC8 n m k++B,E,by rw[K,D],r.1,F,r.2.2,G,r.2.1,?_,λx d=>(J.all x d).1,oM,?_,?_,?_,i⟩
 .rcases o with⟨a,f,_⟩|⟨a,b,f,_⟩<;>rw[f]<;>simp
 .rw[<-p];rcases o with⟨a,f,_,u,_⟩|⟨a,b,f,_,u,_⟩
  .exact⟨a,by rw[f];simp,u⟩
  .exact⟨a,by rw[f];simp,u⟩
 .rw[<-p];intro x d;have:=(M.all x d).2;unfold qA2;omega
 .rw[<-p];omega
theorem kQ4(E:Env)(n:Nat)
  (ih:∀ (r h:HL) (l:Lnk (Tn n)) (q:Nat) (k:ByteArray) (w:World),E.Dev w->h.key=l.key->RN E.O n w q l.sub->Good n l.key l.sub->kl k l.key=false->l.key.size<=8->(∃ q∈cont n l.sub,q.k=k)->min n 1<cnt n l.sub->Calls prog 104 #[τ E.V r,qC1 h,.pointer (some ⟨q,0,none⟩),.string k] w λe w'=>∃ v',e=.returned v'/\RLs E.O n w' v' (qC8 n l k)/\E.To w w')
  (hn:n<=100000) (r h:HL) (l:Lnk (Tn (n+1))) (q:Nat) (k:ByteArray) (w:World) (hd:E.Dev w) (bn:h.key=l.key) (hN:RN E.O (n+1) w q l.sub) (hg:Good (n+1) l.key l.sub) (hk:kl k l.key=false) (hz:l.key.size<=8) (bq:∃ q∈cont (n+1) l.sub,q.k=k) (hc:1<cnt (n+1) l.sub):
  Calls prog 104 #[τ E.V r,qC1 h,.pointer (some ⟨q,0,none⟩),.string k] w λe w'=>∃ v',e=.returned v'/\RLs E.O (n+1) w' v' (qC8 (n+1) l k)/\E.To w w':=by
 have ch:(η l.sub).length<=10000:=(qK8 (n+1) l.key l.sub hg).1;obtain⟨m,z,hgm,hnw,m1,m2,m3,m4,m5,m6,n1,n2,⟨c,n3,n4⟩,n5,n6,n7⟩:=kQ7 hg hk hz bq hc;have bo:=hg.pair;obtain⟨i,ac⟩:=eY (qA8 (η l.sub) k);rw[ac] at hgm hnw n3 n5 n6 n7;have cm:z.length<=10000:=by
  have h1:=qK0 qA2 (qC6 n z i) (λx _=>by unfold qA2;omega);have h2:(η l.sub).length<=126:=by
   have h3:=qK0 qA2 (η l.sub) (λx _=>by unfold qA2;omega);have h4:meas qA2 (η l.sub)<=126:=hg.fits;omega
  rw[hnw];simp only[lA,lK,lD];omega
 have bk:cnt n c.sub<=10000:=by
  have gc:=n1 c (mO n3)
  cases n with
  | zero=>exact qK8 0 c.key c.sub gc
  | succ n=>exact (qK8 (n+1) c.key c.sub gc).1
 have ck:i<(η l.sub).length:=(gS hgm).1;obtain⟨ls,ad⟩:=eY (η l.sub);rw[ad] at hgm hnw ch ac ck;have b7:=zh ad;have b4:=zh ac;have b3:=zh hgm;have b8:=zh hnw;have HN:Hid ((∀ x∈z,Good n x.key x.sub)/\2<=z.length/\z[i]?=some c/\c.ref=none):=⟨n1,n2,n3,n4⟩;have HF:Hid ((∀ x∈qC6 n z i,qA2 x<=21)/\meas qA2 (qC6 n z i)<=210):=⟨n5,n6⟩;have ce:=zh n7;have b9:Hid (ls.Pairwise (qR2 n)):=by show List.Pairwise _ _;rw[<-ad];exact bo
 have P:Hid (Good n m.key m.sub/\kl k m.key=false/\m.key.size<=8/\(∃ q∈cont n m.sub,q.k=k)/\3<=cnt n m.sub):=⟨m1,m2,m3,m4,m5⟩;have b6:=zh bn;have F:=zh hd;have b2:=zh bk;have cd:=zh m6;have b5:=ih;clear hd bn hg hk hz bq hc hgm hnw n1 n2 n3 n4 n5 n6 n7 m1 m2 m3 m4 m5 m6 bo ad ac bk ih;obtain⟨vl,hq,a,ao,J⟩:=hN;rw[b7.out] at J;have ax:=zh J.1;have cs:i<a.length:=by have:=ax.out;omega
 have cj:a.length<=10000:=by have:=ax.out;omega
 obtain⟨B,p,A,cur,fr,rfl,cr,bs,bl⟩:=ao.link oM;obtain⟨x,_,bu,c0,c1,c2,c3⟩:=qS1 J bl b3.out;obtain⟨f,ak⟩:∃ f:Int,((n+1:Nat):Int)=f:=⟨_,rfl⟩;rw[ak] at hq;have af:=zh ak.symm;have ct:¬f=0:=oM
 have HB:=zh J;have ay:=zh bu;have br:Rise a:=zI7 J b9.out;have b1:a.findIdx (λl=>kl k l.key)-1=i:=by rw[zU7 J];exact b4
 have cn:=ζ hq;have co:q<w.heap.size+1:=oM
 have an:q<w.heap.size+1+1:=oM
 have q0:=ξ hq 0;simp only[χ,zG,zH,zI] at q0;clear bl J ak bu;rw[τ,qC1];go_enter func104,ntmps104;go_wp2_with fail;obtain⟨w1,bz,a6,a9,H,cq⟩:=alC w (.cells (ϟ E.V r) 89) (.cells (ϡ h) 87)
 rw[<-bz];clear bz;have bd:=Env.To.of0 F H;have al:=H.hp hq;have ap:=ao.keep0 H;have bt:=H.hp bs;have au:Hid (Both (RL E.O n w1) a ls):=HB.out.mono λx y v=>RL.keep v H (Apt.nil _ _);have az:Hid (RL E.O n w1 x m):=RL.keep ay H (Apt.nil _ _);clear hq ao bs HB ay q0 cn co an H;have ar:=zU8 q _ _ _ a k w1 al ap oM br;rw[b1] at ar;refine ar.mono ?_;rintro e w2 ⟨rfl,C⟩;have be:=bd.tail C;have ae:=C.hp al;have bw:=ap.keep0 C;have a7:=C.hp a6;have ba:=C.hp a9;have M:=C.hp bt;have aq:w.heap.size<=w2.heap.size:=by have:=C.size;omega
 have av:Hid (Both (RL E.O n w2) a ls):=au.out.mono λx y v=>RL.keep v C (Apt.nil _ _);have a4:Hid (RL E.O n w2 x m):=RL.keep az C (Apt.nil _ _);clear C al ap a9 bd a6 bt ar b1 br au az cq;have an:=ζ ae;have ci:=ζ M;have a0:=ξ M (p+i*4);rw[c0] at a0;have a1:=ξ M (p+i*4+1);rw[c1] at a1;have a2:=ξ M (p+i*4+2);rw[c2] at a2;have a3:=ξ M (p+i*4+3);rw[c3] at a3;have q2:=ξ ae 2;simp only[χ,zG,zH,zI] at q2;go_wp2_with fail;obtain⟨d,b0,ai,G⟩:=alA w2 (.cells (ϡ x) 87);rw[<-b0];clear b0;have u:=be.tail G;have bp:=G.hp ae;have aa:=bw.keep0 G;have R:=G.hp ba;have O:Hid (Both (RL E.O n d) a ls):=av.out.mono λx y v=>RL.keep v G (Apt.nil _ _);have a5:Hid (RL E.O n d x m):=RL.keep a4 G (Apt.nil _ _);obtain⟨X,bj⟩:=eY w2.heap.size;rw[bj] at ai aq |-;have b:Ϙ d q (χ f (.slice none 0 0) (.slice (some ⟨B,p,none⟩) a.length A))/\Ϙ d w.heap.size (.cells (ϟ E.V r) 89)/\Ϙ d X (.cells (ϡ x) 87):=⟨bp,G.hp a7,ai⟩;clear ae bw ba a7 M G ai av a4 be a0 a1 a2 a3 q2 an ci bj c0 c1 c2 c3 bp;obtain⟨j,hj⟩:=eX (i+1);have cu:IntKind.i64.wrap ((i:Int)+1)=(j:Int):=by rw[wK];omega
 have HJ:=zh hj;clear hj;refine wp_region_held_drew (S:=λW=>Ϙ W q (χ f (.slice none 0 0) (.slice (some ⟨B,p,none⟩) a.length A))/\Ϙ W w.heap.size (.cells (ϟ E.V r) 89)/\Ϙ W X (.cells (ϡ x) 87)) kR b (λ_=>?_);refine zP 0 q 0 b ?_;refine zP 1 q 0 b ?_;refine zP 2 q 2 b ?_;refine zV 3 (.slice (some ⟨B,p,none⟩) a.length A) rfl (λW o=>by have c:=ξ o.1 2;simp[χ] at c;clear o;go_simp) b ?_;refine zU 4 (ϊ i) b ?_;refine zU 5 (ϊ i) b ?_;refine zU 6 (ϊ j) b ?_;refine zW 7 (.agg (ϟ E.V r)) b (·.2.1) ?_;refine zW 8 (.agg (ϡ x)) b (·.2.2) ?_;refine zW 9 (.agg (ϟ E.V r)) b (·.2.1) ?_;refine zW 10 (.agg (ϡ x)) b (·.2.2) ?_;refine zP 11 q 0 b ?_;refine zP 12 q 0 b ?_;refine zP 13 q 0 b ?_;refine zV 14 (ϊ f) rfl (λW o=>by have c:=ξ o.1 0;simp[χ] at c;clear o;go_simp) b ?_;refine zU 16 (.string k) b ?_;refine zq 15 λK hK=>?_;go_simp;have L:E.To w d.drew:=u.tail (kF.drew);have bi:RL E.O n d.drew x m:=RL.keep a5 ((Kp.refl [] _).drew) (Apt.nil _ _);refine (qK6 E n x r m f d.drew L.dev bi (by have:=af.out;omega)).mono ?_;rintro e s ⟨q4,rfl,bb,D⟩;have Y:=L.trans D;have t:Ϙ s q (χ f (.slice none 0 0) (.slice (some ⟨B,p,none⟩) a.length A))/\Ϙ s w.heap.size (.cells (ϟ E.V r) 89)/\Ϙ s X (.cells (ϡ x) 87):=
  ⟨D.kp.heap (k:=q) b.1 (λhm=>E.apt _ L.dev _ hm _ _ _ b.1 dC),D.new (k:=w.heap.size) F oM b.2.1,D.new (k:=X) F aq b.2.2⟩
 have N:Slc s 87 4 (.slice (some ⟨B,p,none⟩) a.length A) a.length (qA9 a):=Slc.keep (w:=d.drew) (aa.keep0 ((Kp.refl [] _).drew)) D.kp ((E.apt _ L.dev).sub dC);have T:=D.new (k:=w.heap.size+1) F oM R;have aw:Hid (Both (RL E.O n s) a ls):=O.out.mono λx y v=>Env.RL (RL.keep v ((Kp.refl [] d).drew) (Apt.nil _ _)) L.dev D;refine hK.out _ _ t (λ_=>?_);clear hK K b L bi aa O D u R
 try simp only[zZ]
 refine zq 17 λK hK=>?_;go_simp;refine (b5 r x m q4 k s Y.dev a5.1 bb P.1 P.2.1 P.2.2.1 P.2.2.2.1 (by have:=P.out.2.2.2.2;omega)).mono ?_;rintro e d ⟨v3,rfl,cf,u⟩;have bf:=Y.trans u;have U:Ϙ d q (χ f (.slice none 0 0) (.slice (some ⟨B,p,none⟩) a.length A))/\Ϙ d w.heap.size (.cells (ϟ E.V r) 89)/\Ϙ d X (.cells (ϡ x) 87):=
  ⟨u.kp.heap (k:=q) t.1 (λhm=>E.apt _ Y.dev _ hm _ _ _ t.1 dC),u.new (k:=w.heap.size) F oM t.2.1,u.new (k:=X) F aq t.2.2⟩
 have R:=u.new (k:=w.heap.size+1) F oM T;have aa:Slc d 87 4 (.slice (some ⟨B,p,none⟩) a.length A) a.length (qA9 a):=Slc.keep N u.kp ((E.apt _ Y.dev).sub dC);have O:Hid (Both (RL E.O n d) a ls):=aw.out.mono λx y v=>Env.RL v Y.dev u;refine hK.out _ _ U (λ_=>?_);clear hK K t N aw bb T
 try simp only[zZ]
 refine zq 18 λK hK=>?_;go_simp;obtain⟨bv,bx,aj⟩:=cf;have cl:bv.length<=10000:=by rw[aj.1];have:=cd.out;omega
 have bm:=HJ.out;refine (zI6 _ v3 a bv i j d aa bx oM oM oM cj cl).mono ?_;rintro e s ⟨v4,rfl,N,I⟩;rw[bm] at N;clear bm;have D:=bf.tail I;have bc:RLs E.O n s v4 z:=by
  rw[b8.out];exact⟨_,N,(((O.take i).append aj).append (O.drop (i+1))).mono λx y v=>RL.keep v I (Apt.nil _ _)⟩
 have ca:=zh bc;have t:=And.intro (I.hp U.1) (And.intro (I.hp U.2.1) (I.hp U.2.2));have T:=I.hp R;refine hK.out _ _ t (λ_=>?_);clear hK K U I aa bf u bc N aj bx R
 try simp only[zZ]
 refine zq 19 λK hK=>?_;go_simp;refine hK.out _ _ t (λ_=>?_);refine zd ?_;have am:=t.1;have a8:=t.2.1;clear t;go_wp2_with fail;have g:Ϙ s q (χ f (.slice none 0 0) (.slice (some ⟨B,p,none⟩) a.length A))/\Ϙ s w.heap.size (.cells (ϟ E.V r) 89)/\s.heap[w.heap.size+1]?=some (.cells (ϡ h) 87):=⟨am,a8,T⟩;refine wp_region_held_drew (S:=λW=>Ϙ W q (χ f (.slice none 0 0) (.slice (some ⟨B,p,none⟩) a.length A))/\Ϙ W w.heap.size (.cells (ϟ E.V r) 89)/\W.heap[w.heap.size+1]?=some (.cells (ϡ h) 87)) kR g (λ_=>?_);refine zU 0 (ϖ (w.heap.size+1)) g ?_;refine zV 1 (.string h.key) rfl (λW o=>by have c:=ξ o.2.2 0;simp at c;clear o;go_simp) g ?_;refine zP 2 q 0 g ?_;refine zP 3 q 0 g ?_;refine zP 4 q 0 g ?_;refine zV 5 (ϊ f) rfl (λW o=>by have c:=ξ o.1 0;simp[χ] at c;clear o;go_simp) g ?_;refine zW 6 (.agg (ϟ E.V r)) g (·.2.1) ?_;refine zU 7 v4 g ?_;refine zP 8 q 0 g ?_;refine zP 9 q 0 g ?_;refine zP 10 q 0 g ?_;refine zV 11 (ϊ f) rfl (λW o=>by have c:=ξ o.1 0;simp[χ] at c;clear o;go_simp) g ?_;refine zU 12 (ϊ i) g ?_;refine zq 13 λK hK=>?_;go_simp;have ab:E.To w s.drew:=D.tail (kF.drew);refine (jU8 E n f (by have:=af.out;omega) hn r v4 z i c s.drew ab.dev (RLs.keep ca ((Kp.refl [] _).drew) (Apt.nil _ _)) HN.2.2.1 cm HN.2.2.2 b2 HN.2.1 HN.1).mono ?_;rintro e w6 ⟨v6,rfl,cg,Z⟩;have bg:=ab.trans Z;have V:Ϙ w6 q (χ f (.slice none 0 0) (.slice (some ⟨B,p,none⟩) a.length A))/\Ϙ w6 w.heap.size (.cells (ϟ E.V r) 89)/\w6.heap[w.heap.size+1]?=some (.cells (ϡ h) 87):=
  ⟨Z.kp.heap (k:=q) am (λhm=>E.apt _ ab.dev _ hm _ _ _ am dC),Z.new (k:=w.heap.size) F oM a8,Z.new (k:=w.heap.size+1) F oM T⟩
 refine hK.out _ _ V (λ_=>?_);clear hK K g ab Z
 try simp only[zZ]
 refine zq 14 λK hK=>?_;go_simp;refine (zD9 E.O n f af h.key v6 (qC6 n z i) w6 cg (by have:=qK0 qA2 (qC6 n z i) (λx _=>by unfold qA2;omega);have:=HF.out.2;omega) HF.1 HF.2).mono ?_;rintro e w7 ⟨v7,rfl,ag,Q⟩;have bh:=bg.tail Q;have ah:=And.intro (Q.hp V.1) (And.intro (Q.hp V.2.1) (Q.hp V.2.2));refine hK.out _ _ ah (λ_=>?_);clear hK K V Q bg
 try simp only[zZ]
 refine zq 15 λK hK=>?_;go_simp;refine hK.out _ _ ah (λ_=>?_);refine zd ?_;rw[b6.out,<-ce.out] at ag;have cb:=zh ag;have cc:=zh bh;clear ah ag bh;go_wp2;go_ret;exact⟨v7,rfl,cb,cc⟩
theorem kQ6(E:Env):∀ (n:Nat),n<=100000->∀ (r h:HL) (l:Lnk (Tn n)) (q:Nat) (k:ByteArray) (w:World),E.Dev w->h.key=l.key->RN E.O n w q l.sub->Good n l.key l.sub->kl k l.key=false->l.key.size<=8->(∃ q∈cont n l.sub,q.k=k)->min n 1<cnt n l.sub->
  Calls prog 104 #[τ E.V r,qC1 h,.pointer (some ⟨q,0,none⟩),.string k] w λe i=>∃ v',e=.returned v'/\RLs E.O n i v' (qC8 n l k)/\E.To w i:=by
 intro n
 induction n with
 | zero=>
  intro _ r h l q k w b f a c g _ d _;exact kQ5 E r h l q k w b f a c d
 | succ n ih=>
  intro o r h l q k w b f a c g j d m;exact kQ4 E n (ih oM) oM r h l q k w b f a c g j d oM
theorem xE7{n:Nat}{lo}{t}(h:Good n lo t):cnt n t<=10000:=by
 cases n with
 | zero=>exact qK8 0 lo t h
 | succ n=>exact (qK8 (n+1) lo t h).1
theorem zU6(E)(n:Nat)(J:n<=100000)(r)(v)(l)(d:Nat)(W)(w)(q:E.Dev w)(s:RLs E.O n w v W)(A:Row0 n l.key W)(F:Made n l d W)(G:min n 1<cnt n l.sub)(N:d<=1):
  Calls prog 103 #[τ E.V r,v] w λe k=>∃ h,e=.returned (τ E.V h)/\RR E k h (qE6 n W)/\E.To w k:=by
 rcases F with⟨a,rfl,D,o,B⟩|⟨a,b,rfl,D,o,B,K,L⟩
 .have p:=(A.all a sM).1
  cases n with
  | zero=>
   by_cases z:cnt 0 a.sub=0
   .refine (kO3 E r v a w q s o z).mono ?_;rintro e k ⟨f,c⟩;refine⟨_,f,?_,c⟩;have g:prs a.sub=[]:=List.length_eq_zero_iff.1 z;have i:qE6 0 [a]=.none:=by
     show (match prs a.sub with | []=>Root.none | _::_=>.at 0 a)=_;rw[g]
    rw[i];rfl
   .refine (xS7 E 0 r v a w q s o oM (xE7 p)).mono ?_;rintro e k ⟨h,f,c,j⟩;refine⟨h,f,?_,j⟩;have i:qE6 0 [a]=.at 0 a:=by
     show (match prs a.sub with | []=>Root.none | _::_=>.at 0 a)=_
     cases g:prs a.sub with
     | nil=>exact absurd (show cnt 0 a.sub=0 from by show (prs a.sub).length=0;rw[g];rfl) z
     | cons x r=>rfl
    rw[i];exact c
  | succ n=>
   have M:1<(η l.sub).length:=by have c:min (n+1) 1<(η l.sub).length:=G;omega
   have C:(η l.sub).length<=(η a.sub).length+d:=B
   cases g:η a.sub with
   | nil=>rw[g] at C;simp at C;omega
   | cons x t=>
    cases t with
    | nil=>
     refine (kO4 E n r v a x w q s o g).mono ?_;rintro e k ⟨h,f,c,j⟩;refine⟨h,f,?_,j⟩;have i:qE6 (n+1) [a]=.at n x:=by
      show (match η a.sub with | []=>Root.none | [m]=>.at n m | _::_::_=>.at (n+1) a)=_;rw[g]
     rw[i];exact c
    | cons y t=>
     have H:min (n+1) 1<cnt (n+1) a.sub:=by show min (n+1) 1<(η a.sub).length;rw[g];simp
     refine (xS7 E (n+1) r v a w q s o H (xE7 p)).mono ?_;rintro e k ⟨h,f,c,j⟩;refine⟨h,f,?_,j⟩;have i:qE6 (n+1) [a]=.at (n+1) a:=by
      show (match η a.sub with | []=>Root.none | [m]=>.at n m | _::_::_=>.at (n+1) a)=_;rw[g]
     rw[i];exact c
 .have p:=A.all a sM;have u:=A.all b sM;refine (kO5 E n r v a b w q s J o ⟨p.2,u.2⟩ (zN7 n a.key a.sub p.1 oM) (zN7 n b.key b.sub u.1 oM)).mono ?_;rintro e k ⟨h,f,c,j⟩;refine⟨h,f,?_,j⟩;have I:meas qA2 [a,b]<=126:=by
   have:=p.2;have:=u.2;simp[meas,qA2];omega
  have i:qE6 n [a,b]=.at (n+1) ⟨⟨#[]⟩,none,[a,b]⟩:=by
   show (match qC9 n ⟨#[]⟩ [a,b] with | []=>Root.none | r::_=>qM6 (n+1) r)=_;have e:qC9 n ⟨#[]⟩ [a,b]=[⟨⟨#[]⟩,none,[a,b]⟩]:=by
    unfold qC9 qB8;rw[if_pos I];rfl
   rw[e];rfl
  rw[i];exact c
theorem kN6(E)(n:Nat)(hn:n<=100000)(h)(l)(p)(w)(hd:E.Dev w)(hr:RL E.O n w h l)(hg:RGood (.at n l))(M:qC3 p):
  Calls prog 74 #[τ E.V h,.agg #[.string p.k,.string p.v]] w λe w'=>∃ b,e=.returned (τ E.V b)/\RR E w' b (Root.put (.at n l) p)/\E.To w w':=by
 obtain⟨u,F,N⟩:=hg;have J:l.key.size<=8:=by rw[u];decide
 have L:kl p.k l.key=false:=by rw[u];exact qN2 _
 obtain⟨ai,ar,aj⟩:=zC4 n l p F M L J oM;have a:=zh hd;have D:=zh hr;have g:Hid (Good n l.key l.sub/\qC3 p/\kl p.k l.key=false/\1<=cnt n l.sub/\l.key.size<=8):=⟨F,M,L,oM,J⟩;have C:=zh (n3 ai aj N);have ak:=zh u;clear hd hr u F N J L ai ar aj M;rw[τ];go_enter func74,ntmps74;go_wp2_with fail;obtain⟨w0,ag,P,T,U,Q,av⟩:=alD w (.cells (ϟ E.V h) 89) (.cells #[.string p.k,.string p.v] 42) (.cells ϛ 89)
 rw[<-ag];clear ag;have G:=Env.To.of0 a Q;refine (qZ0 E n h l w0 (Env.RL D a G) ak).mono ?_;rintro e w1 ⟨rfl,j⟩;have aq:=G.tail j;have d:=n2 (j.hp P) (j.hp T);have V:=j.hp U;clear j G Q P T U;go_wp2_with fail;refine wp_region_held_drew (S:=λW=>Ϙ W w.heap.size (.cells (ϟ E.V h) 89)/\W.heap[w.heap.size+1]?=some (.cells #[.string p.k,.string p.v] 42)) kR d (λ_=>?_);refine zW 0 (.agg (ϟ E.V h)) d (·.1) ?_;refine zW 1 (.agg (ϟ E.V h)) d (·.1) ?_;refine zP 2 w.heap.size 1 d ?_;refine zW 3 (.agg (ϡ h)) d (·.1) ?_;refine zW 4 (.agg (ϟ E.V h)) d (·.1) ?_;refine zW 6 (.agg #[.string p.k,.string p.v]) d (·.2) ?_;refine zU 7 (.agg #[.string p.k,.string p.v]) d ?_;refine zq 5 λK hK=>?_;go_simp;have A:=aq.tail (kF.drew);refine (zC0 E n h l w1.drew A.dev (Env.RL D a A)).mono ?_;rintro e wt ⟨qt,rfl,R,s⟩;have I:=A.trans s;have y:=n2 (s.new (k:=w.heap.size) a oM d.1) (s.new (k:=w.heap.size+1) a oM d.2);have ab:=s.new (k:=w.heap.size+1+1) a oM V;refine hK.out _ _ y (λ_=>?_);clear hK K d A s V
 try simp only[zZ]
 refine zq 8 λK hK=>?_;go_simp;refine (kQ2 E n hn h h l qt p wt I.dev D.1 R g.1 g.2.1 g.2.2.1 g.2.2.2.1 g.2.2.2.2).mono ?_;rintro e w2 ⟨v2,rfl,X,q⟩;have H:=I.trans q;have v:=n2 (q.new (k:=w.heap.size) a oM y.1) (q.new (k:=w.heap.size+1) a oM y.2);have ap:=q.new (k:=w.heap.size+1+1) a oM ab;refine hK.out _ _ v (λ_=>?_);clear hK K y I q ab R
 try simp only[zZ]
 refine zq 9 λK hK=>?_;go_simp;refine (zU6 E n hn h v2 l 0 (qE5 n l p) w2 H.dev X C.1 C.2.1 C.2.2 oM).mono ?_;rintro e w3 ⟨b,rfl,Y,r⟩;have ad:=H.trans r;have x:=n2 (r.new a oM v.1) (r.new a oM v.2);have f:=r.new a oM ap;refine hK.out _ _ x (λ_=>?_);clear hK K v r H X
 try simp only[zZ]
 have r0:=ξ f;have ao:=ψ f;refine zq 10 λK hK=>?_;rw[τ];go_simp;have af:=qM7 (ϖ E.V) (.string b.key) (ϊ b.b) (.int .u64 b.s) (.pointer b.ptr) f;obtain⟨w4,ah,Z,o⟩:=gE af;rw[<-ah];clear ah af r0 ao;have ae:=ad.store' oM f dC o;have O:Apt w3 [w.heap.size+1+1] qF1:=λi hi c t au e=>by
  rw[mS hi,f] at e;cases e;decide
 have aa:RR E w4 b (Root.put (.at n l) p):=by
  have B:=Y;show RR E w4 b (qE6 n (qE5 n l p))
  cases hu:qE6 n (qE5 n l p) with
  | none=>rw[hu] at B;exact B
  | «at» m z=>rw[hu] at B;exact RL.keep B o O
 have ac:=And.intro (o.ho x.1) (o.hp x.2);refine hK.out _ _ ac (λ_=>?_);refine zd ?_;have am:=zh aa;have an:=zh ae;have al:=zh Z;clear ac x f ae aa Z o O Y ad;go_wp2;exact bodyPost_ret (results_cell_row results74 _ _ (w.heap.size+1+1) 89 (ϟ E.V b) (0,0) _ rfl al underlying89 rfl kR) rfl ⟨b,rfl,am,an⟩
theorem kM2(E)(n:Nat)(hn:n<=100000)(h)(l)(k)(w)(hd:E.Dev w)(hr:RL E.O n w h l)(hg:RGood (.at n l))(ax:(cont n l.sub).length<=1000000)(A:∃ q∈cont n l.sub,q.k=k):
  Calls prog 63 #[τ E.V h,.string k] w λe w'=>∃ b,e=.returned (τ E.V b)/\RR E w' b (qE6 n (qC8 n l k))/\E.To w w':=by
 have ak:=zh hg;obtain⟨j,F,o⟩:=hg;have M:l.key.size<=8:=by rw[j];decide
 have N:kl k l.key=false:=by rw[j];exact qN2 _
 obtain⟨ai,ay,aj⟩:=qX6 n l k F N M A o;have ae:(qF7 (cont n l.sub) k).isSome=true:=by
  obtain⟨q,av,aw⟩:=A;unfold qF7;rw[List.find?_isSome];exact⟨q,av,by simp[aw]⟩
 have a:=zh hd;have D:=zh hr;have g:=zh (n5 F N M A o);have C:=zh (n3 ai aj o);have an:=zh ae;have az:=zh j;clear hd hr j F o M N ai ay aj A ae;rw[τ];go_enter func63,ntmps63;go_wp2_with fail;obtain⟨w0,ag,P,T,Q,a1⟩:=alC w (.cells (ϟ E.V h) 89) (.cells ϛ 89)
 rw[<-ag];clear ag;have r:=Env.To.of0 a Q;refine (qZ5 E (.at n l) h k w0 r.dev (Env.RL D a r) ak ax).mono ?_;rintro e w1 ⟨rfl,x⟩;have au:=r.trans x;rw[show (qF7 (Root.cont (.at n l)) k).isSome=true from an.out];have aq:=x.new a oM P;have U:=x.new a oM T;have d:=n2 aq trivial;clear x r Q P T;go_wp2_with fail;refine wp_region_held_drew (S:=λW=>Ϙ W w.heap.size (.cells (ϟ E.V h) 89)/\True) kR d (λ_=>?_);refine zW 0 (.agg (ϟ E.V h)) d (·.1) ?_;refine zW 1 (.agg (ϟ E.V h)) d (·.1) ?_;refine zP 2 w.heap.size 1 d ?_;refine zW 3 (.agg (ϡ h)) d (·.1) ?_;refine zW 4 (.agg (ϟ E.V h)) d (·.1) ?_;refine zU 6 (.string k) d ?_;refine zq 5 λK hK=>?_;go_simp;have v:=au.tail (kF.drew);refine (zC0 E n h l w1.drew v.dev (Env.RL D a v)).mono ?_;rintro e wt ⟨qt,rfl,R,y⟩;have L:=v.trans y;have I:=n2 (y.new (k:=w.heap.size) a oM d.1) trivial;have aa:=y.new (k:=w.heap.size+1) a oM U;refine hK.out _ _ I (λ_=>?_);clear hK K d v y U
 try simp only[zZ]
 refine zq 7 λK hK=>?_;go_simp;refine (kQ6 E n hn h h l qt k wt L.dev D.1 R g.1 g.2.1 g.2.2.1 g.2.2.2.1 g.2.2.2.2).mono ?_;rintro e w2 ⟨v2,rfl,V,s⟩;have J:=L.trans s;have G:=n2 (s.new (k:=w.heap.size) a oM I.1) trivial;have ar:=s.new (k:=w.heap.size+1) a oM aa;refine hK.out _ _ G (λ_=>?_);clear hK K I L s aa R
 try simp only[zZ]
 refine zq 8 λK hK=>?_;go_simp;refine (zU6 E n hn h v2 l 1 (qC8 n l k) w2 J.dev V C.1 C.2.1 C.2.2 oM).mono ?_;rintro e w3 ⟨b,rfl,X,u⟩;have ac:=J.trans u;have H:=n2 (u.new a oM G.1) trivial;have f:=u.new a oM ar;refine hK.out _ _ H (λ_=>?_);clear hK K G u J V
 try simp only[zZ]
 have r0:=ξ f;have ap:=ψ f;refine zq 9 λK hK=>?_;rw[τ];go_simp;have af:=qM7 (ϖ E.V) (.string b.key) (ϊ b.b) (.int .u64 b.s) (.pointer b.ptr) f;obtain⟨w4,ah,Y,p⟩:=gE af;rw[<-ah];clear ah af r0 ap;have ad:=ac.store' oM f dC p;have O:Apt w3 [w.heap.size+1] qF1:=λi hi c t a0 e=>by
  rw[mS hi,f] at e;cases e;decide
 have Z:RR E w4 b (qE6 n (qC8 n l k)):=by
  have B:=X;show RR E w4 b (qE6 n (qC8 n l k))
  cases hu:qE6 n (qC8 n l k) with
  | none=>rw[hu] at B;exact B
  | «at» m z=>rw[hu] at B;exact RL.keep B p O
 have ab:=And.intro (p.hp H.1) trivial;refine hK.out _ _ ab (λ_=>?_);refine zd ?_;have am:=zh Z;have ao:=zh ad;have al:=zh Y;clear ab H f ad Z Y p O X ac;go_wp2;exact bodyPost_ret (results_cell_row results63 _ _ (w.heap.size+1) 89 (ϟ E.V b) (0,0) _ rfl al underlying89 rfl kR) rfl ⟨b,rfl,am,ao⟩
theorem RR.keepT{E}{S}{w w'}{h}{r}(a:RR E w h r)(hK:Kp S w w')(b:Apt w S qF1):RR E w' h r:=by
 cases r with
 | none=>exact a
 | «at» n l=>exact RL.keep a hK b
theorem kM3(E)(r)(h)(k)(w)(p:E.Dev w)(v:RR E w h r)(s:RGood r)(F:r.cont.length<=1000000)(u:¬∃ q∈r.cont,q.k=k):
  Calls prog 63 #[τ E.V h,.string k] w λe z=>∃ h',e=.returned (τ E.V h')/\RR E z h' r/\E.To w z:=by
 have t:(qF7 r.cont k).isSome=false:=by
  unfold qF7;rw[List.find?_eq_none.2 (λq D=>by simp;exact λe=>u ⟨q,D,e⟩)];rfl
 have a:=zh p;have i:=zh v;have A:=zh s;have B:=zh t;clear p v s t u;rw[τ];go_enter func63,ntmps63;go_wp2_with fail;obtain⟨G,y,j,m,l,L⟩:=alC w (.cells (ϟ E.V h) 89) (.cells ϛ 89)
 rw[<-y];clear y;have c:=Env.To.of0 a l;refine (qZ5 E r h k G c.dev (RR.to i a c) A F).mono ?_;rintro e N ⟨rfl,d⟩;have n:=c.trans d;rw[B.out];have f:=d.new a oM j;have b:=d.new a oM m;have J:=ζ f;have K:=ζ b;have H:=ξ f;have M:=ξ b;have I:=ψ b;have g:=zh b;have C:=zh n;clear d c l j m f b n;go_wp2;have x:=qM7 (ϖ E.V) (.string h.key) (ϊ h.b) (.int .u64 h.s) (.pointer h.ptr) g.out;have o:=C.out.store' oM g dC x.2;exact bodyPost_ret (results_cell_row results63 _ _ (w.heap.size+1) 89 (ϟ E.V h) (0,0) _ rfl x.1 underlying89 rfl kR) rfl ⟨h,rfl,RR.to i a o,o⟩
theorem kM4(E)(r)(h)(k)(w)(d:E.Dev w)(f:RR E w h r)(c:RGood r)(i:r.cont.length<=100000):
  Calls prog 63 #[τ E.V h,.string k] w λe g=>∃ h',e=.returned (τ E.V h')/\RR E g h' (r.del k)/\E.To w g:=by
 by_cases a:∃ q∈r.cont,q.k=k
 .cases r with
  | none=>obtain⟨q,a,_⟩:=a;cases a
  | «at» n l=>
   have b:∃ q∈cont n l.sub,q.k=k:=a;have j:=zS8 c;have m:(cont n l.sub).length<=100000:=i;have e:Root.del (.at n l) k=qE6 n (qC8 n l k):=by
    show (if (cont n l.sub).any (λq=>decide (q.k=k)) then qE6 n (qC8 n l k) else .at n l)=_;rw[if_pos (by simpa using b)]
   rw[e];exact kM2 E n oM h l k w d f c oM b
 .have e:r.del k=r:=by
   cases r with
   | none=>rfl
   | «at» n l=>
    have b:¬∃ q∈cont n l.sub,q.k=k:=a;show (if (cont n l.sub).any (λq=>decide (q.k=k)) then qE6 n (qC8 n l k) else .at n l)=_;rw[if_neg (by simpa using b)]
  rw[e];exact kM3 E r h k w d f c oM a
theorem kN7(E)(p)(w)(hd:E.Dev w)(N:qC3 p):
  Calls prog 74 #[τ E.V ⟨⟨#[]⟩,0,0,none⟩,.agg #[.string p.k,.string p.v]] w λe D=>∃ d,e=.returned (τ E.V d)/\RR E D d (Root.put .none p)/\E.To w D:=by
 have hs:Sorted [p]:=by simp[Sorted]
 have ak:θ p<=21:=by obtain⟨h1,h2,h3⟩:=N;unfold θ;omega
 have M:meas θ [p]<=210:=by simp[meas];omega
 obtain⟨r1,r2,r3⟩:=zA0 (lo:=⟨#[]⟩) (ps:=[p]) hs (λq hq=>by rw[mS hq];exact⟨N,qN2 _⟩) M dC;have X:Made 0 (⟨⟨#[]⟩,none,[p]⟩:Lnk (List KV)) 0 (qE1 ⟨#[]⟩ [p]):=by
  rcases r3 with⟨a,F,G,H,I⟩|⟨a,b,F,G,H,I,e5,e6⟩
  .exact .inl ⟨a,F,G,H,by rw[I];exact lR⟩
  .exact .inr ⟨a,b,F,G,H,I,e5,e6⟩
 have s:=zh hd;have Q:Hid (Row0 0 (⟨⟨#[]⟩,none,[p]⟩:Lnk (List KV)).key (qE1 ⟨#[]⟩ [p])/\Made 0 (⟨⟨#[]⟩,none,[p]⟩:Lnk (List KV)) 0 (qE1 ⟨#[]⟩ [p])):=⟨r1,X⟩;have P:Hid ((∀ q∈[p],θ q<=21)/\meas θ [p]<=210):=⟨λq hq=>by rw[mS hq];exact ak,M⟩;clear hd N hs ak M r1 r2 r3 X;obtain⟨h,L⟩:∃ h:HL,h=⟨⟨#[]⟩,0,0,none⟩:=⟨_,rfl⟩;have HH:=zh L;rw[<-L];clear L;rw[τ];go_enter func74,ntmps74;go_wp2_with fail;obtain⟨f,an,T,Y,Z,V,a1⟩:∃ f,f=((w.alloc (.cells (ϟ E.V h) 89)).alloc (.cells #[.string p.k,.string p.v] 42)).alloc (.cells ϛ 89)/\Ϙ f w.heap.size (.cells (ϟ E.V h) 89)/\f.heap[w.heap.size+1]?=some (.cells #[.string p.k,.string p.v] 42)/\f.heap[w.heap.size+1+1]?=some (.cells ϛ 89)/\Kp [] w f/\f.heap.size=w.heap.size+3:=by
  refine⟨_,rfl,ρ _ (ρ _ (υ _ _)),ρ _ ?_,?_,((kF.alloc _).alloc _).alloc _,sM⟩
  .have e:=υ (w.alloc (.cells (ϟ E.V h) 89)) (.cells #[.string p.k,.string p.v] 42);simpa using e
  .have e:=υ ((w.alloc (.cells (ϟ E.V h) 89)).alloc (.cells #[.string p.k,.string p.v] 42)) (.cells ϛ 89);simpa using e
 rw[<-an];clear an;have ag:=Env.To.of0 s V;have az:Ω 92 #[τ E.V h] f λe D=>e=ϱ (.bool true)/\Kp [] f D:=by rw[HH.out];exact zE6 E.V f
 refine az.mono ?_;rintro e O ⟨rfl,l⟩;have ay:=ag.tail l;have g:=n2 (l.hp T) (l.hp Y);have aw:=l.hp Z;clear l ag V T Y Z;go_wp2_with fail;refine wp_region_held_drew (S:=λW=>Ϙ W w.heap.size (.cells (ϟ E.V h) 89)/\W.heap[w.heap.size+1]?=some (.cells #[.string p.k,.string p.v] 42)) kR g (λ_=>?_);refine zW 0 (.agg (ϟ E.V h)) g (·.1) ?_;refine zW 1 (.agg #[.string p.k,.string p.v]) g (·.2) ?_;refine zU 2 (.agg #[.string p.k,.string p.v]) g ?_;refine zq 3 λK hK=>?_;go_simp;obtain⟨wb,ap,U,o⟩:=alF O (.cells #[.string p.k,.string p.v] 185);rw[<-ap];clear ap;have A:=And.intro (o.hp g.1) (o.hp g.2);have ae:=o.hp aw;have aj:=ay.tail o;refine hK.out _ _ A (λ_=>?_);clear hK K g
 try simp only[zZ]
 refine zq 4 λK hK=>?_;go_simp;have al:Slc wb 185 2 (.slice (some ⟨O.heap.size,0,none⟩) 1 1) [p].length (qA4 [p]):=⟨rfl,.inr ⟨O.heap.size,0,1,_,_,rfl,lR,lR,U,λj u B=>by simpa [qA4,pcs] using B⟩⟩;refine (zA1 E.O ⟨#[]⟩ _ [p] wb al sM P.1 P.2).mono ?_;rintro e w2 ⟨v2,rfl,aa,v⟩;have J:=aj.tail v;have x:=n2 (v.hp A.1) (v.hp A.2);have ax:=v.hp ae;refine hK.out _ _ x (λ_=>?_);clear hK K A aj al U o ae
 try simp only[zZ]
 refine zq 5 λK hK=>?_;go_simp;refine (zU6 E 0 oM h v2 (⟨⟨#[]⟩,none,[p]⟩:Lnk (List KV)) 0 (qE1 ⟨#[]⟩ [p]) w2 J.dev aa Q.1 Q.2 (by show 0<1;omega) oM).mono ?_;rintro e w3 ⟨d,rfl,ab,r⟩;have ah:=J.trans r;have y:=n2 (r.new s oM x.1) (r.new s oM x.2);have k:=r.new s oM ax;refine hK.out _ _ y (λ_=>?_);clear hK K x r J aa
 try simp only[zZ]
 have r0:=ξ k;have av:=ψ k;refine zq 6 λK hK=>?_;rw[τ];go_simp;have am:=qM7 (ϖ E.V) (.string d.key) (ϊ d.b) (.int .u64 d.s) (.pointer d.ptr) k;obtain⟨w4,ao,ac,n⟩:=gE am;rw[<-ao];clear ao am r0 av;have ai:=ah.store' oM k dC n;have R:Apt w3 [w.heap.size+1+1] qF1:=λi hi c t a0 e=>by
  rw[mS hi,k] at e;cases e;decide
 have ad:RR E w4 d (Root.put .none p):=by
  have C:=ab;show RR E w4 d (qE6 0 (qE1 ⟨#[]⟩ [p]))
  cases B:qE6 0 (qE1 ⟨#[]⟩ [p]) with
  | none=>rw[B] at C;exact C
  | «at» m z=>rw[B] at C;exact RL.keep C n R
 have af:=And.intro (n.ho y.1) (n.hp y.2);refine hK.out _ _ af (λ_=>?_);refine zd ?_;have ar:=zh ad;have au:=zh ai;have aq:=zh ac;clear af y k ai ad ac n R ab ah;go_wp2;exact bodyPost_ret (results_cell_row results74 _ _ (w.heap.size+1+1) 89 (ϟ E.V d) (0,0) _ rfl aq underlying89 rfl kR) rfl ⟨d,rfl,ar,au⟩
theorem zJ8(E)(r)(h)(p)(w)(a:E.Dev w)(d:RR E w h r)(b:RGood r)(i:r.cont.length<=100000)(c:qC3 p):
  Calls prog 74 #[τ E.V h,.agg #[.string p.k,.string p.v]] w λe f=>∃ h',e=.returned (τ E.V h')/\RR E f h' (r.put p)/\E.To w f:=by
 cases r with
 | none=>
  have g:h=⟨⟨#[]⟩,0,0,none⟩:=d;subst g;exact kN7 E p w a c
 | «at» n l=>
  have j:=zS8 b;have k:(cont n l.sub).length<=100000:=i;exact kN6 E n oM h l p w a d b c
def Asks(E:Env)(w:World)(g:Nat)(cap:Array Value)(f:ByteArray→Bool):Prop:=∀ W k,E.To w W→Calls prog g (#[.string k]++cap) W fun e W'=>e=.returned (.bool (f k))∧Kp [] W W'
theorem Asks.to{E}{w W}{g:Nat}{cap}{f:ByteArray->Bool}(h:Asks E w g cap f)(b:E.To w W):Asks E W g cap f:=λa k c=>h a k (b.trans c)
theorem jI6(g F:Nat)(cap:Array Value)(p:KV)(b:Bool)(w:World)(a:w.heap[F]?=some (.cells #[.func (.func g) #[] cap] 92))
  (m:∀ (args:Array Value) (W:World),Sem.run prog (callFunc g args) W=.ok (.enter g args) W)
  (c:∀ W,Kp [] w W->Calls prog g (#[.string p.k]++cap) W λe W'=>e=.returned (.bool b)/\Kp [] W W'):
  Calls prog 147 #[.agg #[.string p.k,.string p.v],.pointer (some ⟨F,0,none⟩)] w λe i=>e=.returned (.bool b)/\Kp [] w i:=by
 have d:=zh c;clear c;have l:=ζ a;have k:=ϻ a 0;go_enter func147,ntmps147;go_wp2_with fail;refine (d _ (kF.alloc _)).mono ?_;rintro e j ⟨rfl,f⟩;have h:Kp [] w j:=(kF.alloc _).tr f;go_wp2;go_ret;exact⟨rfl,h⟩
theorem jI7(g F:Nat)(cap:Array Value)(p:HL)(b:Bool)(w:World)(a:w.heap[F]?=some (.cells #[.func (.func g) #[] cap] 92))
  (m:∀ (args:Array Value) (W:World),Sem.run prog (callFunc g args) W=.ok (.enter g args) W)
  (c:∀ W,Kp [] w W->Calls prog g (#[.string p.key]++cap) W λe W'=>e=.returned (.bool b)/\Kp [] W W'):
  Calls prog 149 #[.agg #[.string p.key,.int .i64 p.b,.int .u64 p.s,.pointer p.ptr],.pointer (some ⟨F,0,none⟩)] w λe i=>e=.returned (.bool !b)/\Kp [] w i:=by
 have d:=zh c;clear c;have l:=ζ a;have k:=ϻ a 0;go_enter func149,ntmps149;go_wp2_with fail;refine (d _ (kF.alloc _)).mono ?_;rintro e j ⟨rfl,f⟩;have h:Kp [] w j:=(kF.alloc _).tr f;go_wp2;go_ret;exact⟨rfl,h⟩
def qI1:Option KV→Value
 | some p=>.tuple #[.agg #[.string p.k,.string p.v],.bool true]
 | none=>.tuple #[.agg #[.string ⟨#[]⟩,.string ⟨#[]⟩],.bool false]
theorem qR6{W}{k:Nat}{a b}(v0 v1)(h:W.heap[k]?=some (.cells #[a,b] 42)):
  ((W.setCell ⟨k,0,none⟩ v0).setCell ⟨k,1,none⟩ v1).heap[k]?=some (.cells #[v0,v1] 42)/\Kp [k] W ((W.setCell ⟨k,0,none⟩ v0).setCell ⟨k,1,none⟩ v1):=
 ⟨μ (μ h 0 _) 1 _,((Kp.refl _ W).sc _).sc _⟩
theorem jI2{l:List KV}{f:KV->Bool}:l.find? f=l[l.findIdx f]?:=by
 induction l with
 | nil=>rfl
 | cons a l ih=>
  rw[List.find?_cons,List.findIdx_cons]
  cases f a with
  | true=>simp
  | false=>simpa using ih
theorem jJ2(E:Env)(r:HL)(l:Lnk (Tn 0))(q:Nat)(g:Nat)(cap:Array Value)(f:ByteArray->Bool)(w:World)(X:E.Dev w)(hN:RN E.O 0 w q l.sub)(Y:Good 0 l.key l.sub)(ac:Up f)(U:Asks E w g cap f)
  (ah:∀ (args:Array Value) (W:World),Sem.run prog (callFunc g args) W=.ok (.enter g args) W):
  Calls prog 93 #[τ E.V r,.pointer (some ⟨q,0,none⟩),.func (.func g) #[] cap] w λe w'=>e=.returned (qI1 ((cont 0 l.sub).find? λq=>f q.k))/\E.To w w':=by
 have ax:=zM;have aq:(prs l.sub).length<=10000:=qK8 0 l.key l.sub Y;have am:Sorted (prs l.sub):=Y.sorted;have HD:=zh X;have HA:=zh U;have ae:Hid (∀ i j (t:i<(prs l.sub).length) (H:j<(prs l.sub).length),i<=j->f (prs l.sub)[i].k=true->f (prs l.sub)[j].k=true):=by
  show ∀ i j (t:i<(prs l.sub).length) (H:j<(prs l.sub).length),_;intro i j t H av d;by_cases e:i=j
  .subst e;exact d
  .exact ac _ _ (pG am i j t H oM) d
 obtain⟨vp,u,ab⟩:=hN;have aj:=ζ u;have ak:q<w.heap.size+1:=oM
 have aa:q<w.heap.size+1+1:=oM
 have q0:=ξ u;simp only[χ,zG,zH,zI] at q0;clear X ac U;rw[τ];go_enter func93,ntmps93;go_wp2_with fail;obtain⟨w1,ad,af,Q,S,s,al⟩:=alD w (.cells (ϟ E.V r) 89) (.cells #[.func (.func g) #[] cap] 92) (.cells ϝ 42)
 rw[<-ad];clear ad q0 aj ak aa al;have C:=Env.To.of0 HD s;have hq:=s.hp u;have J:=ab.keep0 s;clear u ab af;refine (xD2 147 _ vp (prs l.sub) (λp=>f p.k) w1 J oM ae ?_ ?_).mono ?_
 .intro args W;simp[go_sem,func147]
 .intro W R i t;exact jI6 g (w.heap.size+1) cap (prs l.sub)[i] (f (prs l.sub)[i].k) W (R.hp Q) ah (λW' ag=>HA W' _ ((C.tail R).tail ag))
 rintro e w2 ⟨rfl,h⟩;have T:=C.tail h;have k:=h.hp S;have I:=h.hp hq;have y:=J.keep0 h;have F:(cont 0 l.sub).find? (λq=>f q.k)=(prs l.sub)[(prs l.sub).findIdx (λp=>f p.k)]?:=jI2;obtain⟨i,G⟩:∃ i,(prs l.sub).findIdx (λp=>f p.k)=i:=⟨_,rfl⟩;rw[G] at F |-;have L:=zh F;have aw:i<=(prs l.sub).length:=by rw[<-G];exact fL
 have aa:=ζ I;have ap:=ζ k;obtain⟨N,P,z⟩:∃ N P,vp=.slice N (prs l.sub).length P:=by
  rcases y.val with⟨h0,b,c,B,_⟩|⟨g,K,cap,cur,fr,B,_⟩
  .rw[h0];exact⟨b,c,B⟩
  .exact⟨_,cap,B⟩
 subst z;have y1:=ξ I 1;simp only[χ,zG,zH,zI] at y1;have z0:=ξ k;have ao:=ψ k;have M:=zh T;have o:=zh k;clear h T k S hq J I Q C F G s;by_cases Z:i<(prs l.sub).length
 .have ai:(i:Int)<((prs l.sub).length:Int):=oM
  obtain⟨gb,K,an,cur,fr,z,ar,x,V⟩:=y.pair oM;simp only[vJ,true_and] at z;obtain⟨rfl,rfl⟩:=z;obtain⟨c0,O⟩:=V i Z;obtain⟨p,d⟩:=eY ((prs l.sub)[i]);rw[d] at c0 O;have A:Hid ((prs l.sub)[i]?=some p):=by show _=_;rw[gQ Z,d]
  have a0:=ξ x (K+i*2);rw[c0] at a0;have a1:=ξ x (K+i*2+1);rw[O] at a1;have au:=ζ x;clear V y x d;go_wp2;have a:=qR6 (.string p.k) (.string p.v) o.out;have D:=M.out.store' oM o dC a.2;have m:=ξ a.1 0;have n:=ξ a.1 1;simp only[zG,zH,zI] at m n;refine bodyPost_ret (v:=qI1 (some p)) ?_ rfl ⟨by rw[L.out,A.out],D⟩;simp[results,results93,go_sem,m,n,qI1]
 .have ai:¬(i:Int)<((prs l.sub).length:Int):=oM
  clear y;have A:Hid ((prs l.sub)[i]?=none):=by show _=_;rw[gN oM]
  go_wp2;have a:=qR6 (.string ⟨#[]⟩) (.string ⟨#[]⟩) o.out;have D:=M.out.store' oM o dC a.2;have m:=ξ a.1 0;have n:=ξ a.1 1;simp only[zG,zH,zI] at m n;refine bodyPost_ret (v:=qI1 none) ?_ rfl ⟨by rw[L.out,A.out],D⟩;simp[results,results93,go_sem,m,n,qI1]
theorem jJ1(E:Env)(n:Nat)(g:Nat)(cap:Array Value)(f:ByteArray->Bool)(br:Up f)(dh:∀ (args:Array Value) (W:World),Sem.run prog (callFunc g args) W=.ok (.enter g args) W)
  (ih:∀ (r:HL) (l:Lnk (Tn n)) (q:Nat) (w:World),E.Dev w->RN E.O n w q l.sub->Good n l.key l.sub->1<=cnt n l.sub->Asks E w g cap f->Calls prog 93 #[τ E.V r,.pointer (some ⟨q,0,none⟩),.func (.func g) #[] cap] w λe R=>e=.returned (qI1 ((cont n l.sub).find? λq=>f q.k))/\E.To w R)
  (r:HL) (l:Lnk (Tn (n+1))) (q:Nat) (w:World) (hd:E.Dev w) (hN:RN E.O (n+1) w q l.sub) (hg:Good (n+1) l.key l.sub) (cq:1<=cnt (n+1) l.sub) (ha:Asks E w g cap f):
  Calls prog 93 #[τ E.V r,.pointer (some ⟨q,0,none⟩),.func (.func g) #[] cap] w λe R=>e=.returned (qI1 ((cont (n+1) l.sub).find? λq=>f q.k))/\E.To w R:=by
 have d6:=zM;have ck:=(qK8 (n+1) l.key l.sub hg).1;have cr:1<=(η l.sub).length:=cq;have bd:Hid ((cont (n+1) l.sub).find? (λq=>f q.k)=(((η l.sub).drop ((η l.sub).findIdx (λl=>f l.key)-1)).flatMap λl=>cont n l.sub).find? (λq=>f q.k)):=jJ4 br hg.row;have bu:Hid (∀ z∈η l.sub,Good n z.key z.sub/\1<=cnt n z.sub):=λz hz=>⟨(hg.all z hz).1,by have:=(hg.all z hz).2.1;omega⟩;have bx:Hid ((η l.sub).Pairwise (qR2 n)):=hg.pair;have da:=zh br;have o:=zh hd;have HA:=zh ha;have bb:=ih;clear hd br ha hg cq ih;obtain⟨vl,aw,b,bq,ag⟩:=hN;obtain⟨ls,cm⟩:=eY (η l.sub);rw[cm] at ag ck cr bd bu bx;clear cm;have bt:=zh ag.1;have d1:b.length<=10000:=by rw[ag.1];exact ck
 have dj:1<=b.length:=by rw[ag.1];exact cr
 obtain⟨U,C,H,cur,fr,rfl,d0,cu,cl⟩:=bq.link dj;obtain⟨N,cn⟩:∃ N:Int,((n+1:Nat):Int)=N:=⟨_,rfl⟩;rw[cn] at aw;have bw:Hid (((n:Nat):Int)<N):=by show _<_;omega
 have d5:¬N=0:=oM
 have ds:=ζ aw;have dt:q<w.heap.size+1:=oM
 have du:q<w.heap.size+1+1:=oM
 have q0:=ξ aw 0;simp only[χ,zG,zH,zI] at q0;have bs:=zh ag;have b4:=zh bq;have c5:=zh cl;clear ag bq cl cn;rw[τ];go_enter func93,ntmps93;go_wp2_with fail;obtain⟨w1,cx,b7,bg,b8,af,d8⟩:=alD w (.cells (ϟ E.V r) 89) (.cells #[.func (.func g) #[] cap] 92) (.cells ϝ 42)
 rw[<-cx];clear cx q0 ds dt du;have a4:=Env.To.of0 o af;have hq:=af.hp aw;have bp:=b4.out.keep0 af;have ct:=af.hp cu;have hb:Both (RL E.O n w1) b ls:=bs.out.mono λx y hr=>RL.keep hr af (Apt.nil _ _);clear aw b4 cu bs;have HB:=zh hb;have dw:=zh bp;have co:b.findIdx (λp=>f p.key)=ls.findIdx (λp=>f p.key):=by
  have e:=hb.map_eq λx y hr=>hr.1;have h1:∀ (l:List HL),l.findIdx (λl=>f l.key)=(l.map HL.key).findIdx f:=λl=>by rw[List.findIdx_map];rfl
  have h2:∀ (l:List (Lnk (Tn n))),l.findIdx (λl=>f l.key)=(l.map Lnk.key).findIdx f:=λl=>by rw[List.findIdx_map];rfl
  rw[h1,h2,e]
 have c6:Hid (∀ i j (hi:i<b.length) (hj:j<b.length),i<=j->(!f b[j].key)=true->(!f b[i].key)=true):=by
  show ∀ i j (hi:i<b.length) (hj:j<b.length),_;intro i j hi hj d2 hp;by_cases e:i=j
  .subst e;exact hp
  .have hk:=(zI7 hb bx).at hi hj oM;by_cases e2:f b[i].key=true
   .rw[da.out _ _ hk e2] at hp;cases hp
   .simpa using e2
 obtain⟨i,bn⟩:∃ i,ls.findIdx (λp=>f p.key)-1=i:=⟨_,rfl⟩;have d3:i<b.length:=by
  have:ls.findIdx (λp=>f p.key)<=ls.length:=fL;have:=hb.1;omega
 have c8:Hid (∀ W,Kp [] w1 W->Ω 148 #[.slice (some ⟨U,C,none⟩) b.length H,.func (.func 149) #[] #[ϖ (w.heap.size+1)]] W λe R=>e=ϱ (ϊ (i:Nat))/\Kp [] W R):=by
  show ∀ W,_;intro W bh;have:=xH3 149 #[ϖ (w.heap.size+1)] (.slice (some ⟨U,C,none⟩) b.length H) b (λp=>!f p.key) W (bp.keep0 bh) oM c6 (λargs W=>by simp[go_sem,func149])
   (λW2 al j hj=>jI7 g (w.heap.size+1) cap b[j] (f b[j].key) W2 ((bh.tr al).hp bg) dh (λW' hK'=>HA W' _ ((a4.tail (bh.tr al)).tail hK')))
  simp only[Bool.not_not] at this;rw[co,bn] at this;exact this
 have bv:=zh bn;clear af hb bp co bn;have h:=hq;refine wp_region_held_drew (S:=λW=>Ϙ W q (χ N (.slice none 0 0) (.slice (some ⟨U,C,none⟩) b.length H))) kR h (λ_=>?_);refine zP 0 q 0 h ?_;refine zP 1 q 0 h ?_;refine zP 2 q 2 h ?_;refine zV 3 (.slice (some ⟨U,C,none⟩) b.length H) rfl (λW I=>by have c:=ξ I 2;simp[χ] at c;clear I;go_simp) h ?_;refine zP 4 q 0 h ?_;refine zP 5 q 0 h ?_;refine zP 6 q 2 h ?_;refine zV 7 (.slice (some ⟨U,C,none⟩) b.length H) rfl (λW I=>by have c:=ξ I 2;simp[χ] at c;clear I;go_simp) h ?_;refine zU 8 (.func (.func 149) #[] #[ϖ (w.heap.size+1)]) h ?_;refine zU 12 (ϊ 0) h ?_;refine zq 9 λK hK=>?_;go_simp;refine (c8 w1.drew (kF.drew)).mono ?_;rintro e w2 ⟨rfl,al⟩;have ac:Kp [] w1 w2:=((Kp.refl _ w1).drew).tr al;have ao:=ac.hp h;refine hK.out _ _ ao (λ_=>?_);clear hK K al
 try simp only[zZ]
 have dk:¬H=i:=oM
 have dp:(i:Int)<=(b.length:Int):=oM
 have dn:(i:Int)<=(H:Int):=oM
 have dr:(b.length:Int)<=(H:Int):=oM
 refine zU 10 (.slice (some ⟨U,C+i*4,none⟩) (b.length-i) (H-i)) ao ?_;obtain⟨m,u⟩:=eX (b.length-i);rw[<-u];refine zU 11 (ϊ m) ao ?_;refine zd ?_;have cd:=a4.tail ac;have HM:=zh u;have b0:=zh ct;have ax:=zh cd;have b6:=zh a4;have c4:=zh (ac.hp b7);have c7:=zh (ac.hp bg);have c9:=zh (ac.hp b8);have d7:i+m=b.length:=oM
 have bc:=zh ac;have bz:=zh ao;clear ao h cd a4 b7 bg b8 ct ac hq u dk dp dn dr;go_wp2
 go_loopw [52] (λs wr=>∃ (j:Nat),j<=m/\s=.int .i64 j/\Hid ((((ls.drop i).take j).flatMap λl=>cont n l.sub).find? (λq=>f q.k)=none)/\Hid (E.To w wr)/\Hid (E.To w2 wr)/\Ϙ wr w.heap.size (.cells (ϟ E.V r) 89)/\wr.heap[w.heap.size+1]?=some (.cells #[.func (.func g) #[] cap] 92)/\wr.heap[w.heap.size+1+1]?=some (.cells ϝ 42)) (λs _=>m-(intOf s).toNat)
 case atStart=>exact⟨0,zL _,rfl,(by simp:_=none),ax,⟨ax.dev,Kp.refl _ _⟩,c4,c7,c9⟩
 case round=>
  obtain⟨j,hj,rfl,bo,ch,ar,aj,ak,Z⟩:=hrel;by_cases d4:j<m
  .have dm:(j:Int)<(m:Int):=oM
   have dl:i+j<ls.length:=by have:=bt.out;omega
   obtain⟨z,hz⟩:∃ z,ls[i+j]?=some z:=⟨_,gQ dl⟩;obtain⟨x,_,cv,c0,c1,c2,c3⟩:=qS1 HB c5 hz;have ah:=ar.out.kp.heap (bc.hp b0) (λu=>E.apt w2 ax.dev _ u _ _ _ (bc.hp b0) dC);rw[show C+(i+j)*4=C+i*4+j*4 by omega] at c0 c1 c2 c3;have a0:=ξ ah (C+i*4+j*4);rw[c0] at a0;have a1:=ξ ah (C+i*4+j*4+1);rw[c1] at a1;have a2:=ξ ah (C+i*4+j*4+2);rw[c2] at a2;have a3:=ξ ah (C+i*4+j*4+3);rw[c3] at a3;have di:=ζ ah;have db:=ζ aj;have dc:=ζ ak;have cb:=ζ Z;have t0:=ξ aj;have f0:=ϻ ak 0;have b2:=zh cv;have HZ:=zh hz;have ae:=zh (bu z (mO hz));have cs:=ar.out.kp.heap bz (λu=>E.apt w2 ax.dev _ u _ _ _ bz dC);have cc:=(Env.To.of0 b6.dev bc).trans ar.out;have b3:=zh (Env.RL b2 b6.dev cc);have dv:=ar.out.kp.size;have cw:((ls.drop i).take (j+1)).flatMap (λl=>cont n l.sub)=((ls.drop i).take j).flatMap (λl=>cont n l.sub)++cont n z.sub:=by
    have hd:(ls.drop i)[j]?=some z:=by rw[List.getElem?_drop];exact HZ
    obtain⟨dq,he⟩:=gS hd;rw[tA dq,he,fA];simp
   have b5:=zh cw;clear cv hz ah cc c0 c1 c2 c3 cw;go_wp2_with fail;clear a0 a1 a2 a3 di t0 f0 db dc;obtain⟨G,cy,a9,V⟩:=alA wr (.cells (ϡ x) 87);rw[<-cy];clear cy;obtain⟨X,ci⟩:=eY wr.heap.size;rw[ci] at a9 dv cb |-;have cj:=ζ a9;have a7:=ch.out.tail V;have ce:=ar.out.tail V;have b9:=V.hp Z;have ca:=RL.keep b3 V (Apt.nil _ _);have h:=n4 (V.hp aj) (V.hp ak) a9 (V.hp cs);clear V a9 aj ak Z cs ci b3 b2;obtain⟨O,P,T,L⟩:∃ O P T,qI1 ((cont n z.sub).find? λq=>f q.k)=.tuple #[.agg #[.string O,.string P],.bool T]:=by
    cases (cont n z.sub).find? λq=>f q.k with
    | none=>exact⟨_,_,_,rfl⟩
    | some p=>exact⟨_,_,_,rfl⟩
   have ab:=zh L;clear L;refine wp_region_held_drew (S:=λW=>Ϙ W w.heap.size (.cells (ϟ E.V r) 89)/\W.heap[w.heap.size+1]?=some (.cells #[.func (.func g) #[] cap] 92)/\Ϙ W X (.cells (ϡ x) 87)/\Ϙ W q (χ N (.slice none 0 0) (.slice (some ⟨U,C,none⟩) b.length H))) kR h (λ_=>?_);refine zW 0 (.agg (ϟ E.V r)) h (·.1) ?_;refine zW 1 (.agg (ϟ E.V r)) h (·.1) ?_;refine zW 2 (.agg (ϡ x)) h (·.2.2.1) ?_;refine zP 3 q 0 h ?_;refine zP 4 q 0 h ?_;refine zP 5 q 0 h ?_;refine zV 6 (ϊ N) rfl (λW I=>by have c:=ξ I.2.2.2 0;simp[χ] at c;clear I;go_simp) h ?_;refine zV 8 (.func (.func g) #[] cap) rfl (λW I=>by have c:=ξ I.2.1 0;simp only[zG,zH] at c;clear I;go_simp) h ?_;have au:=a7.tail (kF.drew);have bm:=ce.tail (kF.drew);have bl:G.drew.heap[w.heap.size+1+1]?=some (.cells ϝ 42):=b9;have J:Ϙ G.drew w.heap.size (.cells (ϟ E.V r) 89)/\G.drew.heap[w.heap.size+1]?=some (.cells #[.func (.func g) #[] cap] 92)/\Ϙ G.drew X (.cells (ϡ x) 87)/\Ϙ G.drew q (χ N (.slice none 0 0) (.slice (some ⟨U,C,none⟩) b.length H)):=h;have bk:=RL.keep ca ((Kp.refl [] _).drew) (Apt.nil _ _);have d9:X<G.drew.heap.size:=cj;clear a7 ce b9 ca;refine zr 7 13 (λK hK=>?_) λK hK=>?_
   focus
    go_simp;refine (qK6 E n x r z N G.drew au.dev bk bw).mono ?_;rintro e w4 ⟨q1,rfl,ad,a⟩;have Q:=au.trans a;have a5:=bm.trans a;have ay:=a.new (k:=w.heap.size+1+1) o oM bl;have A:=n4 (a.new (k:=w.heap.size) o oM J.1) (a.new (k:=w.heap.size+1) o oM J.2.1) (a.new (k:=X) o oM J.2.2.1) (a.kp.heap (k:=q) J.2.2.2 (λu=>E.apt _ au.dev _ u _ _ _ J.2.2.2 dC));refine zk hK A ?_
    refine zr 9 13 (λK hK=>?_) λK hK=>?_
    focus
     go_simp;refine (bb r z q1 w4 Q.dev ad ae.1 ae.2 (HA.to Q)).mono ?_;rintro e w5 ⟨rfl,a⟩;rw[ab.out];have F:=Q.trans a;have aq:=a5.trans a;have am:=a.new (k:=w.heap.size+1+1) o oM ay;have t:=n4 (a.new (k:=w.heap.size) o oM A.1) (a.new (k:=w.heap.size+1) o oM A.2.1) (a.new (k:=X) o oM A.2.2.1) (a.kp.heap (k:=q) A.2.2.2 (λu=>E.apt _ Q.dev _ u _ _ _ A.2.2.2 dC));refine zk hK t ?_
     refine zU 10 (.tuple #[.agg #[.string O,.string P],.bool T]) t ?_;refine zU 11 (.agg #[.string O,.string P]) t ?_;refine zU 12 (.bool T) t ?_;refine zq 13 λK hK=>?_;go_simp;obtain⟨w6,aa,D,d⟩:=alA w5 (.cells ϝ 42);rw[<-aa];clear aa;have a8:=F.tail d;have a6:=aq.tail d;have az:=d.hp am;have B:=n4 (d.hp t.1) (d.hp t.2.1) (d.hp t.2.2.1) (d.hp t.2.2.2);refine zk hK B ?_
     have av:=ζ t.2.2.1;generalize w5.heap.size=LB at D av |-
    rotate_left
    focus
     go_simp;obtain⟨w5,aa,bi,d⟩:=alA w4 (.cells ϝ 42);rw[<-aa];clear aa;have F:=Q.tail d;have aq:=a5.tail d;have am:=d.hp ay;have t:=n4 (d.hp A.1) (d.hp A.2.1) (d.hp A.2.2.1) (d.hp A.2.2.2);refine zk hK t ?_
     have av:=ζ A.2.2.1;have dd:=RN.keep d (Apt.nil _ _) n q1 _ ad;clear ad;have ad:=dd;refine zq 9 λK hK=>?_;go_simp;refine (bb r z q1 w5 F.dev ad ae.1 ae.2 (HA.to F)).mono ?_;rintro e w6 ⟨rfl,a⟩;rw[ab.out];have a8:=F.trans a;have a6:=aq.trans a;have az:=a.new (k:=w.heap.size+1+1) o oM am;have B:=n4 (a.new (k:=w.heap.size) o oM t.1) (a.new (k:=w.heap.size+1) o oM t.2.1) (a.new (k:=X) o oM t.2.2.1) (a.kp.heap (k:=q) t.2.2.2 (λu=>E.apt _ F.dev _ u _ _ _ t.2.2.2 dC));refine zk hK B ?_
     have D:=a.new o oM bi;refine zU 10 (.tuple #[.agg #[.string O,.string P],.bool T]) B ?_;refine zU 11 (.agg #[.string O,.string P]) B ?_;refine zU 12 (.bool T) B ?_;generalize w4.heap.size=LB at D av |-
   rotate_left 2
   focus
    go_simp;obtain⟨w4,aa,de,d⟩:∃ R,R=(G.alloc (.cells ϝ 42)).drew/\Ϙ R G.heap.size (.cells ϝ 42)/\Kp [] G.drew R:=⟨_,rfl,υ _ _,((Kp.refl _ G.drew).alloc _)⟩;rw[<-aa];clear aa;have Q:=au.tail d;have a5:=bm.tail d;have ay:=d.hp bl;have A:=n4 (d.hp J.1) (d.hp J.2.1) (d.hp J.2.2.1) (d.hp J.2.2.2);refine zk hK A ?_
    have df:=RL.keep bk d (Apt.nil _ _);refine zq 7 λK hK=>?_;go_simp;refine (qK6 E n x r z N w4 Q.dev df bw).mono ?_;rintro e w5 ⟨q1,rfl,ad,a⟩;have F:=Q.trans a;have aq:=a5.trans a;have am:=a.new (k:=w.heap.size+1+1) o oM ay;have t:=n4 (a.new (k:=w.heap.size) o oM A.1) (a.new (k:=w.heap.size+1) o oM A.2.1) (a.new (k:=X) o oM A.2.2.1) (a.kp.heap (k:=q) A.2.2.2 (λu=>E.apt _ Q.dev _ u _ _ _ A.2.2.2 dC));refine zk hK t ?_
    have bi:=a.new o oM de;refine zq 9 λK hK=>?_;go_simp;refine (bb r z q1 w5 F.dev ad ae.1 ae.2 (HA.to F)).mono ?_;rintro e w6 ⟨rfl,a⟩;rw[ab.out];have a8:=F.trans a;have a6:=aq.trans a;have az:=a.new (k:=w.heap.size+1+1) o oM am;have B:=n4 (a.new (k:=w.heap.size) o oM t.1) (a.new (k:=w.heap.size+1) o oM t.2.1) (a.new (k:=X) o oM t.2.2.1) (a.kp.heap (k:=q) t.2.2.2 (λu=>E.apt _ F.dev _ u _ _ _ t.2.2.2 dC));refine zk hK B ?_
    have D:=a.new o oM bi;have av:=cj;refine zU 10 (.tuple #[.agg #[.string O,.string P],.bool T]) B ?_;refine zU 11 (.agg #[.string O,.string P]) B ?_;refine zU 12 (.bool T) B ?_;generalize G.heap.size=LB at D av |-
   all_goals
    have dx:=ζ D;have z0:=ξ D;have bf:=ψ D;refine zq 14 λK hK=>?_;go_simp;have M:=qR6 (.string O) (.string P) D;obtain⟨w7,cz,bj,Y⟩:=gE M;rw[<-cz];clear cz M z0 bf;have cg:=a8.store' oM D dC Y;have cf:=a6.store' oM D dC Y;have an:=Y.ho az;have ap:=n4 (Y.ho B.1) (Y.ho B.2.1) (Y.ho B.2.2.1) (Y.heap B.2.2.2 (by intro u;rw[mS u,D] at B;simp[χ] at B));refine zk hK ap ?_
    refine zq 15 λK hK=>?_;go_simp;refine zk hK ap ?_
    refine zd ?_;have be:=zh (n2 cg cf);have ai:=zh (n3 ap.1 ap.2.1 an);have dy:=ζ bj;have dz:=ζ an;have y0:=ξ bj;have z0:=ξ an;have bf:=ψ an;clear ap B D bj an az cg cf a8 a6 Y h J bl au bm bk
    cases hfd:(cont n z.sub).find? (λq=>f q.k) with
    | none=>
     have L:=ab.out;rw[hfd] at L;simp only[qI1,Value.tuple.injEq,Array.mk.injEq,List.cons.injEq,Value.agg.injEq,Value.string.injEq,Value.bool.injEq,and_true] at L;obtain⟨⟨rfl,rfl⟩,rfl⟩:=L;have ba:=zh hfd;clear hfd ab;go_wp2;refine⟨⟨j+1,oM,by go_num,?_,be.1,be.2,ai.1,ai.2.1,ai.2.2⟩,by simp[intOf];omega⟩;show _=none;rw[b5.out,List.find?_append,bo.out,ba.out];rfl
    | some p=>
     have L:=ab.out;rw[hfd] at L;simp only[qI1,Value.tuple.injEq,Array.mk.injEq,List.cons.injEq,Value.agg.injEq,Value.string.injEq,Value.bool.injEq,and_true] at L;obtain⟨⟨rfl,rfl⟩,rfl⟩:=L;have ba:=zh hfd;clear hfd ab;go_wp2;have M:=qR6 (.string p.k) (.string p.v) ai.2.2;have F:=be.out.1.store' oM ai.2.2 dC M.2;have t0:=ξ M.1 0;have t1:=ξ M.1 1;simp only[zG,zH,zI] at t0 t1;refine bodyPost_ret (v:=qI1 (some p)) ?_ rfl ⟨?_,F⟩
     .simp[results,results93,go_sem,t0,t1,qI1]
     .have dg:(ls.drop i).flatMap (λl=>cont n l.sub)=((ls.drop i).take (j+1)).flatMap (λl=>cont n l.sub)++((ls.drop i).drop (j+1)).flatMap (λl=>cont n l.sub):=by rw[<-fA,tD]
      rw[bd.out,bv.out,dg,b5.out,List.find?_append,List.find?_append,bo.out,ba.out];rfl
  .have dm:¬(j:Int)<(m:Int):=oM
   have cb:=ζ Z;have z0:=ξ Z;have bf:=ψ Z;have b1:=zh Z;clear aj ak Z;go_wp2;have M:=qR6 (.string ⟨#[]⟩) (.string ⟨#[]⟩) b1.out;have a7:=ch.out.store' oM b1 dC M.2;have t0:=ξ M.1 0;have t1:=ξ M.1 1;simp only[zG,zH,zI] at t0 t1;refine bodyPost_ret (v:=qI1 none) ?_ rfl ⟨?_,a7⟩
   .simp[results,results93,go_sem,t0,t1,qI1]
   .have hx:=bo.out;rw[tL (by have:=bt.out;simp;omega)] at hx;rw[bd.out,bv.out,hx]
theorem jJ3(E:Env)(g:Nat)(cap:Array Value)(f:ByteArray->Bool)(i:Up f)(h:∀ (args:Array Value) (W:World),Sem.run prog (callFunc g args) W=.ok (.enter g args) W):∀ (n:Nat) (r:HL) (l:Lnk (Tn n)) (q:Nat) (w:World),E.Dev w->RN E.O n w q l.sub->Good n l.key l.sub->1<=cnt n l.sub->Asks E w g cap f->
  Calls prog 93 #[τ E.V r,.pointer (some ⟨q,0,none⟩),.func (.func g) #[] cap] w λe m=>e=.returned (qI1 ((cont n l.sub).find? λq=>f q.k))/\E.To w m:=by
 intro n
 induction n with
 | zero=>intro r l q w b d c _ a;exact jJ2 E r l q g cap f w b d c i a h
 | succ n ih=>intro r l q w b d c k a;exact jJ1 E n g cap f i h (λr l q w b d c j a=>ih r l q w b d c j a) r l q w b d c k a
end Go.Proofs.YtdohpenfkdckiaaGreatDoor
