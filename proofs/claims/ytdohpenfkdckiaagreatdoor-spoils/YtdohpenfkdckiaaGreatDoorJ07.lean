import Derived.Test.YtdohpenfkdckiaaGreatDoorJ06
set_option linter.all false
set_option maxRecDepth 100000
set_option maxHeartbeats 20000000
namespace Go.Proofs.YtdohpenfkdckiaaGreatDoor
open Go.Proofs.Tryz
open Go.RowKit
theorem kJ9{n:Nat}{lo k}{t}(b:Good (n+1) lo t)(l:kl k lo=false)(j:1<=cnt (n+1) t){W}{d:Nat}(h:qA8 (η t) k<(η t).length)(f:Made n (η t)[qA8 (η t) k] d W)(c:∀ x∈W,x.key.size<=8):
  (∀ x∈(η t).take (qA8 (η t) k)++W++(η t).drop (qA8 (η t) k+1),x.key.size<=8)/\meas qA2 ((η t).take (qA8 (η t) k)++W++(η t).drop (qA8 (η t) k+1))<=145:=by
 constructor
 .intro x a;simp only[List.mem_append] at a;rcases a with (a|a)|a
  .exact (b.all x (mT a)).2.2
  .exact c x a
  .exact (b.all x (mD a)).2.2
 .have g:=f.meas c;have i:meas qA2 (η t)<=126:=b.fits;have e:=qN6 qA2 (η t) (qA8 (η t) k);rw[dG h,qC2] at e;rw[qE2,qE2];omega
theorem kQ0(E:Env)(r h:HL)(l:Lnk (Tn 0))(q:Nat)(p:KV)(w:World)(hd:E.Dev w)(ac:h.key=l.key)(hN:RN E.O 0 w q l.sub)(D:Good 0 l.key l.sub)(hp:qC3 p)(hc:1<=cnt 0 l.sub)(d:qG1 (prs l.sub) (qB9 (prs l.sub) p.k) p.k=true):
  Calls prog 118 #[τ E.V r,qC1 h,.pointer (some ⟨q,0,none⟩),.agg #[.string p.k,.string p.v]] w λe w'=>∃ v',e=.returned v'/\RLs E.O 0 w' v' (qE5 0 l p)/\E.To w w':=by
 have av:(prs l.sub).length<=10000:=qK8 0 l.key l.sub D;have au:1<=(prs l.sub).length:=hc;have F:Sorted (prs l.sub):=D.sorted;have ax:θ p<=21:=by obtain⟨k,O,h3⟩:=hp;unfold θ;omega
 have aa:meas θ (qH3 p (prs l.sub))<=210:=by
  have e:qH3 p (prs l.sub)=ins p (prs l.sub):=(qT6 F p).symm;rw[e];have k:=zQ4 p F;have O:meas θ (prs l.sub)<=126:=D.fits;omega
 have ai:∀ q∈qH3 p (prs l.sub),θ q<=21:=by
  have e:qH3 p (prs l.sub)=ins p (prs l.sub):=(qT6 F p).symm;rw[e];intro q f;rcases zH5 f with rfl|f
  .exact ax
  .obtain⟨⟨k,O,h3⟩,_⟩:=D.all q f;unfold θ;omega
 have an:=zh ac;have al:=zh d;clear d;have HD:=zh hd;have G:=zh (n2 aa ai);obtain⟨vp,f,ah⟩:=hN;have ay:=ζ f;have az:q<w.heap.size+1:=oM
 have a0:q<w.heap.size+1+1:=oM
 have q0:=ξ f 0;simp only[χ,zG,zH,zI] at q0;clear hd ac aa ai;rw[τ,qC1];go_enter func118,ntmps118;go_wp2_with fail;obtain⟨w1,aj,aq,Q,T,C,a1⟩:=alD w (.cells (ϟ E.V r) 89) (.cells (ϡ h) 87) (.cells #[.string p.k,.string p.v] 185)
 rw[<-aj];clear aj aq a1 q0 ay az a0;have V:=Env.To.of0 HD C;have J:=C.hp f;have M:=ah.keep0 C;clear f ah;refine (zJ3 q 0 vp _ (prs l.sub) p.k w1 J M oM F).mono ?_;rintro e N ⟨rfl,m⟩;have ar:=V.tail m;have ad:=m.hp J;have ae:=M.keep0 m;have R:=m.hp Q;have U:=m.hp T;clear m J M Q T V C;obtain⟨A,B,hv⟩:∃ A B,vp=.slice A (prs l.sub).length B:=by
  rcases ae.val with⟨h0,b,c,k,_⟩|⟨g,a3,cap,cur,fr,k,_⟩
  .rw[h0];exact⟨b,c,k⟩
  .exact⟨_,cap,k⟩
 subst hv;obtain⟨i,z⟩:=eY (qB9 (prs l.sub) p.k);have a2:i<=(prs l.sub).length:=by rw[<-z];exact zJ2 _ _
 rw[z];have d:=al.out;rw[z] at d;have aw:i+1<=(prs l.sub).length:=by
  by_cases h:i<(prs l.sub).length
  .omega
  .unfold qG1 at d;rw[gN oM] at d
   first | (cases d;done) | omega
 have ab:(prs l.sub).take i++[p]++(prs l.sub).drop (i+1)=qH3 p (prs l.sub):=by unfold qH3;rw[z,d];rfl
 have am:=zh ab;clear ab;rw[d];clear d z;go_wp2_with fail;have a:=n3 ad R U;refine wp_region_held_drew (S:=λW=>Ϙ W q (χ 0 (.slice A (prs l.sub).length B) (.slice none 0 0))/\W.heap[w.heap.size+1]?=some (.cells (ϡ h) 87)/\W.heap[w.heap.size+1+1]?=some (.cells #[.string p.k,.string p.v] 185)) kR a (λ_=>?_);refine zU 0 (ϖ (w.heap.size+1)) a ?_;refine zV 1 (.string h.key) rfl (λW t=>by have c:=ξ t.2.1 0;simp at c;clear t;go_simp) a ?_;refine zP 2 q 0 a ?_;refine zP 3 q 0 a ?_;refine zP 4 q 1 a ?_;refine zV 5 (.slice A (prs l.sub).length B) rfl (λW t=>by have c:=ξ t.1 1;simp[χ] at c;clear t;go_simp) a ?_;refine zU 6 (ϊ i) a ?_;refine zU 7 (ϊ ((i+1:Nat):Int)) a ?_;refine zW 8 (.agg #[.string p.k,.string p.v]) a (·.2.2) ?_;refine zq 9 λK hK=>?_;go_simp;obtain⟨w3,ak,P,n⟩:=alF N (.cells #[.string p.k,.string p.v] 185);rw[<-ak];clear ak;have v:=And.intro (n.hp ad) (And.intro (n.hp R) (n.hp U));have af:=ae.keep0 n;have X:=ar.tail n;refine hK.out _ _ v (λ_=>?_);clear hK K a
 try simp only[zZ]
 refine zq 10 λK hK=>?_;go_simp;have ag:Slc w3 185 2 (.slice (some ⟨N.heap.size,0,none⟩) 1 1) [p].length (qA4 [p]):=⟨rfl,.inr ⟨N.heap.size,0,1,_,_,rfl,lR,lR,P,λj u hu=>by simpa [qA4,pcs] using hu⟩⟩
 try rw[show ((i:Int)+1)=((i+1:Nat):Int) from by omega]
 refine (zS7 _ _ (prs l.sub) [p] i (i+1) w3 af ag oM aw au av sM).mono ?_;rintro e w4 ⟨v4,rfl,L,o⟩;rw[am.out] at L;have Y:=X.tail o;have y:=And.intro (o.hp v.1) (And.intro (o.hp v.2.1) (o.hp v.2.2));refine hK.out _ _ y (λ_=>?_);clear hK K v o X ag P n af
 try simp only[zZ]
 refine zq 11 λK hK=>?_;go_simp;refine (zA1 E.O h.key v4 (qH3 p (prs l.sub)) w4 L (by have:=qK0 θ (qH3 p (prs l.sub)) (λx _=>by unfold θ;omega);have:=G.out.1;omega) G.2 G.1).mono ?_;rintro e w5 ⟨v5,rfl,H,s⟩;have Z:=Y.tail s;have I:=And.intro (s.hp y.1) (And.intro (s.hp y.2.1) (s.hp y.2.2));refine hK.out _ _ I (λ_=>?_);clear hK K y s Y
 try simp only[zZ]
 refine zq 12 λK hK=>?_;go_simp;refine hK.out _ _ I (λ_=>?_);refine zd ?_;rw[an.out] at H;have ao:=zh H;have ap:=zh Z;clear I H Z L;go_wp2;go_ret;exact⟨v5,rfl,ao,ap⟩
theorem kQ1(E:Env)(r h:HL)(l:Lnk (Tn 0))(q:Nat)(p:KV)(w:World)(hd:E.Dev w)(ac:h.key=l.key)(hN:RN E.O 0 w q l.sub)(D:Good 0 l.key l.sub)(hp:qC3 p)(hc:1<=cnt 0 l.sub)(d:qG1 (prs l.sub) (qB9 (prs l.sub) p.k) p.k=false):
  Calls prog 118 #[τ E.V r,qC1 h,.pointer (some ⟨q,0,none⟩),.agg #[.string p.k,.string p.v]] w λe w'=>∃ v',e=.returned v'/\RLs E.O 0 w' v' (qE5 0 l p)/\E.To w w':=by
 have av:(prs l.sub).length<=10000:=qK8 0 l.key l.sub D;have au:1<=(prs l.sub).length:=hc;have F:Sorted (prs l.sub):=D.sorted;have ax:θ p<=21:=by obtain⟨k,O,h3⟩:=hp;unfold θ;omega
 have aa:meas θ (qH3 p (prs l.sub))<=210:=by
  have e:qH3 p (prs l.sub)=ins p (prs l.sub):=(qT6 F p).symm;rw[e];have k:=zQ4 p F;have O:meas θ (prs l.sub)<=126:=D.fits;omega
 have ai:∀ q∈qH3 p (prs l.sub),θ q<=21:=by
  have e:qH3 p (prs l.sub)=ins p (prs l.sub):=(qT6 F p).symm;rw[e];intro q f;rcases zH5 f with rfl|f
  .exact ax
  .obtain⟨⟨k,O,h3⟩,_⟩:=D.all q f;unfold θ;omega
 have an:=zh ac;have al:=zh d;clear d;have HD:=zh hd;have G:=zh (n2 aa ai);obtain⟨vp,f,ah⟩:=hN;have ay:=ζ f;have az:q<w.heap.size+1:=oM
 have a0:q<w.heap.size+1+1:=oM
 have q0:=ξ f 0;simp only[χ,zG,zH,zI] at q0;clear hd ac aa ai;rw[τ,qC1];go_enter func118,ntmps118;go_wp2_with fail;obtain⟨w1,aj,aq,Q,T,C,a1⟩:=alD w (.cells (ϟ E.V r) 89) (.cells (ϡ h) 87) (.cells #[.string p.k,.string p.v] 185)
 rw[<-aj];clear aj aq a1 q0 ay az a0;have V:=Env.To.of0 HD C;have J:=C.hp f;have M:=ah.keep0 C;clear f ah;refine (zJ3 q 0 vp _ (prs l.sub) p.k w1 J M oM F).mono ?_;rintro e N ⟨rfl,m⟩;have ar:=V.tail m;have ad:=m.hp J;have ae:=M.keep0 m;have R:=m.hp Q;have U:=m.hp T;clear m J M Q T V C;obtain⟨A,B,hv⟩:∃ A B,vp=.slice A (prs l.sub).length B:=by
  rcases ae.val with⟨h0,b,c,k,_⟩|⟨g,a3,cap,cur,fr,k,_⟩
  .rw[h0];exact⟨b,c,k⟩
  .exact⟨_,cap,k⟩
 subst hv;obtain⟨i,z⟩:=eY (qB9 (prs l.sub) p.k);have a2:i<=(prs l.sub).length:=by rw[<-z];exact zJ2 _ _
 rw[z];have d:=al.out;rw[z] at d;have aw:i<=(prs l.sub).length:=by
  by_cases h:i<(prs l.sub).length
  .omega
  .unfold qG1 at d;rw[gN oM] at d
   first | (cases d;done) | omega
 have ab:(prs l.sub).take i++[p]++(prs l.sub).drop (i)=qH3 p (prs l.sub):=by unfold qH3;rw[z,d];rfl
 have am:=zh ab;clear ab;rw[d];clear d z;go_wp2_with fail;have a:=n3 ad R U;refine wp_region_held_drew (S:=λW=>Ϙ W q (χ 0 (.slice A (prs l.sub).length B) (.slice none 0 0))/\W.heap[w.heap.size+1]?=some (.cells (ϡ h) 87)/\W.heap[w.heap.size+1+1]?=some (.cells #[.string p.k,.string p.v] 185)) kR a (λ_=>?_);refine zU 0 (ϖ (w.heap.size+1)) a ?_;refine zV 1 (.string h.key) rfl (λW t=>by have c:=ξ t.2.1 0;simp at c;clear t;go_simp) a ?_;refine zP 2 q 0 a ?_;refine zP 3 q 0 a ?_;refine zP 4 q 1 a ?_;refine zV 5 (.slice A (prs l.sub).length B) rfl (λW t=>by have c:=ξ t.1 1;simp[χ] at c;clear t;go_simp) a ?_;refine zU 6 (ϊ i) a ?_;refine zU 7 (ϊ ((i:Nat):Int)) a ?_;refine zW 8 (.agg #[.string p.k,.string p.v]) a (·.2.2) ?_;refine zq 9 λK hK=>?_;go_simp;obtain⟨w3,ak,P,n⟩:=alF N (.cells #[.string p.k,.string p.v] 185);rw[<-ak];clear ak;have v:=And.intro (n.hp ad) (And.intro (n.hp R) (n.hp U));have af:=ae.keep0 n;have X:=ar.tail n;refine hK.out _ _ v (λ_=>?_);clear hK K a
 try simp only[zZ]
 refine zq 10 λK hK=>?_;go_simp;have ag:Slc w3 185 2 (.slice (some ⟨N.heap.size,0,none⟩) 1 1) [p].length (qA4 [p]):=⟨rfl,.inr ⟨N.heap.size,0,1,_,_,rfl,lR,lR,P,λj u hu=>by simpa [qA4,pcs] using hu⟩⟩
 try rw[show ((i:Int)+1)=((i+1:Nat):Int) from by omega]
 refine (zS7 _ _ (prs l.sub) [p] i (i) w3 af ag oM aw au av sM).mono ?_;rintro e w4 ⟨v4,rfl,L,o⟩;rw[am.out] at L;have Y:=X.tail o;have y:=And.intro (o.hp v.1) (And.intro (o.hp v.2.1) (o.hp v.2.2));refine hK.out _ _ y (λ_=>?_);clear hK K v o X ag P n af
 try simp only[zZ]
 refine zq 11 λK hK=>?_;go_simp;refine (zA1 E.O h.key v4 (qH3 p (prs l.sub)) w4 L (by have:=qK0 θ (qH3 p (prs l.sub)) (λx _=>by unfold θ;omega);have:=G.out.1;omega) G.2 G.1).mono ?_;rintro e w5 ⟨v5,rfl,H,s⟩;have Z:=Y.tail s;have I:=And.intro (s.hp y.1) (And.intro (s.hp y.2.1) (s.hp y.2.2));refine hK.out _ _ I (λ_=>?_);clear hK K y s Y
 try simp only[zZ]
 refine zq 12 λK hK=>?_;go_simp;refine hK.out _ _ I (λ_=>?_);refine zd ?_;rw[an.out] at H;have ao:=zh H;have ap:=zh Z;clear I H Z L;go_wp2;go_ret;exact⟨v5,rfl,ao,ap⟩
theorem zL8{α c:Type}{R:α->c->Prop}{a:List α}{b:List c}(h:Both R a b){i:Nat}(d:i<a.length)(e:i<b.length):R a[i] b[i]:=h.2 i d e
theorem kP9(E:Env)(n:Nat)
  (ih:∀ (r h:HL) (l:Lnk (Tn n)) (q:Nat) (p:KV) (w:World),E.Dev w->h.key=l.key->RN E.O n w q l.sub->Good n l.key l.sub->qC3 p->kl p.k l.key=false->1<=cnt n l.sub->l.key.size<=8->Calls prog 118 #[τ E.V r,qC1 h,.pointer (some ⟨q,0,none⟩),.agg #[.string p.k,.string p.v]] w λe w'=>∃ v',e=.returned v'/\RLs E.O n w' v' (qE5 n l p)/\E.To w w')
  (hn:n<=100000) (r h:HL) (l:Lnk (Tn (n+1))) (q:Nat) (p:KV) (w:World) (hd:E.Dev w) (bq:h.key=l.key) (hN:RN E.O (n+1) w q l.sub) (Q:Good (n+1) l.key l.sub) (hp:qC3 p) (hk:kl p.k l.key=false) (hc:1<=cnt (n+1) l.sub):
  Calls prog 118 #[τ E.V r,qC1 h,.pointer (some ⟨q,0,none⟩),.agg #[.string p.k,.string p.v]] w λe w'=>∃ v',e=.returned v'/\RLs E.O (n+1) w' v' (qE5 (n+1) l p)/\E.To w w':=by
 have b9:=(qK8 (n+1) l.key l.sub Q).1;obtain⟨J,C,af,D,_⟩:=xT3 Q hk hc;have aa:=(Q.all _ (gM J)).2.2;obtain⟨ah,a4,ab⟩:=zC4 n (η l.sub)[qA8 (η l.sub) p.k] p C hp D aa oM;obtain⟨ad,am⟩:=kJ9 Q hk hc J ab (λx L=>(ah.all x L).2);have bz:(qE5 n (η l.sub)[qA8 (η l.sub) p.k] p).length<=2:=by
  rcases ab with⟨a,e,_⟩|⟨a,b,e,_⟩<;>rw[e]<;>simp
 have ag:qE5 (n+1) l p=qC9 n l.key ((η l.sub).take (qA8 (η l.sub) p.k)++qE5 n (η l.sub)[qA8 (η l.sub) p.k] p++(η l.sub).drop (qA8 (η l.sub) p.k+1)):=by
  show (match (η l.sub)[qA8 (η l.sub) p.k]? with
   | some m=>qC9 n l.key ((η l.sub).take (qA8 (η l.sub) p.k)++qE5 n m p++(η l.sub).drop (qA8 (η l.sub) p.k+1))
   | none=>[])=_
  rw[gQ J]
 have br:=Q.pair;obtain⟨i,an⟩:=eY (qA8 (η l.sub) p.k);simp only[an] at J C af D aa ah a4 ab ad am bz ag;obtain⟨ls,ap⟩:=eY (η l.sub);simp only[ap] at J C af D aa ah a4 ab ad am bz ag b9 an;have b3:=zh ap;have b0:=zh an;have b7:=zh ag;have HF:Hid ((∀ x∈ls.take i++qE5 n ls[i] p++ls.drop (i+1),qA2 x<=21)/\meas qA2 (ls.take i++qE5 n ls[i] p++ls.drop (i+1))<=210):=⟨λx L=>by have:=ad x L;unfold qA2;omega,oM⟩;have b4:Hid (ls.Pairwise (qR2 n)):=by show List.Pairwise _ _;rw[<-ap];exact br
 have ac:Hid (Good n ls[i].key ls[i].sub/\3<=cnt n ls[i].sub/\kl p.k ls[i].key=false/\ls[i].key.size<=8):=⟨C,af,D,aa⟩;have b2:=zh bq;have z:=zh hd;have HP:=zh hp;have b1:=ih;clear hd bq Q hk hc C af D aa ah a4 ab ad am ag br hp ih;obtain⟨vl,Y,g,aw,P⟩:=hN;rw[b3.out] at P;have a7:=zh P.1;have ao:i<g.length:=by have:=a7.out;omega
 have cb:g.length<=10000:=by have:=a7.out;omega
 obtain⟨gb,U,cp,cur,fr,rfl,ch,bu,bo⟩:=aw.link oM;obtain⟨c0,c1,c2,c3⟩:=bo i ao;obtain⟨F,aq⟩:∃ F:Int,((n+1:Nat):Int)=F:=⟨_,rfl⟩;rw[aq] at Y;have a8:=zh aq.symm;have ci:¬F=0:=oM
 have bt:=zI7 P b4.out;have bx:g.findIdx (λl=>kl p.k l.key)-1=i:=by rw[zU7 P];exact b0
 have HB:=zh P;have cd:=ζ Y;have ce:q<w.heap.size+1:=oM
 have au:q<w.heap.size+1+1:=oM
 have q0:=ξ Y 0;simp only[χ,zG,zH,zI] at q0;clear bo P aq;rw[τ,qC1];go_enter func118,ntmps118;go_wp2_with fail;obtain⟨w1,C,a9,bb,be,N,cf⟩:=alD w (.cells (ϟ E.V r) 89) (.cells (ϡ h) 87) (.cells #[.string p.k,.string p.v] 185)
 rw[<-C];clear C;have bg:=Env.To.of0 z N;have ar:=N.hp Y;have ax:=aw.keep0 N;have bv:=N.hp bu;have a5:Hid (Both (RL E.O n w1) g ls):=HB.out.mono λx y u=>RL.keep u N (Apt.nil _ _);clear Y aw bu HB q0 cd ce au N;have az:=zU8 q _ _ _ g p.k w1 ar ax oM bt;rw[bx] at az;refine az.mono ?_;rintro e w2 ⟨rfl,v⟩;have bh:=bg.tail v;have ae:=v.hp ar;have bw:=ax.keep0 v;have ba:=v.hp a9;have bc:=v.hp bb;have bf:=v.hp be;have R:=v.hp bv;have ay:w.heap.size<=w2.heap.size:=by have:=v.size;omega
 have a6:Hid (Both (RL E.O n w2) g ls):=a5.out.mono λx y u=>RL.keep u v (Apt.nil _ _);clear v ar ax bb be bg a9 bv az bx bt a5 cf;have au:=ζ ae;have ca:=ζ R;obtain⟨x,L⟩:=eY (g[i]);rw[L] at c0 c1 c2 c3;have HX:=zh L;clear L;have a0:=ξ R (U+i*4);rw[c0] at a0;have a1:=ξ R (U+i*4+1);rw[c1] at a1;have a2:=ξ R (U+i*4+2);rw[c2] at a2;have a3:=ξ R (U+i*4+3);rw[c3] at a3;have q2:=ξ ae 2;simp only[χ,zG,zH,zI] at q2;go_wp2_with fail;obtain⟨G,D,al,A⟩:=alA w2 (.cells (ϡ x) 87);rw[<-D];clear D;have o:=bh.tail A;have bs:=A.hp ae;have Z:=bw.keep0 A;have M:Hid (Both (RL E.O n G) g ls):=a6.out.mono λx y u=>RL.keep u A (Apt.nil _ _);obtain⟨X,bl⟩:=eY w2.heap.size;rw[bl] at al ay |-;have d:=n5 bs (A.hp bc) (A.hp bf) (A.hp ba) al;clear ae bw bc bf ba R A al a6 bh a0 a1 a2 a3 q2 au ca bl c0 c1 c2 c3 bs;obtain⟨j,hj⟩:=eX (i+1);have cj:IntKind.i64.wrap ((i:Int)+1)=(j:Int):=by rw[wK];omega
 have HJ:=zh hj;clear hj;refine wp_region_held_drew (S:=λW=>Ϙ W q (χ F (.slice none 0 0) (.slice (some ⟨gb,U,none⟩) g.length cp))/\W.heap[w.heap.size+1]?=some (.cells (ϡ h) 87)/\W.heap[w.heap.size+1+1]?=some (.cells #[.string p.k,.string p.v] 185)/\Ϙ W w.heap.size (.cells (ϟ E.V r) 89)/\Ϙ W X (.cells (ϡ x) 87)) kR d (λ_=>?_);refine zU 0 (ϖ (w.heap.size+1)) d ?_;refine zV 1 (.string h.key) rfl (λW t=>by have c:=ξ t.2.1 0;simp at c;clear t;go_simp) d ?_;refine zP 2 q 0 d ?_;refine zP 3 q 0 d ?_;refine zP 4 q 0 d ?_;refine zV 5 (ϊ F) rfl (λW t=>by have c:=ξ t.1 0;simp[χ] at c;clear t;go_simp) d ?_;refine zP 6 q 0 d ?_;refine zP 7 q 0 d ?_;refine zP 8 q 2 d ?_;refine zV 9 (.slice (some ⟨gb,U,none⟩) g.length cp) rfl (λW t=>by have c:=ξ t.1 2;simp[χ] at c;clear t;go_simp) d ?_;refine zU 10 (ϊ i) d ?_;refine zU 11 (ϊ i) d ?_;refine zU 12 (ϊ (j:Int)) d ?_;refine zW 13 (.agg (ϟ E.V r)) d (·.2.2.2.1) ?_;refine zW 14 (.agg (ϡ x)) d (·.2.2.2.2) ?_;refine zW 15 (.agg (ϟ E.V r)) d (·.2.2.2.1) ?_;refine zW 16 (.agg (ϡ x)) d (·.2.2.2.2) ?_;refine zP 17 q 0 d ?_;refine zP 18 q 0 d ?_;refine zP 19 q 0 d ?_;refine zV 20 (ϊ F) rfl (λW t=>by have c:=ξ t.1 0;simp[χ] at c;clear t;go_simp) d ?_;refine zW 22 (.agg #[.string p.k,.string p.v]) d (·.2.2.1) ?_;refine zq 21 λK hK=>?_;go_simp;have O:=o.tail (kF.drew);have bk:RL E.O n G.drew x ls[i]:=by have:=RL.keep (zL8 M ao J) ((Kp.refl [] _).drew) (Apt.nil _ _);rw[HX.out] at this;exact this
 refine (qK6 E n x r ls[i] F G.drew O.dev bk (by have:=a8.out;omega)).mono ?_;rintro e w4 ⟨q4,rfl,bd,s⟩;have V:=O.trans s;have f:=n5 (s.kp.heap (k:=q) d.1 (λhm=>E.apt _ O.dev _ hm _ _ _ d.1 dC)) (s.new (k:=w.heap.size+1) z oM d.2.1) (s.new (k:=w.heap.size+1+1) z oM d.2.2.1) (s.new (k:=w.heap.size) z oM d.2.2.2.1) (s.new (k:=X) z ay d.2.2.2.2)
 have T:=Slc.keep (w:=G.drew) (Z.keep0 ((Kp.refl [] _).drew)) s.kp ((E.apt _ O.dev).sub dC);have ai:Hid (Both (RL E.O n w4) g ls):=M.out.mono λx y u=>Env.RL (RL.keep u ((Kp.refl [] G).drew) (Apt.nil _ _)) O.dev s;refine hK.out _ _ f (λ_=>?_);clear hK K d O bk Z M s o
 try simp only[zZ]
 refine zq 23 λK hK=>?_;go_simp;refine (b1 r x ls[i] q4 p w4 V.dev (by have:=(zL8 ai ao J).1;rw[HX.out] at this;exact this) bd ac.1 HP ac.2.2.1 (by have:=ac.out.2.1;omega) ac.2.2.2).mono ?_;rintro e G ⟨v3,rfl,b8,o⟩;have bi:=V.trans o;have I:=n5 (o.kp.heap (k:=q) f.1 (λhm=>E.apt _ V.dev _ hm _ _ _ f.1 dC)) (o.new (k:=w.heap.size+1) z oM f.2.1) (o.new (k:=w.heap.size+1+1) z oM f.2.2.1) (o.new (k:=w.heap.size) z oM f.2.2.2.1) (o.new (k:=X) z ay f.2.2.2.2)
 have Z:=Slc.keep T o.kp ((E.apt _ V.dev).sub dC);have M:Hid (Both (RL E.O n G) g ls):=ai.out.mono λx y u=>Env.RL u V.dev o;refine hK.out _ _ I (λ_=>?_);clear hK K f T ai bd
 try simp only[zZ]
 refine zq 24 λK hK=>?_;go_simp;obtain⟨av,cg,bm⟩:=b8;have cc:av.length<=10000:=by rw[bm.1];omega
 have bp:=HJ.out;refine (zI6 _ v3 g av i j G Z cg oM oM oM cb cc).mono ?_;rintro e w4 ⟨v4,rfl,T,B⟩;rw[bp] at T;clear bp;have s:=bi.tail B;have bn:Both (RL E.O n w4) (g.take i++av++g.drop (i+1)) (ls.take i++qE5 n ls[i] p++ls.drop (i+1)):=(((M.take i).append bm).append (M.drop (i+1))).mono λx y u=>RL.keep u B (Apt.nil _ _);have f:=And.intro (B.hp I.1) (And.intro (B.hp I.2.1) (And.intro (B.hp I.2.2.1) (And.intro (B.hp I.2.2.2.1) (B.hp I.2.2.2.2))));refine hK.out _ _ f (λ_=>?_);clear hK K I B Z bi o
 try simp only[zZ]
 refine zq 25 λK hK=>?_;go_simp;refine (zD9 E.O n F a8 h.key v4 (ls.take i++qE5 n ls[i] p++ls.drop (i+1)) w4 ⟨_,T,bn⟩ (by have:=qK0 qA2 (ls.take i++qE5 n ls[i] p++ls.drop (i+1)) (λx _=>by unfold qA2;omega);have:=HF.out.2;omega) HF.1 HF.2).mono ?_;rintro e w5 ⟨v5,rfl,aj,H⟩;have bj:=s.tail H;have ak:=And.intro (H.hp f.1) (And.intro (H.hp f.2.1) (And.intro (H.hp f.2.2.1) (And.intro (H.hp f.2.2.2.1) (H.hp f.2.2.2.2))));refine hK.out _ _ ak (λ_=>?_);clear hK K f H s
 try simp only[zZ]
 refine zq 26 λK hK=>?_;go_simp;refine hK.out _ _ ak (λ_=>?_);refine zd ?_;rw[b2.out,<-b7.out] at aj;have b5:=zh aj;have b6:=zh bj;clear ak aj bj T bn;go_wp2;go_ret;exact⟨v5,rfl,b5,b6⟩
theorem kQ2(E:Env):∀ (n:Nat),n<=100000->∀ (r h:HL) (l:Lnk (Tn n)) (q:Nat) (p:KV) (w:World),E.Dev w->h.key=l.key->RN E.O n w q l.sub->Good n l.key l.sub->qC3 p->kl p.k l.key=false->1<=cnt n l.sub->l.key.size<=8->
  Calls prog 118 #[τ E.V r,qC1 h,.pointer (some ⟨q,0,none⟩),.agg #[.string p.k,.string p.v]] w λe j=>∃ v',e=.returned v'/\RLs E.O n j v' (qE5 n l p)/\E.To w j:=by
 intro n
 induction n with
 | zero=>
  intro _ r h l q p w c g a d f i b _
  cases hat:qG1 (prs l.sub) (qB9 (prs l.sub) p.k) p.k with
  | true=>exact kQ0 E r h l q p w c g a d f b hat
  | false=>exact kQ1 E r h l q p w c g a d f b hat
 | succ n ih=>
  intro k r h l q p w c g a d f i b _;exact kP9 E n (ih oM) oM r h l q p w c g a d f i b
theorem jU9(E:Env)(n:Nat)(O:Int)(r:HL)(v:Value)(ls:List (Lnk (Tn n)))(i:Nat)(w:World)(l:E.Dev w)(N:RLs E.O n w v ls)(c:i<ls.length)(J:ls.length<=10000)(K:ls[i].ref=none)(I:3<=cnt n ls[i].sub)(T:cnt n ls[i].sub<=10000):
  Calls prog 164 #[τ E.V r,v,.int .i64 O,.int .i64 i] w λe y=>∃ v',e=.returned v'/\RLs E.O n y v' (qC6 n ls i)/\E.To w y:=by
 have o:qC6 n ls i=ls:=by
  unfold qC6;rw[gQ c];simp only[I,if_true]
 obtain⟨b,d,a⟩:=N;have m:i<b.length:=by rw[a.1];exact c
 have W:b.length<=10000:=by rw[a.1];exact J
 obtain⟨F,x,D,cur,R,rfl,U,t,k⟩:=d.link oM;obtain⟨c0,P,Q,g⟩:=k i m;have s:=zL8 a m c;rcases s.new with⟨_,q,M,p⟩|⟨u,_⟩
 .have L:b[i].ptr=some ⟨q,0,none⟩:=by simp[HL.ptr,M]
  rw[L] at g;have z:=zh o;have f:=zh l;have B:Hid (RLs E.O n w (.slice (some ⟨F,x,none⟩) b.length D) ls):=⟨b,d,a⟩;have A:=zh p;have V:=ζ t;have C:=ξ t (x+i*4+3);rw[g] at C;have S:(3:Int)<=((cnt n ls[i].sub:Nat):Int):=oM
  clear a d s p k l o;rw[τ];go_enter func164,ntmps164;go_wp2_with fail;have h:Kp [] w (w.alloc (.cells (ϟ E.V r) 89)):=kF.alloc _;refine (qU2 E.O n q ls[i].sub _ (RN.keep h (Apt.nil _ _) n q _ A) oM).mono ?_;rintro e X ⟨rfl,G⟩;have H:=h.tr G;go_wp2;go_ret;have j:=Env.To.of0 f H;exact⟨_,rfl,by rw[z.out];exact Env.RLs B f j,j⟩
 .rw[K] at u;cases u
end Go.Proofs.YtdohpenfkdckiaaGreatDoor
