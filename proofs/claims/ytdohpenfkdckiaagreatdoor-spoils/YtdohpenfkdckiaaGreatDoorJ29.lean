import Derived.Test.YtdohpenfkdckiaaGreatDoorJ23
import Derived.Test.YtdohpenfkdckiaaGreatDoorJ26
import Derived.Test.YtdohpenfkdckiaaGreatDoorJ27
set_option linter.all false
set_option maxRecDepth 100000
set_option maxHeartbeats 20000000
namespace Go.Proofs.YtdohpenfkdckiaaGreatDoor
open Go.Proofs.Tryz
open Go.RowKit
def qE0(k:ByteArray)(ps:List KV):ByteArray:=(ps.getLast?.map KV.k).getD k
theorem xC2(k):qE0 k []=k:=rfl
theorem qV5(k)(ps)(p):qE0 k (ps++[p])=p.k:=by simp[qE0]
theorem xC1(k)(a b):qE0 (qE0 k a) b=qE0 k (a++b):=by
 rcases List.eq_nil_or_concat b with rfl|⟨c,p,rfl⟩
 .simp[qE0]
 .rw[List.concat_eq_append,qV5,<-aA,qV5]
theorem zM9{k x}{ps}(a:kl k x=true\/ps≠[])(h:∀ q∈ps,kl q.k x=true):kl (qE0 k ps) x=true:=by
 rcases List.eq_nil_or_concat ps with rfl|⟨c,p,rfl⟩
 .rcases a with h|h
  .exact h
  .exact absurd rfl h
 .rw[List.concat_eq_append] at *;rw[qV5];exact h p sM
theorem qZ7{a b}(h:kl a b=true):Op.bytesLess b.toList a.toList=false/\(b.toList == a.toList)=false:=
 ⟨qQ7 h,by rw[zB7];simpa using (qI8 h).symm⟩
def zD3(V A N C:Nat)(l:List UInt8)(writes:Int)(n:Nat):Prop:=
 ∀ (t:Tn n) (q G:Nat) (lh:HL) (bl:Int) (k:ByteArray) (b:Nat) (s:Int) (w:World),Devl V A N C l writes w→w.heap[G]?=some (qB3 V bl k)→RN (Laid N l) n w q t→Laid N l n b s t→Good n lh.key t→(∀ p∈cont n t,kl k p.k=true)→0≤bl→bl+qB1 n t≤1000000→
  Calls prog 210 #[.pointer (some ⟨G,0,none⟩),qC1 lh,.pointer (some ⟨q,0,none⟩)] w fun e w'=>e=.returned (.tuple #[])∧w'.heap[G]?=some (qB3 V (bl+qB1 n t-1) (qE0 k (cont n t)))∧Devl V A N C l writes w'∧Kp [A,G] w w'
theorem kP4(V A N C:Nat)(l)(a8:Int):zD3 V A N C l a8 0:=by
 intro t q G H M k b s w hd z m hL R hk bg bh;obtain⟨vp,c,F⟩:=m;obtain⟨bs,cp,rfl⟩:=qK2 F;obtain⟨ps,f⟩:=eX (prs t);have bi:ps.length<=126:=by rw[f];exact hL.2.2.2.2.2.2
 have aj:Sorted ps:=by rw[f];exact R.sorted
 have af:∀ p∈ps,kl p.k H.key=false:=λp a=>(R.all p (by rw[f] at a;exact a)).2;have ai:∀ p∈ps,kl k p.k=true:=λp a=>hk p (by rw[f] at a;exact a);rw[show M+((qB1 0 t:Nat):Int)-1=M by simp[qB1],show cont 0 t=ps from f.symm];rw[<-f] at F c;have r:=zh (n3 aj af ai);have HD:=zh hd;have ab:=zh F;have HQ:=zh c;have a6:=qA1 c z dC;have be:=ζ z;have bk:=ζ c;have J:=zh z;have I:=ξ c;simp only[χ,zG,zH,zI] at I;clear hd z c F hL R hk f aj af ai;rw[qC1];go_enter func210,ntmps210;go_wp2_with fail;obtain⟨w0,ak,ad,ac,a7⟩:=qD5 w (.cells (ϡ H) 87);rw[<-ak];have Y:=zh ad;have L:=zh ac;have ax:Hid (w.cell? ⟨q,1,none⟩=w.cell? ⟨q,1,none⟩):=rfl;clear ak ad ac I
 go_loopw [15] (λi wr=>∃ (j:Nat),j<=ps.length/\i=.int .i64 j/\w.heap.size<wr.heap.size/\Hid (Ϙ wr G (qB3 V M (qE0 k (ps.take j))))/\Hid (Ϙ wr w.heap.size (.cells (ϡ H) 87))/\Hid (Kp [G] w wr)) (λi _=>ps.length-(intOf i).toNat)
 case atStart=>exact⟨0,zL _,rfl,oM,L.hp J,Y,L.mono sM⟩
 case round=>
  obtain⟨j,hj,rfl,bo,K,aa,n⟩:=hrel;clear Y L a7;by_cases E:j<ps.length
  .obtain⟨gb,an,a9,cur,fr,hv,ay,T,ag⟩:=ab.out.pair oM;obtain⟨c0,c1⟩:=ag j E;simp only[vJ,true_and] at hv;obtain⟨rfl,rfl⟩:=hv;have m:=n.out.heap T (by simp;exact qA1 T J dC);have a0:=ξ m (an+j*2);rw[c0] at a0;have a1:=ξ m (an+j*2+1);rw[c1] at a1;have a2:=ζ m;have a5:(j:Int)<(ps.length:Int):=oM
   have hm:=gM E;have ah:=zM9 (.inl (r.2.2 _ hm)) λq c=>by
    have a:=r.out.1;rw[<-tD j ps,dG E] at a;exact (pA a).2.2 q c _ (List.mem_cons_self ..)
   obtain⟨a3,a4⟩:=qZ7 ah;clear ah;have az:Op.bytesLess ps[j].k.toList H.key.toList=false:=r.out.2.1 _ hm;have ap:Hid (qE0 k (ps.take (j+1))=ps[j].k):=by
    show qE0 k (ps.take (j+1))=ps[j].k;rw[tA E,qV5]
   clear ag ay T;go_wp2_with fail;obtain⟨w1,al,y,B,bn⟩:=qD5 wr (.cells #[.string ps[j].k,.string ps[j].v] 185);rw[<-al];clear al a0 a1 m a2;have g:=B.hp K.out;have D:=B.hp aa.out;have bc:=ζ g;have bf:=ζ D;have ba:=ζ y;have u:=ξ g 0;have v:=ξ g 1;have x:=ξ g 2;simp only[qB3,zG,zH,zI] at u v x;have p0:=ϻ D 0;have z0:=ξ y;have W:=zh g;have Z:=zh D;have U:=zh y;have X:=zh (n.tr B);clear g D y B
   go_quiet (first | (go_at_call 253;exact Calls.quiet_of_same (qL4 _)))
   obtain⟨o,am,h⟩:∃ o,o=w1.drewN nq/\Kp [] w1 o:=⟨_,rfl,kF.drewN _⟩;rw[<-am];clear am u v x p0 z0 a3 a4 az;have d:=h.hp W.out;have ae:=h.hp Z.out;have O:=h.hp U.out;have bd:=ζ d;have bb:=ζ O;have bm:=h.size;have u:=ξ d 0;have v:=ξ d 1;have x:=ξ d 2;simp only[qB3,zG,zH,zI] at u v x;have z0:=ξ O;have f2:=ψ d 2;have aq:=zh d;have aw:=zh ae;have au:=zh (X.tr h);clear d ae O h W Z X U;go_wp2;have Q:Kp [G] o (o.setCell ⟨G,2,none⟩ (.string ps[j].k)):=kF.sc _;refine⟨⟨j+1,oM,by go_num,by have:=Q.size;omega,?_,Q.ho aw,au.tr Q⟩,by simp[intOf];omega⟩;show _=_;rw[ap.out];exact μ aq 2 _
  .have a5:¬(j:Int)<(ps.length:Int):=oM
   have e:ps.take j=ps:=tL oM;have P:=K.out;rw[e] at P;have ar:=Hid.mk' P;have S:=n.out.heap HQ (by simpa using a6);have bj:=ζ S;have I:=ξ S;simp only[χ,zG,zH,zI] at I;have av:Hid (Kp [A,G] w wr):=n.out.mono sM;have ao:=zh (qD0 HD n (OffD.one J dC));clear e P K S ab r ax aa;go_wp2_with fail
   go_loopw [48] (λi w'=>i=.int .i64 0/\w'=wr) (λ_ _=>0)
   case atStart=>exact⟨rfl,rfl⟩
   case round=>
    obtain⟨rfl,rfl⟩:=hrel;go_wp2
    go_end0
    exact⟨rfl,ar,ao,av⟩
theorem zO9{N:Nat}{l}:∀ {n b:Nat} {s:Int} {t},Laid N l n b s t->cnt n t<=126
 | 0,_,_,_,h=>h.2.2.2.2.2.2
 | n+1,_,_,t,h=>by
  obtain⟨_,_,_,d,a,_,_,_,_,c⟩:=h;show (η t).length<=126;rw[<-a.1];exact c
theorem jR4{N:Nat}{l}{n b:Nat}{s:Int}{t}{w}{hs}(m:Laid N l (n+1) b s t)(o:Both (RLof (RN (Laid N l) n w) (Laid N l n)) hs (η t)):
  ∀ j (d:j<hs.length) (a:j<(η t).length),hs[j].key=(η t)[j].key/\hs[j].p=none/\∃ c:Nat,hs[j].b=(c:Int)/\Laid N l n c hs[j].s (η t)[j].sub:=by
 intro j d a;have p:=xG8 n b s t m _ (gM a);have q:=o.2 j d a
 cases hx:(η t)[j].ref with
 | none=>have:=p.some;rw[hx] at this;cases this
 | some x=>
  obtain⟨f,e⟩:=q;rw[hx] at e;obtain⟨g,h,i,k⟩:=e;exact⟨f,i,x.1,g,by rw[h];exact k⟩
theorem jM8{n:Nat}{lo}{t}(d:Good (n+1) lo t)(j:Nat)(f:j<(η t).length):
  (∀ q∈((η t).take j).flatMap (λm=>cont n m.sub),kl q.k (η t)[j].key=true)/\(0<j->((η t).take j).flatMap (λm=>cont n m.sub)≠[])/\(∀ p∈cont n (η t)[j].sub,kl p.k (η t)[j].key=false/\p∈cont (n+1) t):=by
 refine⟨λq c=>?_,λh0 e=>?_,λp b=>⟨?_,?_⟩⟩
 .obtain⟨m,l,c⟩:=mF c;have b:(η t).Pairwise (qR2 n):=d.pair;rw[<-tD j (η t),dG f] at b;exact ((pA b).2.2 m l _ (List.mem_cons_self ..)).2 q c
 .obtain⟨a,r,g⟩:∃ a r,(η t).take j=a::r:=by
   cases hx:(η t).take j with
   | nil=>have h:=congrArg List.length hx;rw[lK,List.length_nil] at h;omega
   | cons a r=>exact⟨a,r,rfl⟩
  have k:=d.all a (mT (i:=j) (by show a∈(η t).take j;rw[g];simp));obtain⟨q,c⟩:=qY6 n a.key a.sub k.1 oM;have:q∈((η t).take j).flatMap (λm=>cont n m.sub):=List.mem_flatMap.2 ⟨a,by rw[g];simp,c⟩;rw[e] at this;cases this
 .exact ((qK5 n _ _ (d.all _ (gM f)).1).2 p b).2
 .exact List.mem_flatMap.2 ⟨_,gM f,b⟩
theorem kP6(V A N C:Nat)(l)(z:Int)(hN:N<=1000)(cs:N*128<=l.length)(cj:C≠A)(ck:V≠A)(n:Nat)(IH:zD3 V A N C l z n):zD3 V A N C l z (n+1):=by
 intro t q G lh B k b s w hd hG F hL b4 v dc ak;obtain⟨vl,H,d,bo,au⟩:=F;obtain⟨bs,cp,rfl⟩:=qK2 bo;have db:=hL.at;have bw:=jR4 hL au;have ch:=zh bw;have X:Hid (d.length=(η t).length/\d.length<=126):=⟨au.1,by rw[au.1];exact zO9 hL⟩;have a8:=zh b4;have cg:=zh v;have HD:=zh hd;have ci:=zh bo;have HQ:=zh H;have bq:Hid (qB1 (n+1) t=1+meas (λm:Lnk (Tn n)=>qB1 n m.sub) (η t)):=rfl;have cb:=qA1 H hG dC;have ca:q≠A:=by obtain⟨c,h⟩:=hd.hA;exact qA1 H h dC
 have c9:G≠A:=by obtain⟨c,h⟩:=hd.hA;exact qA1 hG h dC
 have c7:A<w.heap.size:=by obtain⟨c,h⟩:=hd.hA;exact ζ h
 have da:=ζ hG;have de:=ζ H;have HG:=zh hG;have ce:=zh ak;rw[show B+((qB1 (n+1) t:Nat):Int)-1=B+((meas (λm:Lnk (Tn n)=>qB1 n m.sub) (η t):Nat):Int) by rw[bq.out];omega,show cont (n+1) t=(η t).flatMap λm=>cont n m.sub from rfl];have q1:=ξ H;simp only[χ,zG,zH,zI] at q1;clear hd hG H bo hL b4 v au bw ak;rw[qC1];go_enter func210,ntmps210;go_wp2_with fail;obtain⟨w0,cc,bx,bv,cx⟩:=qD5 w (.cells (ϡ lh) 87);rw[<-cc];have br:=zh bx;have U:=zh bv;clear cc bx bv q1
 go_loopw [15] (λi y=>i=.int .i64 0/\y=w0) (λ_ _=>0)
 case atStart=>exact⟨rfl,rfl⟩
 case round=>
  obtain⟨rfl,cd⟩:=hrel;rw[cd];clear cd;have az:=U.out.hp HQ.out;have cw:=ζ az;have q1:=ξ az 1;have g:=ξ az 2;simp only[χ,zG,zH,zI] at q1 g;clear az;go_wp2_with fail
  go_loopw [48] (λi wr=>∃ (j:Nat),j<=d.length/\i=.int .i64 j/\w.heap.size<wr.heap.size/\Hid (wr.heap[G]?=some (qB3 V (B+meas (λm:Lnk (Tn n)=>qB1 n m.sub) ((η t).take j)) (qE0 k (((η t).take j).flatMap λm=>cont n m.sub))))/\Hid (Devl V A N C l z wr)/\Hid (wr.heap[w.heap.size]?=some (.cells (ϡ lh) 87))/\Hid (Kp [A,G] w wr)) (λi _=>d.length-(intOf i).toNat)
  case atStart=>exact⟨0,zL _,rfl,oM,by show _=_;simpa [qD1,xC2] using U.hp HG,qD0 HD U (by intro k v;cases v),br,U.mono sM⟩
  case round=>
   rename_i wr hrel;obtain⟨j,hj,rfl,df,T,a7,bc,Q⟩:=hrel;clear q1 g br U cx cw;by_cases ay:j<d.length
   .have R:j<(η t).length:=by have:=X.out;omega
    obtain⟨av,cv,b',b0,ax⟩:=ch.out j ay R;obtain⟨be,bu,bf⟩:=jM8 a8 j R;have bj:=a8.out.all (η t)[j] (gM R);have ct:=qL3 (λm:Lnk (Tn n)=>qB1 n m.sub) (η t) j R;have cu:=qN7 (λm:Lnk (Tn n)=>qB1 n m.sub) (η t) (j+1);have ak:=ce.out;rw[bq.out] at ak;have b3:((η t).take (j+1)).flatMap (λm=>cont n m.sub)=((η t).take j).flatMap (λm=>cont n m.sub)++cont n (η t)[j].sub:=by
     rw[tA R,fA];simp
    have ao:Hid (∀ W,Devl V A N C l z W->W.heap[G]?=some (qB3 V (B+meas (λm:Lnk (Tn n)=>qB1 n m.sub) ((η t).take j)) (qE0 k (((η t).take j).flatMap λm=>cont n m.sub)))->W.heap[q]?=some (χ ((n+1:Nat):Int) (.slice none 0 0) (.slice bs d.length cp))->Ω 254 #[ϖ G,ϖ q,.agg #[ϊ d[j].b,.int .u64 d[j].s]] W λe y=>∃ g,e=ϱ (ϖ g)/\RN (Laid N l) n y g (η t)[j].sub/\Devl V A N C l z y/\y.heap[G]?=some (qB3 V (B+meas (λm:Lnk (Tn n)=>qB1 n m.sub) ((η t).take j)+1) (qE0 k (((η t).take j).flatMap λm=>cont n m.sub)))/\Kp [A,G] W y):=λW h1 h2 h3=>by
     rw[b0];exact jB5 V A N C l z hN cs cj ck n b' d[j].s (η t)[j].sub G q _ _ _ _ W h1 ax h2 h3 oM oM bj.2.1 (by have:=zO9 ax;omega)
    have ar:Hid (∀ W g,Devl V A N C l z W->W.heap[G]?=some (qB3 V (B+meas (λm:Lnk (Tn n)=>qB1 n m.sub) ((η t).take j)+1) (qE0 k (((η t).take j).flatMap λm=>cont n m.sub)))->RN (Laid N l) n W g (η t)[j].sub->Ω 210 #[ϖ G,.agg #[.string d[j].key,ϊ d[j].b,.int .u64 d[j].s,.pointer d[j].ptr],ϖ g] W λe y=>e=ϱ (.tuple #[])/\y.heap[G]?=some (qB3 V (B+meas (λm:Lnk (Tn n)=>qB1 n m.sub) ((η t).take (j+1))) (qE0 k (((η t).take (j+1)).flatMap λm=>cont n m.sub)))/\Devl V A N C l z y/\Kp [A,G] W y):=λW g h1 h2 h3=>by
     have h:=IH (η t)[j].sub g G d[j] _ _ b' d[j].s W h1 h2 h3 ax (by rw[av];exact bj.1) (λp hp=>zM9 (.inl (cg p (bf p hp).2)) λq H=>qN3 (be q H) (bf p hp).1) oM oM;rw[xC1,<-b3] at h;refine h.mono ?_;rintro e y ⟨e1,e2,e3⟩;refine⟨e1,?_,e3⟩;rw[e2]
     congr 2
     omega
    have b9:0<j->kl (qE0 k (((η t).take j).flatMap λm=>cont n m.sub)) d[j].key=true:=λh0=>by rw[av];exact zM9 (.inr (bu h0)) be
    have b7:j=0->d[j].key=lh.key:=λh0=>by
     rw[av];refine a8.head _ ?_;show (η t)[j]∈(η t).head?;rw[List.head?_eq_getElem?];subst h0;exact gQ R
    obtain⟨gb,a5,c5,cur,fr,hv,cl,a4,b1⟩:=ci.out.link oM;obtain⟨c0,c1,c2,c3⟩:=b1 j ay;simp only[vJ,true_and] at hv;obtain⟨rfl,rfl⟩:=hv;have F:=Q.out.heap a4 (by simp;exact⟨by obtain⟨c,h⟩:=HD.out.hA;exact qA1 a4 h dC,qA1 a4 HG dC⟩);have Y:=ξ F (a5+j*4);rw[c0] at Y;have Z:=ξ F (a5+j*4+1);rw[c1] at Z;have a2:=ξ F (a5+j*4+2);rw[c2] at a2;have a3:=ξ F (a5+j*4+3);rw[c3] at a3;have b5:=ζ F;have co:(j:Int)<(d.length:Int):=oM
    have ba:=zh b9;have bp:=zh b7;clear c0 c1 c2 c3 F b1 cl a4 b9 b7 b3 ak cu ct bj be bu bf ax b0 cv av;obtain⟨kk,aw⟩:∃ x,x=qE0 k (((η t).take j).flatMap λm=>cont n m.sub):=⟨_,rfl⟩;obtain⟨bm,bi⟩:∃ x:Int,x=B+meas (λm:Lnk (Tn n)=>qB1 n m.sub) ((η t).take j):=⟨_,rfl⟩;obtain⟨k2,bk⟩:∃ x,x=qE0 k (((η t).take (j+1)).flatMap λm=>cont n m.sub):=⟨_,rfl⟩;obtain⟨b2,bh⟩:∃ x:Int,x=B+meas (λm:Lnk (Tn n)=>qB1 n m.sub) ((η t).take (j+1)):=⟨_,rfl⟩;rw[<-aw,<-bi] at ao T;rw[<-aw,<-bi,<-bk,<-bh] at ar;rw[<-aw] at ba;have ap:=zh (n2 bk bh);clear aw bi bk bh;generalize d[j]=hx at ao ar ba bp Y Z a2 a3;have J:=zh ay;clear ay hj;by_cases b8:j=0
    .have bn:=bp.out b8;subst b8;simp only[Nat.zero_mul,Nat.add_zero] at Y Z a2 a3;have bz:=bc.out;have p0:=ξ bz 0;simp only[zG,zH,zI] at p0;rw[<-bn] at p0;clear bz;have c4:=zh bn;clear bn;go_wp2_with fail;obtain⟨I,al,D,o,cy⟩:=qD5 wr (.cells (ϡ hx) 87);rw[<-al];clear al Y Z a2 a3 b5;have aq:=Hid.mk' (o.hp T);have bb:=zh (o.hp bc);have an:=zh D;have a6:=zh (qD0 a7 o (by intro k v;cases v));have bd:=zh (o.heap (Q.heap HQ (by simp[ca,cb])) sM);have a9:=zh (Q.tr o);clear D o;clear p0;refine (qL4 I).mono ?_;rintro e cz ⟨rfl,hw⟩;rw[hw];clear hw cz;go_wp2_with fail;obtain⟨E,am,ah⟩:∃ E,E=I/\Kp [] I E:=⟨_,rfl,kF⟩;rw[<-am];clear am;have r:=ah.drew;have ag:=r.hp aq.out;have f:=r.hp an.out;have ac:=qD0 a6 r (by intro k v;cases v);have ai:=r.hp bd.out;refine wp_region_held_drew (S:=λW=>W.heap[wr.heap.size]?=some (.cells (ϡ hx) 87)) kR f (λ_=>?_);refine zP 0 G 0 f ?_;refine zV 1 (.agg (ϡ hx)) rfl (λW hS=>by have a:=ξ hS;clear hS;go_simp) f ?_;refine zP 2 G 0 f ?_;refine zP 3 q 0 f ?_;refine zP 4 wr.heap.size 1 f ?_;refine zW 5 (.agg #[ϊ hx.b,.int .u64 hx.s]) f id ?_;refine zq 6 λK hK=>?_;go_simp;refine (show Calls _ _ _ _ _ from ao E.drew ac ag ai).mono ?_;rintro e w2 ⟨g,rfl,aj,aa,ae,L⟩;have P:=L.ho f;refine zk hK P ?_
     refine zq 7 λK hK=>?_;go_simp;refine (show Calls _ _ _ _ _ from ar w2 g aa ae aj).mono ?_;rintro e u ⟨rfl,af,ab,O⟩;refine hK.out _ _ (O.ho P) (λ_=>?_);refine zd ?_
     try simp only[zZ]
     have HE:Hid (u.heap[G]?=some (qB3 V b2 k2)/\Devl V A N C l z u/\u.heap[w.heap.size]?=some (.cells (ϡ lh) 87)/\Kp [A,G] w u/\w.heap.size<u.heap.size):=by
      have M:Kp [A,G] I u:=((r.mono sM).tr L).tr O;exact⟨af,ab,M.ho bb,a9.tr M,by have:=M.size;omega⟩
     clear af ab O P aj aa ae L f ac ai ag r ah;go_wp2
     try rw[bt.out]
     obtain⟨f1,f2,f3,f4,f5⟩:=HE.out;rw[ap.out.1,ap.out.2] at f1;have cr:=X.out.2;have cq:=J.out;exact⟨⟨0+1,by have:=J.out;omega,by go_num,f5,f1,f2,f3,f4⟩,by have:=J.out;simp[intOf];omega⟩
    .have dd:¬(j:Int)=0:=oM
     have b6:=ba.out oM;obtain⟨cm,cn⟩:=qZ7 b6;clear b6;go_wp2_with fail;obtain⟨I,al,D,o,cy⟩:=qD5 wr (.cells (ϡ hx) 87);rw[<-al];clear al Y Z a2 a3 b5;have aq:=Hid.mk' (o.hp T);have bb:=zh (o.hp bc);have an:=zh D;have a6:=zh (qD0 a7 o (by intro k v;cases v));have bd:=zh (o.heap (Q.heap HQ (by simp[ca,cb])) sM);have a9:=zh (Q.tr o);clear D o;have ad:=aq.out;have D:=an.out;have c8:=ζ ad;have c6:=ζ D;have g0:=ξ ad 0;have g1:=ξ ad 1;have g2:=ξ ad 2;simp only[qB3,zG,zH,zI] at g0 g1 g2;have z0:=ξ D;clear ad D
     go_quiet (first | (go_at_call 253;exact Calls.quiet_of_same (qL4 _)))
     clear cm cn g0 g1 g2 z0;go_wp2_with fail;have bt:Hid (wrap64 ((j:Int)+1)=(j:Int)+1):=by show wrap64 ((j:Int)+1)=(j:Int)+1;have:=J.out;have:=X.out.2;simp only[wrap64];omega
     obtain⟨E,am,ah⟩:∃ E,E=I.drewN nq/\Kp [] I E:=⟨_,rfl,(kF.drewN _)⟩;rw[<-am];clear am;have r:=ah.drew;have ag:=r.hp aq.out;have f:=r.hp an.out;have ac:=qD0 a6 r (by intro k v;cases v);have ai:=r.hp bd.out;refine wp_region_held_drew (S:=λW=>W.heap[wr.heap.size]?=some (.cells (ϡ hx) 87)) kR f (λ_=>?_);refine zP 0 G 0 f ?_;refine zV 1 (.agg (ϡ hx)) rfl (λW hS=>by have a:=ξ hS;clear hS;go_simp) f ?_;refine zP 2 G 0 f ?_;refine zP 3 q 0 f ?_;refine zP 4 wr.heap.size 1 f ?_;refine zW 5 (.agg #[ϊ hx.b,.int .u64 hx.s]) f id ?_;refine zq 6 λK hK=>?_;go_simp;refine (show Calls _ _ _ _ _ from ao E.drew ac ag ai).mono ?_;rintro e w2 ⟨g,rfl,aj,aa,ae,L⟩;have P:=L.ho f;refine zk hK P ?_
     refine zq 7 λK hK=>?_;go_simp;refine (show Calls _ _ _ _ _ from ar w2 g aa ae aj).mono ?_;rintro e u ⟨rfl,af,ab,O⟩;refine hK.out _ _ (O.ho P) (λ_=>?_);refine zd ?_
     try simp only[zZ]
     have HE:Hid (u.heap[G]?=some (qB3 V b2 k2)/\Devl V A N C l z u/\u.heap[w.heap.size]?=some (.cells (ϡ lh) 87)/\Kp [A,G] w u/\w.heap.size<u.heap.size):=by
      have M:Kp [A,G] I u:=((r.mono sM).tr L).tr O;exact⟨af,ab,M.ho bb,a9.tr M,by have:=M.size;omega⟩
     clear af ab O P aj aa ae L f ac ai ag r ah;go_wp2
     try rw[bt.out]
     obtain⟨f1,f2,f3,f4,f5⟩:=HE.out;rw[ap.out.1,ap.out.2] at f1;have cr:=X.out.2;have cq:=J.out;exact⟨⟨j+1,by have:=J.out;omega,by go_num,f5,f1,f2,f3,f4⟩,by have:=J.out;simp[intOf];omega⟩
   .have co:¬(j:Int)<(d.length:Int):=oM
    have e:(η t).take j=η t:=tL (by have:=X.out;omega);have bg:=T.out;rw[e] at bg;have cf:=Hid.mk' bg;clear e bg T;go_wp2
    go_end0
    exact⟨rfl,cf,a7,Q⟩
theorem xT1(V A N C:Nat)(l:List UInt8)(a:Int)(c:N<=1000)(e:N*128<=l.length)(b:C≠A)(d:V≠A):∀ n,zD3 V A N C l a n
 | 0=>kP4 V A N C l a
 | n+1=>kP6 V A N C l a c e b d n (xT1 V A N C l a c e b d n)
theorem xC3(p:Bool)(B tb A n C:Nat)(cache)(o i:Int)(k:KF)(f:TF)(ps)(r:Option Int)(S)(R:World->Prop)(w)(b:LkIn w B tb A n C cache o i k f ps)(J:ProgS w S)(G:A ∉ S)(O:(f.dn=true/\r=some 5)\/(f.dn=false/\r=none/\(p=false\/f.wr=false)))(N:Calls prog (if p then 31 else 36) #[.pointer (some ⟨f.x,0,none⟩)] w λe h=>∃ v,e=.returned v/\ErrV h v r/\R h/\Kp S w h):
  Calls prog 135 #[.pointer (some ⟨B,0,none⟩),.pointer (some ⟨tb,0,none⟩),.bool p] w λe h=>e=.returned (.bool true)/\((f.dn=true/\qV3 R S w h)\/(f.dn=false/\zV6 f tb R S w h)):=by
 have ad:=ζ b.hB;have af:=ζ b.hT;have ab:=ζ b.hA.choose_spec;have a:=hid b;have s:=hid J;have X:=hid G;have H:=b.hB;have L:=b.hT;have Q:=b.kA;have y:=hid N;have Y:=hid O;have c:=ξ H 0;simp only[kob,zG,zH,zI] at c;have U:=ξ L 0;simp only[tob,zG,zH,zI] at U;rw[Q] at c;clear b J H L Q N G O;cases p<;>(
  simp only[Bool.false_eq_true,if_true,if_false] at y;go_enter func135,ntmps135;go_wp2_with fail;refine (qL8 A n C cache o i w a.hA.choose_spec).mono ?_;rintro e W ⟨rfl,rfl⟩;go_wp2_with fail;refine (zE5 A n C cache o i W a.hA.choose_spec).mono ?_;rintro e W ⟨rfl,rfl⟩;go_wp2_with fail;refine (show Calls _ _ _ _ _ from y).mono ?_;rintro e u ⟨v,rfl,T,K,d⟩;have I:=s.out.stay d a.hB dC;have M:=s.out.stay d a.hT dC;have E:=d.heap a.hA.choose_spec X.out;have P:=s.out.g0 d a.g0 oM;have m:=hid (And.intro K d);clear c U K;go_wp2_with fail;refine (qL1 v r u P T).mono ?_;rintro e x ⟨rfl,j⟩;have q:=j.hp I;have g:=j.hp M;have F:=j.hp E;have ae:=ζ g;have ac:=ζ q;have c:=ξ q 0;have D:=ξ q 10;have V:=ξ g 2;have t:=ξ g 3;have f3:=ψ g 3;simp only[kob,tob,zG,zH,zI] at c D V t;rw[a.out.po] at D;rw[a.out.kA] at c;have Z:=hid g;have z:=hid j;clear I M P d j q T E g
  go_wp2_with (go_at_call 127;refine (qK1 _ _).mono ?_;rintro e x ⟨rfl,rfl⟩)
  refine (zE5 A n C cache o i x F).mono ?_;rintro e x ⟨rfl,rfl⟩;clear F;have ag:wrap64 (i-i)=0:=by rw[Int.sub_self];simp only[wrap64];omega
  rcases Y with⟨l,rfl⟩|⟨l,rfl,aa⟩
  .rw[l] at t;go_wp2;go_ret;exact⟨sM,.inl ⟨l,u,m.1,m.2,z⟩⟩
  .rw[l] at t
   try rw[show f.wr=false by simpa using aa] at V
   go_wp2;go_ret;exact⟨sM,.inr ⟨l,u,m.1,m.2,(z.mono sM).sc _,μ Z 3 _⟩⟩)
theorem jG6(B tb A n C:Nat)(cache)(ai p:Int)(k:KF)(f:TF)(tbs)(J:List (TF × Nat))(ps)(S)(R:Option Int->World->Prop)(w)(j:ChIn w B tb A n C cache ai p k f tbs J ps)(hP:ProgS w S)(bc:f.dn=false)(br:f.wr=true)(ct:0<=p)(cu:p<=1000000000)(cp:0<=k.com)(cq:k.com<=1000000)
  (a7:TFs w k tbs J) (hn:tbs.length<=100000) (hl:∀ x∈J,x.2<=100000) (cb) (M cc:Nat) (hc:k.c=.slice cb M cc) (bb:M<=100000) (bg:k.n<=100000)
  (base m y a z:Nat) (pm pw) (bk:k.may=.slice pm m y) (bp:k.were=.slice pw a z) {xm xk:List Value} (hm:RowM w base (.slice pm m y) m xm) (hk:RowM w base (.slice pw a z) a xk) (bi:m<=5000000000) (be:a<=100000)
  (ba:Calls prog 31 #[.pointer (some ⟨f.x,0,none⟩)] w λe l=>∃ v o κ aj G,e=.returned v/\ErrV l v o/\R o l/\Kp S w l/\l.heap[A]?=some (qA6 κ n C cache aj G)/\p<=G/\G-p<=12*f.chg+2/\(o=none\/(o=some 3/\qR8 k M f.most 0 (qG0 k.com J)=false))):
  Calls prog 135 #[.pointer (some ⟨B,0,none⟩),.pointer (some ⟨tb,0,none⟩),.bool true] w λe l=>e=.returned (.bool true)/\∃ o b,R o b/\Kp S w b/\l.heap[tb]?=some (tob { f with dn:=true })/\
   ((o=some 3/\Kp [tb] b l)\/(o=none/\Kp [tb,B] b l/\∃ E F D,l.heap[B]?=some (kob { k with may:=.slice (some ⟨E,0,none⟩) 1 1,emp:=false,were:=.slice (some ⟨F,0,none⟩) (a+1) D,c:=f.v,com:=k.com+1 })/\l.ownsRow b.heap.size 126 1 (.slice (some ⟨E,0,none⟩) 1 1) 1 [f.v]/\RowM l b.heap.size (.slice (some ⟨F,0,none⟩) (a+1) D) (a+1) (xk++[f.v]))):=by
 have ci:=ζ j.hB;have cn:=ζ j.hT;have cd:=ζ j.hA.choose_spec;have g:=hid j;have H:=hid hP;have hB:=j.hB;have hT:=j.hT;have bf:=j.kA;have ap:=hid ba;have L:=hid (show TFs w k tbs J/\tbs.length<=100000/\(∀ x∈J,x.2<=100000)/\k.c=.slice cb M cc/\M<=100000/\k.n<=100000 from⟨a7,hn,hl,hc,bb,bg⟩);have s:=hid (show k.may=.slice pm m y/\k.were=.slice pw a z/\RowM w base (.slice pm m y) m xm/\RowM w base (.slice pw a z) a xk/\m<=5000000000/\a<=100000 from⟨bk,bp,hm,hk,bi,be⟩);obtain⟨W,U,an⟩:=j.sp.form;obtain⟨V,bm⟩:=eX ps.length;rw[<-bm] at an;have HV:=hid an;have Z:=hid (show B≠tb from qA1 hB hT dC);have cr:=j.c0;have cs:=j.c1;have I:=ξ hB 0;simp only[kob,zG,zH,zI] at I;have t0:=ξ hT 0;simp only[tob,zG,zH,zI] at t0;rw[bf] at I;clear j hP hB hT bf ba a7 hn hl hc bb bg hm hk bk bp bi be an bm;go_enter func135,ntmps135;go_wp2_with fail;refine (qL8 A n C cache ai p w g.hA.choose_spec).mono ?_;rintro e w0 ⟨rfl,rfl⟩;go_wp2_with fail;refine (zE5 A n C cache ai p w0 g.hA.choose_spec).mono ?_;rintro e w0 ⟨rfl,rfl⟩;go_wp2_with fail;refine (show Calls _ _ _ _ _ from ap).mono ?_;rintro e b ⟨v,o,cv,aj,G,rfl,hv,hR,ab,az,b7,b9,bh⟩;have a1:=H.out.stay ab g.hB dC;have a5:=H.out.stay ab g.hT dC;have bd:=H.out.g0 ab g.g0 oM;have u:=hid (And.intro hR ab);have bv:=hid bh;clear I t0 hR bh ap;go_wp2_with fail;refine (qL1 v o b bd hv).mono ?_;rintro e w2 ⟨rfl,O⟩;have N:=O.hp a1;have P:=O.hp a5;have a0:=O.hp az;have a8:=(H.tfs u.2 L.1).keep0 O;have cj:=ζ P;have ce:=ζ N;have I:=ξ N 0;have b5:=ξ N 5;have ah:=ξ N 10;simp only[kob,zG,zH,zI] at I b5 ah;have t2:=ξ P 2;have T:=ξ P 3;have t4:=ξ P 4;simp only[tob,zG,zH,zI] at t2 T t4;rw[g.out.po] at ah;rw[g.out.kA] at I;rw[bc] at T;rw[br] at t2;clear bc br;have ax:=hid P;have ao:=hid N;have bu:=hid O;have bz:=hid a8;clear a1 a5 bd ab O N hv az P a8
 go_wp2_with (go_at_call 127;refine (qK1 _ _).mono ?_;rintro e w2 ⟨rfl,rfl⟩)
 refine (zE5 A n C cache aj G w2 a0).mono ?_;rintro e w2 ⟨rfl,rfl⟩;clear a0;have ca:wrap64 (G-p)=G-p:=by simp only[wrap64];omega
 have b4:¬12*f.chg+2<G-p:=oM
 go_wp2_with fail;refine (xK2 B tb k f tbs J 0 w2 ao ax bz L.2.1 L.2.2.1 cb M cc L.2.2.2.1 L.2.2.2.2.1 g.m0 g.m1 oM oM L.2.2.2.2.2).mono ?_;rintro e w3 ⟨rfl,ae⟩;have Q:=ae.hp ax.out;have aa:=ae.hp ao.out;have ck:=ζ Q;have cf:=ζ aa;have a4:=bu.out.tr ae;clear ca b4 b7 b9 I b5 ah t2 T t4;have t1:=ξ Q 1;have T:=ξ Q 3;simp only[tob,zG,zH,zI] at t1 T;have f3:=ψ Q 3;have b8:=ξ aa;simp only[kob,zG,zH,zI] at b8;have b3:=ψ aa;rw[HV.out] at t1;have co:=Z.out;have ay:=hid Q;have bt:=hid aa;have aq:=hid a4;clear Q aa a4 ae;rcases bv with rfl|⟨rfl,b6⟩
 .simp only[Option.getD_none];go_wp2_with fail;obtain⟨d,bn,a6,ak,a3⟩:∃ d,d=((w3.setCell ⟨tb,3,none⟩ (.bool true)).setCell ⟨B,8,none⟩ (.slice W V U)).setCell ⟨B,9,none⟩ (ϊ (k.com+1))/\d.heap[tb]?=some (tob { f with dn:=true })/\d.heap[B]?=some (kob { k with c:=.slice W V U,com:=k.com+1 })/\Kp [tb,B] b d:=
   ⟨_,rfl,(qB2 Z.symm _ _).trans ((qB2 Z.symm _ _).trans (μ ay 3 _)),μ (μ ((qB2 Z _ _).trans bt) 8 _) 9 _,(((aq.mono sM).sc _).sc _).sc _⟩
  rw[<-bn];clear bn t1 T f3 b8 b3;have bx:=hid a6;have af:=hid a3;have bs:=hid (show Apart b [tb,B] 126 from λi hi=>by
   simp only[mC,lN,or_false] at hi;rcases hi with rfl|rfl
   .exact⟨_,_,_,H.stay u.2 g.hT dC,dC⟩
   .exact⟨_,_,_,H.stay u.2 g.hB dC,dC⟩)
  have am:∀ v n xs,RowM w0 base v n xs->RowM d.drew base v n xs:=λv n xs h=>((h.kp u.2 (λq c t fr e hq et=>by have:=(H q hq).2 _ _ _ e;rw[et] at this;revert this;decide)).keep af bs).keep ((Kp.refl [] _).drew) (by intro q hq;cases hq);have au:=hid (show RowM d.drew base (.slice pm m y) m xm/\RowM d.drew base (.slice pw a z) a xk from⟨am _ _ _ s.2.2.1,am _ _ _ s.2.2.2.1⟩);clear a6 a3 am;have Y:=hid ak;have cg:B<d.drew.heap.size:=ζ ak;clear ak;refine shr (α:=Prop) (R:=λX=>X) ?_;apply Exists.intro;apply And.intro
  rotate_left
  .intro HREST;refine wp_region_any kR ?_;change wpAny _ _ _ _ _ _ _ (World.drew _);refine zu 0 (ϖ B) ?_;refine zu 1 (ϖ B) ?_;refine zu 2 (ϖ B) ?_;refine zu 3 (.pointer (some ⟨B,1,none⟩)) ?_;refine zu 5 (ϖ B) ?_;refine zu 6 (ϖ B) ?_;refine zu 7 (.pointer (some ⟨B,8,none⟩)) ?_;refine wpAny_ready (rs:=[4,8]) kR sM ?_;refine AllReady.cons rfl (λK hK=>?_) (AllReady.cons rfl (λK hK=>?_) AllReady.nil)
   .refine qF2 rfl (qO4 (t:=123) rfl kR 6 kR B 1 rfl (show d.drew.heap[B]?=_ from Y) (by simp[kob]) (show _=#[ϊ k.n,.slice pm m y,.bool k.emp,.slice pw a z,.bool k.wild,.bool k.bit] from by simp only[kob];rw[s.out.1,s.out.2.1];rfl)) ?_;refine hK _ _ ?_
    try simp only[zZ]
    refine zQ 8 λK hK=>?_;refine qF2 rfl (qO4 (t:=126) rfl kR 1 kR B 8 rfl (show d.drew.heap[B]?=_ from Y) (by simp[kob]) (show _=#[.slice W V U] from rfl)) ?_;refine hK _ _ ?_
    try simp only[zZ]
    exact HREST
   .refine qF2 rfl (qO4 (t:=126) rfl kR 1 kR B 8 rfl (show d.drew.heap[B]?=_ from Y) (by simp[kob]) (show _=#[.slice W V U] from rfl)) ?_;refine hK _ _ ?_
    try simp only[zZ]
    refine zQ 4 λK hK=>?_;refine qF2 rfl (qO4 (t:=123) rfl kR 6 kR B 1 rfl (show d.drew.heap[B]?=_ from Y) (by simp[kob]) (show _=#[ϊ k.n,.slice pm m y,.bool k.emp,.slice pw a z,.bool k.wild,.bool k.bit] from by simp only[kob];rw[s.out.1,s.out.2.1];rfl)) ?_;refine hK _ _ ?_
    try simp only[zZ]
    exact HREST
  refine zQ 9 λK hK=>?_;go_simp;refine (zR8 base m y a z pm pw k.n k.emp k.wild k.bit W V U d.drew au.1 au.2 s.2.2.2.2.1 s.2.2.2.2.2).mono ?_;rintro e w6 ⟨E,F,D,rfl,bj,bq,al⟩;have ad:=al.heap (k:=B) Y sM;have aw:=hid ad;have ar:=hid al;have av:=hid (And.intro bj bq);have ch:=ζ ad;refine hK _ _ ?_;clear hK K al bj bq
  try simp only[zZ]
  refine zu 10 (ϖ B) ?_;refine zu 11 (.pointer (some ⟨B,1,none⟩)) ?_;have b1:=ξ ad;simp only[kob,zG,zH,zI] at b1;have b2:=ψ ad;clear ad;refine zQ 12 λK hK=>?_;go_simp;refine hK _ _ ?_;refine wpAny_done kR ?_ _;obtain⟨r,bo,a2,ac⟩:∃ r,r=(((((w6.setCell ⟨B,1,none⟩ (ϊ k.n)).setCell ⟨B,2,none⟩ (.slice (some ⟨E,0,none⟩) 1 1)).setCell ⟨B,3,none⟩ (.bool false)).setCell ⟨B,4,none⟩ (.slice (some ⟨F,0,none⟩) (a+1) D)).setCell ⟨B,5,none⟩ (.bool k.wild)).setCell ⟨B,6,none⟩ (.bool k.bit)/\r.heap[B]?=some (kob { k with may:=.slice (some ⟨E,0,none⟩) 1 1,emp:=false,were:=.slice (some ⟨F,0,none⟩) (a+1) D,c:=.slice W V U,com:=k.com+1 })/\Kp [B] w6 r:=
   ⟨_,rfl,μ (μ (μ (μ (μ (μ aw 1 _) 2 _) 3 _) 4 _) 5 _) 6 _,(((((((Kp.refl [B] w6).sc _).sc _).sc _).sc _).sc _).sc _)⟩
  rw[<-bo];have ag:=hid (show r.heap[B]?=some (kob { k with may:=.slice (some ⟨E,0,none⟩) 1 1,emp:=false,were:=.slice (some ⟨F,0,none⟩) (a+1) D,c:=f.v,com:=k.com+1 })/\Kp [tb,B] b r/\r.heap[tb]?=some (tob { f with dn:=true }) from⟨by rw[HV.out];exact a2,((af.drew).tr ar).tr ac,ac.heap (ar.heap (k:=tb) bx sM) (by simpa using Z.symm)⟩);have bw:=hid (show r.ownsRow b.heap.size 126 1 (.slice (some ⟨E,0,none⟩) 1 1) 1 [f.v]/\RowM r b.heap.size (.slice (some ⟨F,0,none⟩) (a+1) D) (a+1) (xk++[f.v]) from by
   have a9:∀ q c t fr,w6.heap[q]?=some (.cells c t fr)->q∈[B]->t≠126:=λq c t fr e hq et=>by
    rw[mS hq,aw.out] at e;cases e
    revert et
    decide
   have bl:b.heap.size<=d.drew.heap.size:=af.out.size;rw[HV.out];exact⟨qG7 (qL0 av.1 bl) ac a9,(av.2.le bl).kp ac a9⟩)
  clear bo a2 ac b1 b2;go_wp2;go_ret;exact⟨rfl,none,b,u.1,u.2,ag.2.2,.inr ⟨rfl,ag.2.1,E,F,D,ag.1,bw⟩⟩
 .rw[b6];simp only[Option.getD_some];go_wp2;go_ret;exact⟨sM,some 3,b,u.1,u.2,μ ay 3 (.bool true),.inl ⟨rfl,(aq.mono sM).sc _⟩⟩
variable {κ:Nat}
def KF.shut(k:KF):KF:={ k with x:=none,ts:=.slice none 0 0,po:=false }
theorem zE3(B:Nat)(k:KF)(w:World)(h:w.heap[B]?=some (kob k)):
  Calls prog 125 #[.pointer (some ⟨B,0,none⟩)] w fun e w'=>e=.returned (.tuple #[])∧w'.heap[B]?=some (kob k.shut)∧Kp [B] w w':=by
 have k7:=ξ h;simp only[kob,zG,zH,zI] at k7;have f7:=ψ h;go_enter func125,ntmps125;go_wp2
 go_end0
 exact⟨rfl,μ (μ (μ h 7 _) 11 _) 10 _,(((Kp.refl _ _).sc _).sc _).sc _⟩
theorem xD3(may were:Value)(n:Nat)(e wl bt:Bool)(w:World):Calls prog 128 #[.agg #[.int .i64 n,may,.bool e,were,.bool wl,.bool bt]] w fun r w'=>r=.returned (.bool (decide (8≤n∧n≤400)))∧Kp [] w w':=by
 by_cases h:8≤n∧n≤400
 ·rw[decide_eq_true h];exact jJ6 may were n e wl bt w h.1 h.2
 ·rw[decide_eq_false h];exact jJ5 may were n e wl bt w (by omega)
def KF.only(k:KF)(gm gw kk cw:Nat):KF:={ k with may:=.slice (some ⟨gm,0,none⟩) 1 1,emp:=false,were:=.slice (some ⟨gw,0,none⟩) (kk+1) cw }
theorem jL2(B A n C:Nat)(cache:Value)(calls writes:Int)(k:KF)(l:List UInt8)(R:Option Int→World→Prop)(w:World)(hB:w.heap[B]?=some (kob k))(hkA:k.A=A)(hkn:k.n=n){p:Option Addr}(hA:w.heap[A]?=some (qJ0 p κ n cache calls writes))(hC:w.heap[C]?=some (.cells (enc l) 115))(hg:w.cell? ⟨0,0,none⟩=some qF5)(h0:0<B∧0<A∧0<C)
  (base m cm kk cw:Nat) (pm pw:Option Addr) (hmy:k.may=.slice pm m cm) (hwe:k.were=.slice pw kk cw) {xm xk:List Value} (hm:RowM w base (.slice pm m cm) m xm) (hk:RowM w base (.slice pw kk cw) kk xk) (hm1:m≤5000000000) (hk1:kk≤100000)
  (hcall:∀ W,Kp [B] w W→Calls prog 42 #[.pointer (some ⟨A,0,none⟩)] W fun e w'=>∃ v ko,e=.returned v∧ErrV w' v ko∧R ko w'∧Kp [A,C] W w'∧((ko=none∧(8≤n∧n≤400))∨(ko=some 10∧¬(8≤n∧n≤400)))):
  Calls prog 80 #[.pointer (some ⟨B,0,none⟩)] w fun e w'=>e=.returned (.bool true)∧∃ ko w1,R ko w1∧Kp [B,A,C] w w1∧
   ((ko=some 10∧Kp [] w1 w'∧w'.heap[B]?=some (kob k.shut))∨(ko=none∧Kp [B] w1 w'∧∃ gm gw cw',w'.heap[B]?=some (kob { k.shut.only gm gw kk cw' with wild:=false,bit:=false })∧w'.ownsRow w1.heap.size 126 1 (.slice (some ⟨gm,0,none⟩) 1 1) 1 [.slice none 0 0]∧RowM w' w1.heap.size (.slice (some ⟨gw,0,none⟩) (kk+1) cw') (kk+1) (xk++[.slice none 0 0]))):=by
 have hBs:=ζ hB;have hAs:=ζ hA;have HCC:=hid hC;have HB:=hid hB;have HCALL:=hid hcall;have HM:=hid (show k.may=.slice pm m cm∧k.were=.slice pw kk cw∧RowM w base (.slice pm m cm) m xm∧RowM w base (.slice pw kk cw) kk xk∧m≤5000000000∧kk≤100000 from⟨hmy,hwe,hm,hk,hm1,hk1⟩);have HBA:=hid (show A≠B from qA1 hA hB (by decide));have HA:=hid hA;have HG:=hid hg;subst hkn hkA;have hz:0<w.heap.size:=by omega
 clear hC hB hcall hm hk hmy hwe hm1 hk1 hA hg;go_enter func80,ntmps80;go_wp2_with fail;refine (zE3 B k w HB.out).mono ?_;rintro e w1 ⟨rfl,hB1,hK1⟩;have hA1:=hK1.heap HA.out (by simpa using HBA.out);have hB1s:=ζ hB1;have b0:=ξ hB1 0;simp only[kob,KF.shut,zG,zH,zI] at b0;have HB1:=hid hB1;have HK1:=hid hK1;clear hB1 hK1;go_wp2_with fail;refine (xS2 k.A w1 hA1).mono ?_;rintro e w1 ⟨rfl,rfl⟩;clear hA1;go_wp2_with fail;refine (show Calls _ _ _ _ _ from HCALL.out w1 HK1.out).mono ?_;rintro e w2 ⟨v,ko,rfl,hv,hR,hK2,hko⟩;have hBn:B ∉ [k.A,C]:=by simp[HBA.out.symm,qA1 HB.out HCC.out (by decide)]
 have hB2:=hK2.heap HB1.out hBn;have hKw2:Kp [B,k.A,C] w w2:=(HK1.out.mono (by simp)).trans hK2 (by simp +contextual);have hg2:w2.cell? ⟨0,0,none⟩=some qF5:=(hKw2.cell (a:=⟨0,0,none⟩) hz (by simp;omega)).trans HG.out;have hap:∀ q c t fr,w.heap[q]?=some (.cells c t fr)→q∈[B,k.A,C]→t≠126:=fun q c t fr e hq=>by
  simp only[List.mem_cons,List.not_mem_nil,or_false] at hq;rcases hq with rfl|rfl|rfl
  ·rw[HB.out] at e;cases e;decide
  ·rw[HA.out] at e;cases e;decide
  ·rw[HCC.out] at e;cases e;decide
 have HR:=hid (And.intro hR hKw2);have HMR:=hid (show RowM w2 base (.slice pm m cm) m xm∧RowM w2 base (.slice pw kk cw) kk xk from⟨HM.out.2.2.1.kp hKw2 hap,HM.out.2.2.2.1.kp hKw2 hap⟩);have HKO:=hid hko;have HB2:=hid hB2;clear hR hko hK2 hKw2 hap hBn b0 hB2 HCALL;go_wp2_with fail;refine (qL1 v ko w2 hg2 hv).mono ?_;rintro e w3 ⟨rfl,hK3⟩;have hB3:=hK3.hp HB2.out;have hB3s:=ζ hB3;have b1:=ξ hB3 1;have b2:=ξ hB3 2;have b3:=ξ hB3 3;have b4:=ξ hB3 4;have b5:=ξ hB3 5;have b6:=ξ hB3 6;simp only[kob,KF.shut,zG,zH,zI] at b1 b2 b3 b4 b5 b6;have HB3:=hid hB3;have HK3:=hid hK3;clear hK3 hg2 hv hB3
 go_wp2_with (go_at_call 127;refine (qK1 _ _).mono ?_;rintro e w3 ⟨rfl,rfl⟩)
 refine (xD3 _ _ k.n _ _ _ w3).mono ?_;rintro e w4 ⟨rfl,hK4⟩;have hB4:=hK4.hp HB3.out;have hB4s:=ζ hB4;have hKw4:Kp [] w2 w4:=HK3.out.tr hK4;clear hK4 b1 b2 b3 b4 b5 b6 hB3s;rcases HKO.out with⟨rfl,hf⟩|⟨rfl,hf⟩
 ·rw[decide_eq_true hf];simp only[Option.getD_none];have b1:=ξ hB4 1;have b2:=ξ hB4 2;have b3:=ξ hB4 3;have b4:=ξ hB4 4;have b5:=ξ hB4 5;have b6:=ξ hB4 6;simp only[kob,KF.shut,zG,zH,zI] at b1 b2 b3 b4 b5 b6;rw[HM.out.1] at b2;rw[HM.out.2.1] at b4;have HB4:=hid hB4;have HK4:=hid hKw4;have HM4:=hid (show RowM w4 base (.slice pm m cm) m xm∧RowM w4 base (.slice pw kk cw) kk xk from⟨HMR.out.1.keep hKw4 (by intro q hq;cases hq),HMR.out.2.keep hKw4 (by intro q hq;cases hq)⟩);clear hf hB4 hKw4;go_wp2_with fail;refine (zR8 base m cm kk cw pm pw k.n k.emp k.wild k.bit none 0 0 w4 HM4.out.1 HM4.out.2 HM.out.2.2.2.2.1 HM.out.2.2.2.2.2).mono ?_;rintro e w5 ⟨gm,gw,cw',rfl,hmay,hwere,hK5⟩;have hB5:=hK5.hp HB4.out;have hB5s:=ζ hB5;clear b1 b2 b3 b4 b5 b6;have b1:=ξ hB5 1;have b2:=ξ hB5 2;have b3:=ξ hB5 3;have b4:=ξ hB5 4;have b5:=ξ hB5 5;have b6:=ξ hB5 6;simp only[kob,KF.shut,zG,zH,zI] at b1 b2 b3 b4 b5 b6;have fb1:=ψ hB5;have HB5:=hid hB5;have HW5:=hid (show w5.ownsRow w4.heap.size 126 1 (.slice (some ⟨gm,0,none⟩) 1 1) 1 [.slice none 0 0]∧RowM w5 w4.heap.size (.slice (some ⟨gw,0,none⟩) (kk+1) cw') (kk+1) (xk++[.slice none 0 0])∧Kp [] w2 w5 from⟨hmay,hwere,HK4.out.tr hK5⟩);have HSZ:=hid (show w2.heap.size≤w4.heap.size from HK4.out.size);clear hB5 hmay hwere hK5;go_wp2;go_ret;obtain⟨w6,hw6,hB6,hK6⟩:∃ w6,w6=((((((((w5.setCell ⟨B,1,none⟩ (.int .i64 k.n)).setCell ⟨B,2,none⟩ (.slice (some ⟨gm,0,none⟩) 1 1)).setCell ⟨B,3,none⟩ (.bool false)).setCell ⟨B,4,none⟩ (.slice (some ⟨gw,0,none⟩) (kk+1) cw')).setCell ⟨B,5,none⟩ (.bool k.wild)).setCell ⟨B,6,none⟩ (.bool k.bit)).setCell ⟨B,5,none⟩ (.bool false)).setCell ⟨B,6,none⟩ (.bool false))∧w6.heap[B]?=some (kob { k.shut.only gm gw kk cw' with wild:=false,bit:=false })∧Kp [B] w5 w6:=
   ⟨_,rfl,μ (μ (μ (μ (μ (μ (μ (μ HB5.out 1 _) 2 _) 3 _) 4 _) 5 _) 6 _) 5 _) 6 _,(((((((((Kp.refl [B] w5).sc _).sc _).sc _).sc _).sc _).sc _).sc _).sc _)⟩
  rw[←hw6];have hap:∀ q c t fr,w5.heap[q]?=some (.cells c t fr)→q∈[B]→t≠126:=fun q c t fr e hq=>by
   rw[List.mem_singleton.1 hq,HB5.out] at e;cases e;decide
  exact⟨rfl,none,w2,HR.out.1,HR.out.2,.inr ⟨rfl,(HW5.out.2.2.mono (by simp)).tr hK6,gm,gw,cw',hB6,qG7 (qL0 HW5.out.1 HSZ.out) hK6 hap,(HW5.out.2.1.le HSZ.out).kp hK6 hap⟩⟩
 ·rw[decide_eq_false hf];simp only[Option.getD_some];have HB4:=hid hB4;have HK4:=hid hKw4;clear hf hB4 hKw4;go_wp2;go_ret;exact⟨rfl,some 10,w2,HR.out.1,HR.out.2,.inl ⟨rfl,HK4.out,HB4.out⟩⟩
end Go.Proofs.YtdohpenfkdckiaaGreatDoor
