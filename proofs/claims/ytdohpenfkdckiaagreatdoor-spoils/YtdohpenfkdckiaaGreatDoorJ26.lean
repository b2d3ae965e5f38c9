import Derived.Test.YtdohpenfkdckiaaGreatDoorJ22
import Derived.Test.YtdohpenfkdckiaaGreatDoorJ25
set_option linter.all false
set_option maxRecDepth 100000
set_option maxHeartbeats 20000000
namespace Go.Proofs.YtdohpenfkdckiaaGreatDoor
open Go.Proofs.Tryz
open Go.RowKit
theorem jE1(St A N C:Nat)(s)(h)(rt nw)(l)(wr:Int)(P:List HL->List Root->Prop)(w)(a2:2<=N)(u:N<=1000)(J:N*128<=l.length)(x:C≠A)(y:s.V≠A)(a8:s.V≠C)
  (ag:w.heap[St]?=some (ν 1 s)) (I:Devl s.V A N C l wr w) (hr:RR (EL s.V A N C l wr u J x y).toEnv w h rt) (ct:∀ n l,rt=.at n l->l.key=⟨#[]⟩) (hg:RGood rt) (c0:rt.cont.length<=1000000) (b2:OkR rt)
  (b1:RR (EL s.V A N C l wr u J x y).toEnv w ⟨⟨#[]⟩,s.rb,s.rs,none⟩ nw) (cs:∀ n l,nw=.at n l->l.key=⟨#[]⟩) (cl:0<=s.rb) (cm:s.rb<=1000) (cx:0<=s.rs)
  (bx:∀ W:World,Sem.run prog (Op.equalIn 10000 89 (τ s.V h) (τ s.V ⟨⟨#[]⟩,s.rb,s.rs,none⟩)) W=.ok false W)
  (b5:∀ W,Kp [] w W->Calls prog 113 #[.pointer (some ⟨St,0,none⟩)] W λe m=>∃ v f rs,e=.returned v/\m.ownsRow W.heap.size 89 5 v f.length (qM5 s.V f)/\P f rs/\Kp [] W m)
  (hP:∀ f rs,P f rs->f.length=rs.length/\f.length<=4/\(∀ i (h1:i<f.length) (h2:i<rs.length),RR (EL s.V A N C l wr u J x y).toEnv w f[i] rs[i]/\(∀ n l,rs[i]=.at n l->l.key=⟨#[]⟩))/\qD2 rt+meas qD2 (rs++[nw])<1000000/\(rt.news<=(qC4 N ((rs++[nw]).foldl qA7 (qA7 [] rt))).length->0<=(qC5 rt (qC4 N ((rs++[nw]).foldl qA7 (qA7 [] rt)))).1.b/\(qC5 rt (qC4 N ((rs++[nw]).foldl qA7 (qA7 [] rt)))).1.b<=1000/\0<=(qC5 rt (qC4 N ((rs++[nw]).foldl qA7 (qA7 [] rt)))).1.s))
  (i j:Nat) (hi:upN s.N % 2=i) (hj:upN (upN s.N) % 2=j):
  Calls prog 70 #[.pointer (some ⟨St,0,none⟩),τ s.V h] w λe m=>((e=qB7 none/\∃ f rs p,P f rs/\p=qC4 N ((rs++[nw]).foldl qA7 (qA7 [] rt))/\rt.news<=p.length/\
   m.heap[St]?=some (ν 1 (s.cmt (qC5 rt p).1.b (qC5 rt p).1.s (((qA7 [] rt).length+rt.news:Nat):Int)))/\
   Devl s.V A N C (qC7 (laidAll (qC7 l i (qB6 (upN s.N) s.rb s.rs)) (qC5 rt p).2) j (qB6 (upN (upN s.N)) (qC5 rt p).1.b (qC5 rt p).1.s)) (nx (nk (nx wr) (qC5 rt p).2.length)) m)\/(e=qB7 (some 3)/\∃ f rs,P f rs/\(qC4 N ((rs++[nw]).foldl qA7 (qA7 [] rt))).length<rt.news/\m.heap[St]?=some (ν 1 s)/\Devl s.V A N C l wr m))/\Kp [St,A,C] w m:=by
 have c6:=ζ ag;have HS:=zh ag;have O:=zh I;have HR:=zh hr;have cc:=zh b1;have bh:=zh b5;have ao:=zh (n2 hi hj);have HP:=zh hP;have ce:Hid (∀ W,Kp [A] w W->W.heap[St]?=some (ν 1 s)):=λW hK=>hK.heap ag (by
  obtain⟨c,h⟩:=I.hA;simpa using zB0 ag h dC)
 clear ag I hr b1 b5 hi hj hP;rw[τ,show τ s.V ⟨⟨#[]⟩,s.rb,s.rs,none⟩=.agg #[ϖ s.V,.string ⟨#[]⟩,ϊ s.rb,.int .u64 s.rs,.pointer none] from rfl] at bx;rw[τ];go_enter func70,ntmps70;go_wp2_with fail;obtain⟨w0,b9,br,au,dc⟩:=qD5 w (.cells (ϟ s.V h) 89);rw[<-b9];clear b9;refine (zA8 St 1 s w0 (au.hp HS)).mono ?_;rintro e w1 ⟨rfl,aj⟩;rw[show τ s.V ⟨⟨#[]⟩,s.rb,s.rs,none⟩=.agg #[ϖ s.V,.string ⟨#[]⟩,ϊ s.rb,.int .u64 s.rs,.pointer none] from rfl];have am:=aj.hp br;have ci:=ζ am;have t:=ξ am;go_wp2_with fail;rename_i K0 bk;obtain⟨r,ca,a3,av,b6⟩:=qD5 w1 (.cells #[ϖ s.V,.string ⟨#[]⟩,ϊ s.rb,.int .u64 s.rs,.pointer none] 89);rw[<-ca];clear ca t;have c2:A<w.heap.size:=by obtain⟨c,h⟩:=O.out.hA;exact ζ h
 have c3:=ζ O.hC;have da:=ζ O.hV;have ak:=((au.tr aj).tr av).drew;have dd:=aj.size;obtain⟨D,bm⟩:=eX w1.heap.size;rw[<-bm] at a3 b6 |-;have H:r.drew.heap[w.heap.size]?=some (.cells (ϟ s.V h) 89)/\r.drew.heap[D]?=some (.cells #[ϖ s.V,.string ⟨#[]⟩,ϊ s.rb,.int .u64 s.rs,.pointer none] 89):=⟨av.hp am,a3⟩;have c8:w.heap.size<D:=oM
 clear a3 am br au aj av ci bx bm;obtain⟨U,b8⟩:∃ U:Int,U=(((qA7 [] rt).length+rt.news:Nat):Int):=⟨_,rfl⟩;have bi:=zh b8;clear b8;refine zJ1 (α:=Value->Nat->Nat->Nat->Nat->Value->Act) (R:=λA0=>∀ v n d g c q f rs W,Hid (P f rs/\Slc W 3 1 q (qC4 N ((rs++[nw]).foldl qA7 (qA7 [] rt))).length (qH6 (qC4 N ((rs++[nw]).foldl qA7 (qA7 [] rt))))/\Devl s.V A N C l wr W/\Kp [A] w W/\W.heap[w.heap.size]?=some (.cells (ϟ s.V h) 89)/\rt.news<=(qC4 N ((rs++[nw]).foldl qA7 (qA7 [] rt))).length)->K0 (A0 v n d g c q) W) ?_;apply Exists.intro;apply And.intro
 rotate_left
 .intro HREST;refine wp_region_held_drew (S:=λW=>W.heap[w.heap.size]?=some (.cells (ϟ s.V h) 89)/\W.heap[D]?=some (.cells #[ϖ s.V,.string ⟨#[]⟩,ϊ s.rb,.int .u64 s.rs,.pointer none] 89)) kR H (λ_=>?_);refine zV 0 (.agg (ϟ s.V h)) rfl (λW hS=>by have a:=ξ hS.1;clear hS;go_simp) H ?_;refine zP 1 St 0 H ?_;refine zV 3 (.agg #[ϖ s.V,.string ⟨#[]⟩,ϊ s.rb,.int .u64 s.rs,.pointer none]) rfl (λW hS=>by have a:=ξ hS.2;clear hS;go_simp) H ?_;refine zr 2 4 (λK hK=>?_) λK hK=>?_
  focus
   go_simp;refine (show Calls _ _ _ _ _ from bh r.drew ak).mono ?_;rintro e B ⟨v,f,rs,rfl,bf,M,L⟩;have Z:=And.intro (L.hp H.1) (L.hp H.2);refine zk hK Z ?_
   have cv:=qL0 bf (show D+1<=r.drew.heap.size by show _<=r.heap.size;omega);have al:=ak.tr L;refine zq 4 λK hK=>?_;go_simp;obtain⟨w4,ai,Q,F,cy⟩:=qD5 B (.cells #[ϖ s.V,.string ⟨#[]⟩,ϊ s.rb,.int .u64 s.rs,.pointer none] 89);rw[<-ai];clear ai;obtain⟨d,I⟩:=eX ((B).heap.size)
   try rw[<-I] at Q |-
   clear I;have G:=And.intro (F.hp Z.1) (F.hp Z.2);refine zk hK G ?_
   have an:=qI5 cv F (Apt.nil _ _);have a0:=al.tr F
  rotate_left
  focus
   go_simp;obtain⟨B,ai,Q,F,cy⟩:∃ B,B=(r.alloc (.cells #[ϖ s.V,.string ⟨#[]⟩,ϊ s.rb,.int .u64 s.rs,.pointer none] 89)).drew/\B.heap[D+1]?=some (.cells #[ϖ s.V,.string ⟨#[]⟩,ϊ s.rb,.int .u64 s.rs,.pointer none] 89)/\Kp [] r.drew B/\B.heap.size=r.heap.size+1:=⟨_,rfl,by rw[<-b6];exact υ r _,(by exact (Kp.refl [] r.drew).alloc _),sM⟩;rw[<-ai];clear ai;obtain⟨d,I⟩:=eX (D+1);rw[<-I] at Q |-;clear I;have G:=And.intro (F.hp H.1) (F.hp H.2);refine zk hK G ?_
   have al:=ak.tr F;refine zq 2 λK hK=>?_;have bn:=G;have ch:=Q;clear G Q;go_simp;refine (show Calls _ _ _ _ _ from bh B al).mono ?_;rintro e w4 ⟨v,f,rs,rfl,bf,M,L⟩;have Z:=And.intro (L.hp bn.1) (L.hp bn.2);refine zk hK Z ?_
   have G:=Z;have Q:=L.hp ch;have an:=qL0 bf (show D+1<=B.heap.size by have:=F.size;have e:r.drew.heap.size=r.heap.size:=rfl;omega);have a0:=al.tr L
  all_goals
   refine zq 5 λK hK=>?_;obtain⟨bb,cu,bc,bz,_⟩:=HP.out f rs M;obtain⟨n,hn⟩:=eX f.length;rw[<-hn] at an;refine zB8 rfl rfl (.agg #[.pointer none,.string ⟨#[]⟩,ϊ 0,.int .u64 0,.pointer none]) 5 48 underlying175 xF9 rfl dC (D+1) v n _ (by simp[Act.eval]) an d 0 1 1 #[ϖ s.V,.string ⟨#[]⟩,ϊ s.rb,.int .u64 s.rs,.pointer none] 89 (0,0) (by simp[Act.eval]) Q sM (by simp[qB0,Value.oneCell']) oM oM (by have:=a0.size;have:=ζ G.2;omega) ?_;intro v5 w5 b3 cr _;obtain⟨g,c,rfl⟩:=qL7 (n:=n) b3;have ay:Kp v.ownBlock.toList w4 w5:=(Kp.refl _ _).grown cr (λk z=>Or.inl (by simp[z]));have be:∀ k,k<D+1->k ∉ v.ownBlock.toList:=λk z hm=>by
    have h1:=zS0 an k (by simpa using hm);omega
   have a4:=And.intro (ay.heap G.1 (be _ oM)) (ay.heap G.2 (be _ oM));refine zk hK a4 ?_
   have ad:=a0.trans ay (λk z db=>absurd z (be k oM));have cn:Devl s.V A N C l wr w5:=(Env.To.of0 (E:=(EL s.V A N C l wr u J x y).toEnv) O ad).dev;have cz:Slc w5 89 5 (.slice (some ⟨g,0,none⟩) (f++[qW6 s]).length c) (f++[qW6 s]).length (qM5 s.V (f++[qW6 s])):=by
    have h:=qJ3 b3;rw[List.length_append,<-hn,xR7];exact h
   refine zq 6 λK hK=>?_;have aq:Hid (Ω 112 #[τ s.V h,.slice (some ⟨g,0,none⟩) (n+1) c] w5 λe m=>((∃ q,e=ϱ (.tuple #[q,ϊ U])/\rt.news<=(qC4 N ((rs++[nw]).foldl qA7 (qA7 [] rt))).length/\Slc m 3 1 q (qC4 N ((rs++[nw]).foldl qA7 (qA7 [] rt))).length (qH6 (qC4 N ((rs++[nw]).foldl qA7 (qA7 [] rt)))))\/(e=qB7 (some 3)/\(qC4 N ((rs++[nw]).foldl qA7 (qA7 [] rt))).length<rt.news))/\Devl s.V A N C l wr m/\Kp [A] w5 m):=by
    have h:=kC7 (EL s.V A N C l wr u J x y) (λn b s t h=>by have:=Laid.at h;omega) A N h rt (.slice (some ⟨g,0,none⟩) (f++[qW6 s]).length c) (f++[qW6 s]) (rs++[nw]) w5 cn cz (by simp[bb]) (λi h1 h2=>by
     by_cases hi:i<f.length
     .rw[List.getElem_append_left hi,List.getElem_append_left oM];exact⟨RR.kp (bc i hi oM).1 ad (Apt.nil _ _),(bc i hi oM).2⟩
     .have e:i=f.length:=by simp at h1;omega
      subst e;rw[List.getElem_append_right oM,List.getElem_append_right oM];simp only[bb,Nat.sub_self,zF];exact⟨RR.kp (h:=qW6 s) cc ad (Apt.nil _ _),cs⟩) (RR.kp HR ad (Apt.nil _ _)) ct bz sO (λW hW=>hW.hV) a2 u (λW hW hr=>xO6 _ rt h W hr hg c0) (by have:=qX1 hg;omega)
    rw[List.length_append,<-hn,<-bi.out] at h;exact h
   clear hn bb cu bc bz;rw[τ] at aq;go_simp;refine (show Calls _ _ _ _ _ from aq).mono ?_;rintro e w6 ⟨cw,bt,aw⟩;have a1:Kp [A] w w6:=(ad.mono sM).tr aw;rcases cw with⟨q,rfl,cp,ah⟩|⟨rfl,co⟩
   rotate_left
   .clear hK;unfold qB7;go_wp2;exact⟨rfl,.inr ⟨rfl,f,rs,M,co,ce _ a1,bt⟩,a1.mono (by simp +contextual)⟩
   have T:=And.intro (aw.ho a4.1) (aw.ho a4.2);refine hK.out _ _ T (λ_=>?_);clear hK K aq
   try simp only[zZ]
   refine zU 7 (.tuple #[q,ϊ U]) T ?_;refine zU 8 q T ?_;refine zU 9 (ϊ U) T ?_;refine zU 10 q T ?_;refine zU 11 (ϊ U) T ?_;refine zd ?_;show K0 _ w6;exact HREST v n d g c q f rs w6 (Hid.mk' ⟨M,ah,bt,a1,T.1,cp⟩)
 rintro v n d g c q f rs W bg;refine bk _ _ ?_;clear bk K0 H ak;obtain⟨M,ah,aa,ac,a7,q1⟩:=bg.out;obtain⟨_,_,_,_,q2⟩:=HP.out f rs M;obtain⟨q2,q3,q4⟩:=q2 q1;obtain⟨p,ba⟩:=eX (qC4 N ((rs++[nw]).foldl qA7 (qA7 [] rt)));have a9:=zF5 (N:=N) (ks:=(rs++[nw]).foldl qA7 (qA7 [] rt));have cq:=xE0 N ((rs++[nw]).foldl qA7 (qA7 [] rt));rw[<-ba] at ah q1 q2 q3 q4 a9 cq;obtain⟨X,V,hX⟩:∃ X V,(X,V)=qC5 rt p:=⟨_,_,rfl⟩;rw[<-hX] at q2 q3 q4;simp only at q2 q3 q4;have bj:∀ k o,w.heap[k]?=some o->(∀ c,o≠qA6 (l.length / 128) N C (.slice none 0 0) c wr)->k≠A:=λk o z ho e=>by
  obtain⟨c,h⟩:=O.out.hA;subst e;rw[h] at z;cases z;exact ho c rfl
 have a5:=bj St _ HS (λc e=>by simp[ν,qA6] at e);have bq:=jW5 HS O.hC;have af:=ac.heap HS (by simpa using a5);have de:=ac.size;have cj:=a7;have Y:=zh (n3 M ba hX);have cf:=zh ah;have c5:=ζ af;have ar:=zh af;have y4:=ξ af 4;have y5:=ξ af 5;simp only[ν,zG,zH,zI] at y4 y5;have cg:=zh a7;clear M ah a7 cj ba hX af bj bg;go_wp2_with fail;refine (xI4 St A N C s s.rb s.rs l wr W ar aa u a2 J x y a8 cl cm cx i ao.1).mono ?_;rintro e w7 ⟨rfl,bo,bu,ab⟩;have a6:=ab.ho cg.out;have c7:=ζ a6;have t:=ξ a6;have b7:=cf.out.keep ab (λk z c ty p e hm=>by
  rw[List.mem_singleton.1 hm] at e;simp only[List.mem_cons,List.not_mem_nil,or_false] at z;rcases z with rfl|rfl|rfl
  .rw[ar.out] at e;simp[ν] at e
  .obtain⟨c',h'⟩:=aa.hA;rw[h'] at e;simp[qA6] at e
  .rw[aa.hC] at e;simp at e)
 have bs:=(Apt.one ar dC).cons ((by obtain⟨c',h'⟩:=aa.hA;exact Apt.one h' dC:Apt W [A] qF1).cons (Apt.one aa.hC dC));have b4:=RR.kp (RR.kp HR ac ((EL s.V A N C l wr u J x y).apt w O)) ab bs;have cd:=zh bo;have cb:Hid (Kp [St,A,C] w w7):=(ac.mono sM).tr ab;have bd:N*128<=(qC7 l i (qB6 (upN s.N) s.rb s.rs)).length:=qU9 l _ i N (qI7 _ _ _) J (by have:=ao.out.1;omega);have ap:Hid (Ω 115 #[τ s.V h,q] w7 λe m=>e=ϱ (.agg #[ϊ X.b,.int .u64 X.s])/\Devl s.V A N C (laidAll (qC7 l i (qB6 (upN s.N) s.rb s.rs)) V) (nk (nx wr) V.length) m/\Kp [A,C] w7 m):=by
  have h:=kC6 s.V A N C (qC7 l i (qB6 (upN s.N) s.rb s.rs)) (nx wr) (EL s.V A N C l wr u J x y).toEnv (λn b s t h=>by have:=Laid.at h;omega) y x a8 u bd rt h p q w7 bu b4 b2 q1 (λb hb=>(a9 b hb).2.1) oM b7;rw[<-Y.out.2.2] at h;exact h
 clear bo bu ab b7 b4 aa ac bs y4 y5;rw[τ] at ap;go_wp2_with fail;refine (show Calls _ _ _ _ _ from ap).mono ?_;rintro e w8 ⟨rfl,bv,ax⟩;have bp:=ax.heap cd (by simp[a5,bq]);have b0:=zO7 N V _ bd (by
  have h:=zP2 (N:=N) b2 q1 (λb hb=>(a9 b hb).2.1);rw[<-Y.out.2.2] at h;exact h)
 clear t a6 ap;go_wp2_with fail;refine (xI4 St A N C (s.led s.rb s.rs) X.b X.s _ _ w8 bp bv u a2 b0 x y a8 q2 q3 q4 j ao.2).mono ?_;rintro e w9 ⟨rfl,ae,bw,bl⟩;have HE:Hid (w9.heap[St]?=some (ν 1 ((s.led s.rb s.rs).led X.b X.s))/\Devl s.V A N C (qC7 (laidAll (qC7 l i (qB6 (upN s.N) s.rb s.rs)) V) j (qB6 (upN (upN s.N)) X.b X.s)) (nx (nk (nx wr) V.length)) w9/\Kp [St,A,C] w w9):=⟨ae,bw,(cb.trans ax (by simp +contextual)).tr bl⟩;have c4:=ζ ae;have y6:=ξ ae 6;simp only[ν,Sto.led,zG,zH,zI] at y6;have c1:=ψ ae 6;clear ae bw bl bp bv ax bd b0;go_wp2
 go_end0
 obtain⟨e1,e2,e3⟩:=HE.out;refine⟨.inl ⟨rfl,f,rs,p,Y.1,Y.2.1,q1,?_,?_⟩,e3.trans ((Kp.refl [St] w9).sc _) sM⟩
 .rw[<-Y.out.2.2,<-bi.out];exact μ e1 6 _
 .rw[<-Y.out.2.2];have az:Kp [St] w9 (w9.setCell ⟨St,6,none⟩ (ϊ U)):=(Kp.refl _ _).sc _;obtain⟨c9,h9⟩:=e2.hA;have ck:s.V≠St:=λe=>by have h:=e2.hV;rw[e,e1] at h;simp[ν,qE4] at h
  exact⟨az.heap e2.hV (by simpa using ck),⟨_,az.heap h9 (by simpa using a5.symm)⟩,az.heap e2.hC (by simpa using bq.symm)⟩
open Go.Maps (Keyed)
theorem xA5{α g:Type}{Q:α->g->Prop}:∀ (a:List α),(∀ h∈a,∃ r,Q h r)->∃ rs,Both Q a rs
 | [],_=>⟨[],rfl,λi h=>by simp at h⟩
 | h::a,hq=>by
  obtain⟨r,f⟩:=hq h sM;obtain⟨rs,b,c⟩:=xA5 a λx hx=>hq x (by simp[hx]);refine⟨r::rs,by simp[b],λi d e=>?_⟩
  cases i with
  | zero=>exact f
  | succ i=>exact c i (by simpa using d) (by simpa using e)
theorem zU3{h h'}(e:qG2 h=qG2 h')(a:h.p=none)(b:h'.p=none):h=h':=by
 cases h;cases h';simp[qG2] at e a b;obtain⟨c,d,f⟩:=e;subst a b d f
 congr
 exact ByteArray.ext c
theorem qD3{w}{a b:Nat}{c}{t}{fr}{V n:Nat}{D}(d:w.heap[a]?=some (.cells c t fr))(f:RM w V b n D):a≠b:=λe=>by
 obtain⟨i,g,h,_⟩:=f;rw[e,h] at d;cases d
theorem qD0{V A N C:Nat}{l}{wr:Int}{w w'}{S}(h:Devl V A N C l wr w)(hK:Kp S w w')(b:OffD w S):Devl V A N C l wr w':=by
 obtain⟨c,d⟩:=h.hA;exact⟨hK.heap h.hV (λa=>b _ a _ _ _ h.hV dC),⟨c,hK.heap d (λa=>b _ a _ _ _ d dC)⟩,hK.heap h.hC (λa=>b _ a _ _ _ h.hC dC)⟩
theorem xO8{E}{w}{h}{r}(a:RR E w h r)(b:RGood r):h.key=⟨#[]⟩:=by
 cases r with
 | none=>rw[show h=_ from a]
 | «at» n L=>exact a.1.trans b.1
theorem LiveT.key{E}{w}{x A n:Nat}{t}{s}{r}(a:LiveT E w x A n t s r):t.h.key=⟨#[]⟩:=xO8 a.rr a.good
theorem zL7:∀ (n:Nat) (t:Tn n) (ks:List Nat),∀ k∈ks,k∈qF6 n t ks
 | 0,t,ks,k,hk=>hk
 | n+1,t,ks,k,hk=>by
  have key:∀ (ls:List (Lnk (Tn n))) (ks:List Nat),k∈ks->k∈ls.foldl (qF9 (qF6 n)) ks:=λls=>by
   induction ls with
   | nil=>intro ks h;exact h
   | cons a r ih=>
    intro ks h;refine ih _ ?_;unfold qF9;split
    .exact zL7 n _ _ k h
    .split
     .exact h
     .exact zL7 n _ _ k (mM _ h)
  exact key (η t) ks hk
theorem zF4:∀ (rs:List Root) (ks:List Nat) (U:List (Int × Nat)),(∀ r∈rs,r=.none\/∃ n L b s,r=.at n L/\L.ref=some (b,s)/\(b∈ks\/∃ u∈U,u.1=(b:Int)/\qD2 r<=u.2))->(rs.foldl qA7 ks).length<=ks.length+meas Prod.snd U
 | [],ks,U,_=>Nat.le_add_right _ _
 | r::rs,ks,U,h=>by
  rcases h r sM with rfl|⟨n,L,b,s,rfl,a,t⟩
  .exact zF4 rs ks U λr a=>h r (by simp[a])
  .by_cases c:b∈ks
   .have e:qA7 ks (.at n L)=ks:=by simp[qA7,qF9,a,c]
    rw[List.foldl_cons,e];exact zF4 rs ks U λr a=>h r (by simp[a])
   .obtain⟨u,y,B,M⟩:=t.resolve_left c;have e:qA7 ks (.at n L)=qF6 n L.sub (b::ks):=by simp[qA7,qF9,a,c]
    have I:=zL2 ks (.at n L);have J:=zF4 rs (qA7 ks (.at n L)) (U.erase u) (λF x=>by
     rcases h F (by simp[x]) with rfl|⟨E,m,f,G,rfl,o,d⟩
     .exact .inl rfl
     .refine .inr ⟨E,m,f,G,rfl,o,?_⟩;have j:∀ k,k∈b::ks->k∈qA7 ks (.at n L):=λk c=>by rw[e];exact zL7 n L.sub _ k c
      rcases d with d|⟨H,z,g,q⟩
      .exact .inl (j _ (mM _ d))
      .by_cases i:f=b
       .exact .inl (j _ (by rw[i];simp))
       .exact .inr ⟨H,(List.mem_erase_of_ne (λe=>i (by rw[e,B] at g;omega))).2 z,g,q⟩)
    have K:meas Prod.snd U=u.2+meas Prod.snd (U.erase u):=by
     have v:=List.perm_cons_erase y;have p:meas Prod.snd U=meas Prod.snd (u::U.erase u):=by
      unfold meas;exact (v.map _).sum_nat
     rw[p,qC2]
    rw[List.foldl_cons];omega
def Hd2(N:Nat)(l:List UInt8)(a b:List KV):Prop:=∀ i,i<2→∃ M rb rs r,ω l i=qB6 M rb rs∧HeadOk i M rb rs∧Lie N l rb rs r∧(r.cont=a∨r.cont=b)
structure Sh(w:World)(db St A C N nM:Nat)(s:Sto)(D:DataW Unit)(l:List UInt8)(wr:Int)(nw:Root):Prop where
 hDb:w.heap[db]?=some (.cells #[.pointer (some ⟨St,0,none⟩)] 102)
 hSt:w.heap[St]?=some (ν 0 s)
 po:s.po=false
 hM:RM w s.V s.M nM D
 m4:Maps.size D≤4
 n1:nM≤1000000
 dev:Devl s.V A N C l wr w
 N8:8≤N
 N4:N≤400
 len:N*128≤l.length
 lie:Lie N l s.rb s.rs nw
 good:RGood nw
 bl0:0≤s.bl
 bl1:s.bl≤(nw.cont.length:Int)+1
 bg0:0≤s.bg
 kb:∀ k,Maps.has D k=true→∃ x,k=ι x∧1≤x∧x≤s.bg
 rd:∀ x h,Maps.has D (ι x)=true→(∀ zd,D.atKey (ι x) zd=qG2 h)→h.p=none→h.key=⟨#[]⟩∧∃ r,Lie N l h.b h.s r∧RGood r
 heads:Heads l s.N s.rb s.rs
section
variable {w:World} {db St A C N nM:Nat} {s:Sto} {D:DataW Unit} {l:List UInt8} {wr:Int} {nw:Root}
theorem Sh.hA(h:Sh w db St A C N nM s D l wr nw):∃ c,w.heap[A]?=some (qA6 (l.length / 128) N C (.slice none 0 0) c wr):=h.dev.hA
theorem Sh.AC(h:Sh w db St A C N nM s D l wr nw):C≠A:=by obtain⟨c,a⟩:=h.hA;exact qA1 h.dev.hC a dC
theorem Sh.VA(h:Sh w db St A C N nM s D l wr nw):s.V≠A:=by obtain⟨c,a⟩:=h.hA;exact qA1 h.dev.hV a dC
theorem Sh.VC(h:Sh w db St A C N nM s D l wr nw):s.V≠C:=qA1 h.dev.hV h.dev.hC dC
theorem Sh.N1(h:Sh w db St A C N nM s D l wr nw):N<=1000:=by have:=h.N4;omega
abbrev Sh.E(h:Sh w db St A C N nM s D l wr nw):SEnv:=EL s.V A N C l wr h.N1 h.len h.AC h.VA
end
def zC9(N:Nat)(D:DataW Unit)(l l':List UInt8):Prop:=∀ y rb rs r0,Maps.has D (ι y)=true→(∀ zd,D.atKey (ι y) zd=qG2 ⟨⟨#[]⟩,rb,rs,none⟩)→Lie N l rb rs r0→Lie N l' rb rs r0
def zC7(N:Nat)(D:DataW Unit)(l:List UInt8)(U:List (Int × Nat)):Prop:=∀ y h r0,Maps.has D (ι y)=true→(∀ zd,D.atKey (ι y) zd=qG2 h)→h.p=none→Lie N l h.b h.s r0→RGood r0→∃ u∈U,u.1=h.b∧qD2 r0≤u.2
theorem Lie.covered{N:Nat}{l}{a rs:Int}{r}(h:Lie N l a rs r):r=.none\/∃ n L b s,r=.at n L/\L.ref=some (b,s)/\a=(b:Int):=by
 cases r with
 | none=>exact .inl rfl
 | «at» n L=>obtain⟨b,c,d,_⟩:=h;exact .inr ⟨n,L,b,rs,rfl,d,c⟩
theorem kC4{r}(h:RGood r)(i:r.cont.length<=70000):OkR r:=by
 cases r with
 | none=>trivial
 | «at» n L=>
  refine xF0 n L h.2.1 (by rw[h.1];decide) ?_;have d:=xE9 n _ _ h.2.1;rcases Nat.lt_or_ge n 10 with a|a
  .omega
  .have e:=h.2.2;have b:2<=cnt n L.sub:=oM
   have c:3 ^ 10<=3 ^ n:=Nat.pow_le_pow_right oM a;have f:2*3 ^ n<=cnt n L.sub*3 ^ n:=Nat.mul_le_mul_right _ b;have g:(Root.at n L).cont.length=(cont n L.sub).length:=rfl;simp at c;omega
theorem jS0{N:Nat}{l:List UInt8}(G:N<=400)(y:N*128<=l.length)(rt:Root)(rs:List Root)(i:qL2 N l rt)(d:RGood rt)(E:OkR rt)(o:∀ r∈rs,qL2 N l r)(a:List Nat)(f:a=qC4 N (rs.foldl qA7 (qA7 [] rt)))(v:rt.news<=a.length):
  ∃ j:Root,Lie N (laidAll l (qC5 rt a).2) (qC5 rt a).1.b (qC5 rt a).1.s j/\RGood j/\j.cont=rt.cont/\(qC5 rt a).2.length=rt.news/\(∀ r∈rs,∀ k∈qO0 r,ω (laidAll l (qC5 rt a).2) k=ω l k)/\(∀ k,k<2->ω (laidAll l (qC5 rt a).2) k=ω l k)/\rt.lev<=5:=by
 have g:rt.lev<=5:=by
  obtain⟨F,p,q⟩:=zL3 oM rt [] i (ClA.nil N l);obtain⟨t,_,_⟩:=zL4 oM rs _ o p;have m:=zF5 (N:=N) (ks:=rs.foldl qA7 (qA7 [] rt));have u:=xJ2 i d a (by rw[f];exact xE1 _ _) (λb c=>by rw[f] at c;exact (m b c).2.1) (λb c z=>by rw[f] at c;exact (m b c).2.2 (t b (q b z)));exact jS9 d oM
 cases rt with
 | none=>exact⟨.none,⟨rfl,rfl⟩,trivial,rfl,rfl,λ_ _ _ _=>rfl,λ_ _=>rfl,g⟩
 | «at» n L=>
  subst f;have B:n<6:=by have h:n<=5:=g;omega
  obtain⟨u,⟨x,h2,h3⟩,h4,h5⟩:=jE2 oM y n L rs i E B o v _ rfl;refine⟨.at n (qA0 n L (qC4 N (rs.foldl qA7 (qA7 [] (.at n L))))).1,?_,⟨?_,?_,?_⟩,zP3 _ _ _,qZ9 _ _ _,h4,h5,g⟩
  .refine⟨x.1,?_,?_,?_⟩
   .simp[qC5,lhl,h2]
   .simp[qC5,lhl,h2]
   .have e:(qC5 (.at n L) (qC4 N (rs.foldl qA7 (qA7 [] (.at n L))))).1.s=x.2:=by simp[qC5,lhl,h2]
    rw[e];exact h3
  .rw[zP6];exact d.1
  .rw[zP6];exact xH9 n L _ _ d.2.1
  .rw[xH8];exact d.2.2
theorem kF2{w}{db St A C N nM:Nat}{s}{D}{l}{wr:Int}{nw}(d:Sh w db St A C N nM s D l wr nw)(x:Nat)(t)(r)(o:LiveT d.E w x A N t s r)(bs:t.St=St)(bw:t.wrt=true)(h0:0<=t.nr)(h1:t.nr<=1000000000)(bi:∀ W:World,Sem.run prog (Op.equalIn 10000 89 (τ s.V t.h) (τ s.V ⟨⟨#[]⟩,s.rb,s.rs,none⟩)) W=.ok false W)
  (ab:∀ k,Maps.has (D.del (ι t.nr)) k=true->Maps.has D k=true/\∀ zd,(D.del (ι t.nr)).atKey k zd=D.atKey k zd) (am:Maps.size (D.del (ι t.nr))<=4):
  Calls prog 31 #[.pointer (some ⟨x,0,none⟩)] w λe Y=>∃ v k,e=.returned v/\ErrV Y v k/\Y.heap[x]?=some (qA5 t.ended)/\Kp [St,x,s.M,A,C] w Y/\
   ((k=none/\∃ H l' K,Sh Y db St A C N nM H (D.del (ι t.nr)) l' (nx (nk (nx wr) r.news)) K/\K.cont=r.cont/\Hd2 N l' nw.cont r.cont/\H.bg=s.bg/\H.wr=(s.left t.nr).wr/\H.V=s.V/\H.M=s.M/\l'.length=l.length/\zC9 N (D.del (ι t.nr)) l l'/\r.lev<=5)\/
    (k=some 3/\Sh Y db St A C N nM (s.left t.nr) (D.del (ι t.nr)) l wr nw/\∀ U,zC7 N (D.del (ι t.nr)) l U->N<2+r.news+qD2 r+qD2 nw+meas Prod.snd U)):=by
 subst bs;obtain⟨cA,hA⟩:=d.hA;have ah:=(qD3 d.hSt d.hM).symm;have an:=o.xS;have b5:=qD3 o.hx d.hM;have bf:=d.hM.lt;have bz:=qA1 o.hx hA dC;have b0:=qA1 o.hx d.dev.hC dC;have bd:=(qD3 hA d.hM).symm;have be:=(qD3 d.dev.hC d.hM).symm;have a0:db ∉ [t.St,x,s.M,A,C]:=by simp[qA1 d.hDb d.hSt dC,qA1 d.hDb hA dC,qA1 d.hDb d.dev.hC dC,qA1 d.hDb o.hx dC,qD3 d.hDb d.hM]
 have bo:=(OffD.one o.hSt dC).cons ((OffD.one o.hx dC).cons (λk p c ty m e=>by rw[mS p] at e;exact absurd rfl (qD3 e d.hM)));have bh:Apt w [t.St,x,s.M] qF1:=(Apt.one o.hSt dC).cons ((Apt.one o.hx dC).cons (λk p c ty m e=>by rw[mS p] at e;exact absurd rfl (qD3 e d.hM)));have b7:=d.N8;have ax:=d.N4;have al:=kC4 o.good o.sz;have br:∀ n l,r=.at n l->l.key=⟨#[]⟩:=λn l e=>by have h:=o.good;rw[e] at h;exact h.1
 have bn:∀ n l,nw=.at n l->l.key=⟨#[]⟩:=λn l e=>by have h:=d.good;rw[e] at h;exact h.1
 have Z:=d.lie.bnd d.N1;obtain⟨i,hi⟩:∃ i:Nat,upN s.N % 2=(i:Int):=⟨(upN s.N % 2).toNat,oM⟩;obtain⟨j,hj⟩:∃ j:Nat,upN (upN s.N) % 2=(j:Int):=⟨(upN (upN s.N) % 2).toNat,oM⟩;have ad:i<2:=oM
 have ae:j<2:=oM
 obtain⟨P,ay⟩:∃ P:List HL->List Root->Prop,P=λf rs=>ReadH (D.del (ι t.nr)) f/\Both (λh r=>h.p=none/\h.key=⟨#[]⟩/\Lie N l h.b h.s r/\RGood r) f rs:=⟨_,rfl⟩;have hP:∀ f rs,P f rs->ReadH (D.del (ι t.nr)) f/\Both (λh r=>h.p=none/\h.key=⟨#[]⟩/\Lie N l h.b h.s r/\RGood r) f rs:=λf rs h=>by rw[ay] at h;exact h
 have ak:N*128<=(qC7 l i (qB6 (upN s.N) s.rb s.rs)).length:=qU9 l _ i N (qI7 _ _ _) d.len oM;have a7:∀ f rs,P f rs->∀ u∈rs++[nw],RGood u/\∃ rb ao,Lie N l rb ao u:=λf rs h u z=>by
  obtain⟨h1,h2,h3⟩:=hP f rs h;rcases mA z with z|z
  .obtain⟨k,p,rfl⟩:=gO z;have h4:=h3 k (by rw[h2];exact p) p;exact⟨h4.2.2.2,_,_,h4.2.2.1⟩
  .rw[mS z];exact⟨d.good,_,_,d.lie⟩
 have bq:∀ f rs,P f rs->meas qD2 (rs++[nw])<=4000:=λf rs h=>by
  obtain⟨h1,h2,_⟩:=hP f rs h;have h5:=qN5 qD2 800 (rs++[nw]) (λu z=>by obtain⟨g,_,_,q⟩:=a7 f rs h u z;exact (qW5 q g ax).1);have h6:=h1.len;rw[lA,<-h2] at h5;simp only[lC,List.length_nil] at h5;omega
 have a5:∀ f rs,P f rs->∀ m,m=qC4 N ((rs++[nw]).foldl qA7 (qA7 [] r))->r.news<=m.length->∃ K:Root,Lie N (laidAll (qC7 l i (qB6 (upN s.N) s.rb s.rs)) (qC5 r m).2) (qC5 r m).1.b (qC5 r m).1.s K/\RGood K/\K.cont=r.cont/\(qC5 r m).2.length=r.news/\(∀ u∈rs++[nw],∀ k∈qO0 u,ω (laidAll (qC7 l i (qB6 (upN s.N) s.rb s.rs)) (qC5 r m).2) k=ω (qC7 l i (qB6 (upN s.N) s.rb s.rs)) k)/\(∀ k,k<2->ω (laidAll (qC7 l i (qB6 (upN s.N) s.rb s.rs)) (qC5 r m).2) k=ω (qC7 l i (qB6 (upN s.N) s.rb s.rs)) k)/\r.lev<=5:=λf rs h m hfr hfit=>
  jS0 ax ak r (rs++[nw]) (jW8 (λk p=>qY1 l _ i k N (qI7 _ _ _) d.len oM oM) (zJ0 o.rr)) o.good al (λu z=>by
   obtain⟨_,_,_,g⟩:=a7 f rs h u z;exact (g.head d.len oM i ad _ _ _).old) m hfr hfit
 refine (xR8 x nM s.V t s D [A,C] (λk H W w1=>(k=none/\∃ f rs m,P f rs/\m=qC4 N ((rs++[nw]).foldl qA7 (qA7 [] r))/\r.news<=m.length/\H=(s.left t.nr).cmt (qC5 r m).1.b (qC5 r m).1.s (((qA7 [] r).length+r.news:Nat):Int)/\
   Devl s.V A N C (qC7 (laidAll (qC7 l i (qB6 (upN s.N) s.rb s.rs)) (qC5 r m).2) j (qB6 (upN (upN s.N)) (qC5 r m).1.b (qC5 r m).1.s)) (nx (nk (nx wr) (qC5 r m).2.length)) w1)\/
   (k=some 3/\H=s.left t.nr/\(∃ f rs,P f rs/\(qC4 N ((rs++[nw]).foldl qA7 (qA7 [] r))).length<r.news)/\Devl s.V A N C l wr w1)) w o.hx o.over d.hSt d.po d.hM h0 h1 ah an b5 bf o.on bw (by simp only[mC,lN,or_false];rintro k (rfl | rfl);exact ζ hA;exact ζ d.dev.hC) ?_).mono ?_
 .intro W hK ba ai ag;refine (jE1 t.St A N C (s.left t.nr) t.h r nw l wr P W oM d.N1 d.len d.AC d.VA d.VC ai (qD0 d.dev hK bo) (o.rr.keepT hK bh) br o.good (by have:=o.sz;omega) al (d.lie.rr d.good W) bn Z.1 Z.2.1 Z.2.2 bi ?_ ?_ i j hi hj).mono ?_
  .intro W' au;refine (kK9 t.St nM 1 (s.left t.nr) (D.del (ι t.nr)) W' (au.hp ai) (ag.kp au sM) am).mono ?_;rintro e Y ⟨v,f,I,M,O,J⟩;obtain⟨rs,hb⟩:=xA5 (Q:=λh r=>h.p=none/\h.key=⟨#[]⟩/\Lie N l h.b h.s r/\RGood r) f λh hm=>by
    obtain⟨E,y,q,F⟩:=O.are h hm;obtain⟨f1,f2⟩:=ab _ q;obtain⟨R,u,d2⟩:=d.rd y h f1 (λzd=>(f2 zd).symm.trans (F zd)) E;exact⟨u,E,R,d2⟩
   exact⟨v,f,rs,I,M,by rw[ay];exact⟨O,hb⟩,J⟩
  .intro f rs h;obtain⟨E,q,F⟩:=hP f rs h;have hm:=bq f rs h;have b8:=E.len;have ca:=qX0 o.good;have cb:=o.sz;refine⟨q,oM,λk k1 k2=>?_,oM,λhf=>?_⟩
   .obtain⟨S,T,c3,c4⟩:=F k k1 k2;refine⟨?_,λn L e=>?_⟩
    .have e:f[k]=⟨⟨#[]⟩,f[k].b,f[k].s,none⟩:=by
      cases hx:f[k];rw[hx] at S T;simp only at S T;rw[S,T]
     rw[e];exact c3.rr c4 W
    .rw[e] at c4;exact c4.1
   .obtain⟨K,R,_⟩:=a5 f rs h _ rfl hf;exact R.bnd d.N1
  .rintro e w1 ⟨⟨I,f,rs,m,M,O,J,V,e6⟩|⟨I,f,rs,M,O,J,V⟩,p⟩
   .exact⟨none,_,sM,I,.inl ⟨rfl,f,rs,m,M,O,J,rfl,e6⟩,p,V⟩
   .exact⟨some 3,_,dC,I,.inr ⟨rfl,rfl,⟨f,rs,M,O⟩,V⟩,p,J⟩
 .rintro e Y ⟨k,H,v,rfl,hv,a9,af,W,w1,B,hK,ba,ai,ag,hR,av,a8,b6,ap,ac⟩;have b9:=ζ o.hx;have bc:=ag.kp av (by simp[ah,bd,be]);have aw:=bc.kp ac (by simp[ah];omega);have bx:=ac.heap (av.heap ba (by simp[an,bz,b0])) (by simp[an];omega);refine⟨v,k,rfl,hv,bx,af,?_⟩;rcases hR with⟨rfl,f,rs,m,I,M,O,G,J⟩|⟨rfl,G,⟨f,rs,I,M⟩,J⟩
  .obtain⟨K,R,d2,d3,d4,d5,d6,d7⟩:=a5 f rs I m M O;rw[d4] at J;have a6:=zP2 al O (λb hb=>by rw[M] at hb;exact (zF5 b hb).2.1);have X:=zO7 N _ _ ak a6;have az:∀ u,(∀ k∈qO0 u,ω (laidAll (qC7 l i (qB6 (upN s.N) s.rb s.rs)) (qC5 r m).2) k=ω (qC7 l i (qB6 (upN s.N) s.rb s.rs)) k)->∀ a b,Lie N l a b u->Lie N (qC7 (laidAll (qC7 l i (qB6 (upN s.N) s.rb s.rs)) (qC5 r m).2) j (qB6 (upN (upN s.N)) (qC5 r m).1.b (qC5 r m).1.s)) a b u:=λu p a b z=>
    ((z.head d.len oM i ad _ _ _).move p).head X oM j ae _ _ _
   have a4:∀ y h r0,Maps.has (D.del (ι t.nr)) (ι y)=true->(∀ zd,(D.del (ι t.nr)).atKey (ι y) zd=qG2 h)->h.p=none->Lie N l h.b h.s r0->Lie N (qC7 (laidAll (qC7 l i (qB6 (upN s.N) s.rb s.rs)) (qC5 r m).2) j (qB6 (upN (upN s.N)) (qC5 r m).1.b (qC5 r m).1.s)) h.b h.s r0:=λy h r0 E q F g4=>by
    obtain⟨a1,a2,a3⟩:=hP f rs I;obtain⟨h',bm,bp,bg⟩:=a1.all _ E;have bj:=zU3 ((q (.lit (.int .i64 0))).symm.trans (bg (.lit (.int .i64 0)))) F bp;subst bj;obtain⟨k,p,rfl⟩:=gO bm;have aa:k<rs.length:=by rw[<-a2];exact p
    obtain⟨b1,b2,b3,b4⟩:=a3 k p aa;refine az _ (λk' bl=>d5 _ (List.mem_append_left _ (gM aa)) k' ?_) _ _ g4;rw[(Lie.one d.N1 b3 g4).2];exact bl
   have bk:i≠j:=by have h1:=zC1 s.N;have h2:=zC1 (upN s.N);omega
   have aj:=R.bnd d.N1;have ar:=qY2 _ (qB6 (upN (upN s.N)) (qC5 r m).1.b (qC5 r m).1.s) j N (qI7 _ _ _) X oM;have aq:ω (qC7 (laidAll (qC7 l i (qB6 (upN s.N) s.rb s.rs)) (qC5 r m).2) j (qB6 (upN (upN s.N)) (qC5 r m).1.b (qC5 r m).1.s)) i=qB6 (upN s.N) s.rb s.rs:=by rw[qY1 _ _ j i N (qI7 _ _ _) X oM bk,d6 i ad,qY2 l _ i N (qI7 _ _ _) d.len oM]
   have oi:HeadOk i (upN s.N) s.rb s.rs:=⟨hi,(qP4 _).1,(qP4 _).2,Z.1,Z.2.1,Z.2.2,d.lie.sum⟩;have oj:HeadOk j (upN (upN s.N)) (qC5 r m).1.b (qC5 r m).1.s:=⟨hj,(qP4 _).1,(qP4 _).2,aj.1,aj.2.1,aj.2.2,R.sum⟩;have bb:Hd2 N (qC7 (laidAll (qC7 l i (qB6 (upN s.N) s.rb s.rs)) (qC5 r m).2) j (qB6 (upN (upN s.N)) (qC5 r m).1.b (qC5 r m).1.s)) nw.cont r.cont:=λk p=>by
    have e:k=i\/k=j:=oM
    rcases e with rfl|rfl
    .exact⟨_,_,_,nw,aq,oi,az nw (d5 nw sM) _ _ d.lie,.inl rfl⟩
    .exact⟨_,_,_,K,ar,oj,R.head X oM k ae _ _ _,.inr d3⟩
   refine .inl ⟨rfl,H,_,K,?_,d3,bb,by rw[G];rfl,by rw[G];rfl,by rw[G];rfl,by rw[G];rfl,?_,λy rb ao r0 E q F=>a4 y ⟨⟨#[]⟩,rb,ao,none⟩ r0 E q rfl F,d7⟩
   .refine { hDb:=af.heap d.hDb a0,hSt:=a9,po:=by rw[G];exact d.po,hM:=by rw[G];exact aw,m4:=am,n1:=d.n1,dev:=?_,N8:=d.N8,N4:=d.N4,len:=qU9 _ _ j N (qI7 _ _ _) X oM,lie:=?_,good:=d2,heads:=?_,bl0:=?_,bl1:=?_,bg0:=by rw[G];exact d.bg0,kb:=λk p=>by rw[G];exact d.kb k (ab k p).1,rd:=?_ }
    .rw[G];exact qD0 J ac (qR0 a8 ap)
    .rw[G];exact R.head X oM j ae _ _ _
    .rw[G];show (0:Int)<=(((qA7 [] r).length+r.news:Nat):Int);exact Int.natCast_nonneg _
    .rw[G,d3];have E:=zL2 [] r;have q:=qX0 o.good;have F:=qX1 o.good;show ((_:Nat):Int)<=_;simp only[List.length_nil] at E;omega
    .intro y h E q F;obtain⟨f1,f2⟩:=ab _ E;obtain⟨S,u,T,c3⟩:=d.rd y h f1 (λzd=>(f2 zd).symm.trans (q zd)) F;exact⟨S,u,a4 y h u E q F T,c3⟩
    .rw[G];exact Heads.made aq ar ad ae oi oj
   .rw[qX2 _ _ j N (qI7 _ _ _) X oM,xG5 N _ _ ak a6,qX2 _ _ i N (qI7 _ _ _) d.len oM]
  .refine .inr ⟨rfl,?_,λU hU=>?_⟩
   .exact { hDb:=af.heap d.hDb a0,hSt:=by rw[<-G];exact a9,po:=d.po,hM:=aw,m4:=am,n1:=d.n1,dev:=qD0 J ac (qR0 a8 ap),N8:=d.N8,N4:=d.N4,len:=d.len,lie:=d.lie,good:=d.good,heads:=d.heads,bl0:=d.bl0,bl1:=d.bl1,bg0:=d.bg0,kb:=λk p=>d.kb k (ab k p).1,rd:=λy h E q F=>by obtain⟨f1,f2⟩:=ab _ E;exact d.rd y h f1 (λzd=>(f2 zd).symm.trans (q zd)) F }
   .have E:=jL5 N ((rs++[nw]).foldl qA7 (qA7 [] r));have q:=zL2 [] r;have F:=zF4 (rs++[nw]) (qA7 [] r) ((s.rb,qD2 nw)::U) (λu z=>by
     obtain⟨a1,a2,a3⟩:=hP f rs I;rcases mA z with z|z
     .obtain⟨k,p,rfl⟩:=gO z;have aa:k<f.length:=by rw[a2];exact p
      obtain⟨b1,b2,b3,b4⟩:=a3 k aa p;obtain⟨_,y,S,T⟩:=a1.are _ (gM aa);rcases b3.covered with e|⟨n,L,b,H,V,e6,e7⟩
      .exact .inl e
      .obtain⟨u,bt,bu,bv⟩:=hU y _ _ S T b1 b3 b4;exact .inr ⟨n,L,b,H,V,e6,.inr ⟨u,mM _ bt,bu.trans e7,bv⟩⟩
     .rw[mS z];rcases d.lie.covered with e|⟨n,L,b,H,V,e6,e7⟩
      .exact .inl e
      .exact .inr ⟨n,L,b,H,V,e6,.inr ⟨(s.rb,qD2 nw),List.mem_cons.2 (.inl rfl),e7,lR⟩⟩)
    rw[qC2] at F;simp only[List.length_nil] at q;simp only at F;omega
def qB3(V:Nat)(b:Int)(k:ByteArray):Obj:=.cells #[.pointer (some ⟨V,0,none⟩),.int .i64 b,.string k] 293
theorem qL4(w):Calls prog 253 #[.bool true] w λe a=>e=.returned (.tuple #[])/\a=w:=by
 go_enter func253,ntmps253;go_wp2
 go_end0
 exact⟨rfl,rfl⟩
theorem xL1(O:qE8)(n:Nat)(q:Nat)(t)(w)(h:RN O n w q t)(d:cnt n t<=1000000):
  Calls prog 161 #[.pointer (some ⟨q,0,none⟩)] w λe g=>e=.returned (.int .i64 (cnt n t))/\∃ m,g=w.drewN m:=by
 obtain⟨p,s,r,j,o,k,a,b⟩:=h.obj;have c:=zh b;rw[<-b] at d;have i:=ζ a;have f:=ξ a;simp only[χ,zG,zH,zI] at f;clear h a b;go_enter func161,ntmps161;go_wp2_with fail
 go_quiet (fail)
 go_wp2;go_ret;exact⟨qK7 (by rw[<-c.out];omega),_,rfl⟩
theorem jW2(V A N C:Nat)(l)(writes:Int)(hN:N<=1000)(hs:N*128<=l.length)(hAC:C≠A)(hVA:V≠A)(n b:Nat)(s:Int)(t)(w)(a:Devl V A N C l writes w)(z:Laid N l n b s t):
  Calls prog 217 #[.pointer (some ⟨V,0,none⟩),.agg #[.int .i64 b,.int .u64 s]] w λe f=>∃ q,e=.returned (.tuple #[.pointer (some ⟨q,0,none⟩),.bool true])/\RN (Laid N l) n f q t/\Devl V A N C l writes f/\Kp [A] w f:=by
 obtain⟨u,y⟩:=a.hA
 cases n with
 | zero=>
  obtain⟨D,g,x,d,j,k,m⟩:=z;rw[x];refine (zS6 V A N C u writes b l (prs t) w a.hV y g hN a.hC hs hAC hVA d j k m).mono ?_;rintro e f ⟨q,v,rfl,r,_,p,o,c⟩;exact⟨q,rfl,⟨v,r,qJ3 p⟩,⟨c.heap a.hV (by simpa using hVA),⟨_,o⟩,c.heap a.hC (by simpa using hAC)⟩,c⟩
 | succ n=>
  obtain⟨D,g,x,B,d,j,k,m,E,F⟩:=z;rw[j];refine (zS5 V A N C u writes b l B ((n+1:Nat):Int) oM oM w a.hV y g hN a.hC hs hAC hVA k (Laid.links d m hN) E F).mono ?_;rintro e f ⟨q,v,rfl,r,_,p,o,c⟩;exact⟨q,rfl,⟨v,r,B,qJ3 p,⟨d.1,λi G H=>(d.2 i G H).mono (λ_ h=>h.elim) (λ_ _ h=>h)⟩⟩,⟨c.heap a.hV (by simpa using hVA),⟨_,o⟩,c.heap a.hC (by simpa using hAC)⟩,c⟩
theorem RN.lev{O:qE8}{n:Nat}{w}{q:Nat}{t}(h:RN O n w q t):∃ c b,w.heap[q]?=some (χ (n:Int) c b):=by
 cases n with
 | zero=>obtain⟨c,a,_⟩:=h;exact⟨_,_,a⟩
 | succ n=>obtain⟨b,a,_⟩:=h;exact⟨_,_,a⟩
section
variable (V A N C:Nat) (l:List UInt8) (writes:Int) (hN:N≤1000) (hs:N*128≤l.length) (hAC:C≠A) (hVA:V≠A)
include hN hs hAC hVA
theorem xB0(n b:Nat)(s:Int)(t)(G:Nat)(d:Int)(k)(w)(F:Devl V A N C l writes w)(L:Laid N l n b s t)(y:w.heap[G]?=some (qB3 V d k))(am:0<=d)(an:d<=1000000):
  Calls prog 255 #[.pointer (some ⟨G,0,none⟩),.agg #[.int .i64 b,.int .u64 s]] w λe H=>∃ q,e=.returned (.pointer (some ⟨q,0,none⟩))/\RN (Laid N l) n H q t/\Devl V A N C l writes H/\H.heap[G]?=some (qB3 V (d+1) k)/\Kp [A,G] w H:=by
 have al:=L.at;have h2:(2:Int)<=(b:Int):=oM
 have ap:(b:Int)<(N:Int):=oM
 have ad:=zh (λW hW=>jW2 V A N C l writes hN hs hAC hVA n b s t W hW L);have M:=zh F;have af:G≠A:=by obtain⟨c,h⟩:=F.hA;exact qA1 y h dC
 have aj:=ζ y;go_enter func255,ntmps255;go_wp2_with fail;obtain⟨Y,U,E,z,aq⟩:=qD5 w (.cells #[ϊ (b:Int),.int .u64 s] 84);rw[<-U];clear U;have m:=z.hp y;have R:=z.hp F.hV;have ah:=ζ m;have ak:=ζ E;have u:=ξ m 0;have v:=ξ m 1;have x:=ξ m 2;simp only[qB3,zG,zH,zI] at u v x;have p0:=ξ E;have ab:=zh z;have aa:=zh m;have ac:=zh E;have ae:=zh R;clear F L y z m E R
 go_quiet (first | (go_at_call 121;exact Calls.quiet_of_same (zC2 V A N _ ae)) | (go_at_call 253;exact Calls.quiet_of_same (qL4 _)))
 go_wp2_with fail;obtain⟨p,X,D⟩:∃ p,p=Y.drewN nq/\Kp [] Y p:=⟨_,rfl,kF.drewN _⟩;rw[<-X];clear X u v x p0;have J:=(ab.tr D).drew;have P:=qD0 M J (by intro k hk;cases hk);have f:Ϙ p.drew G (qB3 V d k)/\Ϙ p.drew w.heap.size (.cells #[ϊ (b:Int),.int .u64 s] 84):=⟨D.hp aa,D.hp ac⟩;refine wp_region_held_drew (S:=λW=>Ϙ W G (qB3 V d k)/\Ϙ W w.heap.size (.cells #[ϊ (b:Int),.int .u64 s] 84)) kR f (λ_=>?_);refine zP 0 G 0 f ?_;refine zV 1 (ϖ G) rfl (λW g=>by have c:=ζ g.1;clear g;go_simp) f ?_;refine zP 2 G 0 f ?_;refine zV 3 (ϖ V) rfl (λW g=>by have a:=ξ g.1 0;simp only[qB3,zG,zH,zI] at a;clear g;go_simp) f ?_;refine zV 4 (.agg #[ϊ (b:Int),.int .u64 s]) rfl (λW g=>by have a:=ξ g.2;clear g;go_simp) f ?_;refine zq 5 λK hK=>?_;go_simp;refine (ad _ P).mono ?_;rintro e j ⟨q,rfl,Q,O,B⟩;have i:=n2 (B.heap f.1 (by simpa using af)) (B.heap f.2 (by have:=M.out.hA;obtain⟨c,h⟩:=this;have:=ζ h;simp;omega));refine zk hK i ?_
 refine zU 6 (.tuple #[ϖ q,.bool true]) i ?_;refine zP 7 q 0 i ?_;refine zU 8 (.bool true) i ?_;refine zP 9 q 0 i ?_;refine zU 10 (.bool true) i ?_;refine zd ?_
 try simp only[zZ]
 have r:=zh i.1;have Z:Hid (RN (Laid N l) n j q t/\Devl V A N C l writes j/\Kp [A,G] w j):=⟨Q,O,(J.mono sM).tr B⟩;clear Q O B i f D J P;go_wp2_with fail;refine (qL4 j).mono ?_;rintro e w2 ⟨rfl,T⟩;rw[T];clear T w2;have o:=r.out;have ai:=ζ o;have u:=ξ o 0;have v:=ξ o 1;have x:=ξ o 2;simp only[qB3,zG,zH,zI] at u v x;have f1:=ψ o 1;have ao:wrap64 (d+1)=d+1:=by simp only[wrap64];omega
 clear o;go_wp2;go_ret;have ag:Apt j [G] qF1:=Apt.one r dC;have I:Kp [G] j (j.setCell ⟨G,1,none⟩ (ϊ (d+1))):=kF.sc _;obtain⟨e1,e2,e3⟩:=Z.out;exact⟨q,rfl,RN.keep I ag n q t e1,qD0 e2 I (OffD.one r dC),μ r 1 _,e3.tr I⟩
theorem jB5(n b:Nat)(s:Int)(t)(G z:Nat)(vp0 vl0)(d:Int)(k)(w)(u:Devl V A N C l writes w)(p:Laid N l n b s t)(m:w.heap[G]?=some (qB3 V d k))(j:w.heap[z]?=some (χ ((n+1:Nat):Int) vp0 vl0))(P:0<=d)(Q:d<=1000000)(aa:3<=cnt n t)(ab:cnt n t<=1000):
  Calls prog 254 #[.pointer (some ⟨G,0,none⟩),.pointer (some ⟨z,0,none⟩),.agg #[.int .i64 b,.int .u64 s]] w λe a=>∃ q,e=.returned (.pointer (some ⟨q,0,none⟩))/\RN (Laid N l) n a q t/\Devl V A N C l writes a/\a.heap[G]?=some (qB3 V (d+1) k)/\Kp [A,G] w a:=by
 have Z:=p.at;have J:Hid (∀ W,Kp [] w W->Ω 255 #[ϖ G,.agg #[ϊ b,.int .u64 s]] W λe a=>∃ q,e=ϱ (ϖ q)/\RN (Laid N l) n a q t/\Devl V A N C l writes a/\Ϙ a G (qB3 V (d+1) k)/\Kp [A,G] W a):=λW hW=>xB0 V A N C l writes hN hs hAC hVA n b s t G d k W (qD0 u hW (by intro k v;cases v)) p (hW.hp m) P Q;have S:=qA1 j m dC;have R:z≠A:=by obtain⟨c,h⟩:=u.hA;exact qA1 j h dC
 have I:=zh j;clear u p m j;go_enter func254,ntmps254;go_wp2_with fail;obtain⟨T,F,O,g,ae⟩:=qD5 w (.cells #[ϊ (b:Int),.int .u64 s] 84);rw[<-F];clear F;refine (show Calls _ _ _ _ _ from J T g).mono ?_;rintro e f ⟨q,rfl,r,D,E,o⟩;obtain⟨vp,vl,x⟩:=r.lev;have y:=o.heap (g.hp I) (by simp[R,S]);have ad:=ζ x;have ac:=ζ y;have U:=ξ x 0;simp only[χ,zG,zH,zI] at U;have X:=ξ y 0;simp only[χ,zG,zH,zI] at X;have af:wrap64 (((n+1:Nat):Int)-1)=(n:Int):=by simp only[wrap64];omega
 have ag:wrap64 ((n:Int)+1-1)=(n:Int):=by simp only[wrap64];omega
 have B:=zh r;have H:Hid (Devl V A N C l writes f/\Ϙ f G (qB3 V (d+1) k)/\Kp [A,G] w f):=⟨D,E,(g.mono sM).tr o⟩;have Y:(3:Int)<=((cnt n t:Nat):Int):=oM
 clear r D E o g x y O;go_wp2_with fail
 go_quiet (first | (go_at_call 161;exact Calls.quiet_of (xL1 (Laid N l) n q t _ (RN.keep ((Kp.refl [] _).drewN _) (Apt.nil _ _) _ _ _ B) oM)) | (go_at_call 253;exact Calls.quiet_of_same (qL4 _)))
 go_wp2;go_ret;have i:Kp [] f (f.drewN nq):=kF.drewN _;obtain⟨K,L,M⟩:=H.out;exact⟨q,rfl,RN.keep i (Apt.nil _ _) _ _ _ B,qD0 K i (by intro k v;cases v),i.hp L,M.tr i⟩
theorem jE7(n b:Nat)(s:Int)(t)(G:Nat)(h:Int)(k)(w)(H:Devl V A N C l writes w)(u:Laid N l n b s t)(D:w.heap[G]?=some (qB3 V h k))(aa:0<=h)(ab:h<=1000000)(ad:min n 1<cnt n t)(ae:cnt n t<=1000):
  Calls prog 211 #[.pointer (some ⟨G,0,none⟩),.agg #[.int .i64 b,.int .u64 s]] w λe g=>∃ q,e=.returned (.pointer (some ⟨q,0,none⟩))/\RN (Laid N l) n g q t/\Devl V A N C l writes g/\g.heap[G]?=some (qB3 V (h+1) k)/\Kp [A,G] w g:=by
 have ac:=u.at;have T:Hid (∀ W,Kp [] w W->Ω 255 #[ϖ G,.agg #[ϊ b,.int .u64 s]] W λe g=>∃ q,e=ϱ (ϖ q)/\RN (Laid N l) n g q t/\Devl V A N C l writes g/\Ϙ g G (qB3 V (h+1) k)/\Kp [A,G] W g):=λW hW=>xB0 V A N C l writes hN hs hAC hVA n b s t G h k W (qD0 H hW (by intro k x;cases x)) u (hW.hp D) aa ab;clear H u D;go_enter func211,ntmps211;go_wp2_with fail;obtain⟨w0,L,Z,r,ah⟩:=qD5 w (.cells #[ϊ (b:Int),.int .u64 s] 84);rw[<-L];clear L;refine (show Calls _ _ _ _ _ from T w0 r).mono ?_;rintro e j ⟨q,rfl,v,B,E,F⟩;obtain⟨P,O,I⟩:=v.lev;have z:=zh v;have Q:Hid (Devl V A N C l writes j/\Ϙ j G (qB3 V (h+1) k)/\Kp [A,G] w j):=⟨B,E,(r.mono sM).tr F⟩;have h6:(n:Int)<6:=oM
 obtain⟨p,ag,af⟩:∃ p:Int,(if (1:Int)<(n:Int) then 1 else (n:Int))=p/\p<((cnt n t:Nat):Int):=⟨_,rfl,by split<;>omega⟩;have y:=zh I;clear v B E F r Z I;go_wp2_with fail;have d:Ϙ j.drew q (χ (n:Int) P O):=y.out;refine wp_region_held_drew (S:=λW=>Ϙ W q (χ (n:Int) P O)) kR d (λ_=>?_);refine zP 0 q 0 d ?_;refine zV 1 (ϖ q) rfl (λW f=>by have c:=ζ f;clear f;go_simp) d ?_;refine zP 2 q 0 d ?_;refine zV 3 (ϊ (n:Int)) rfl (λW f=>by have a:=ξ f 0;simp only[χ,zG,zH,zI] at a;clear f;go_simp) d ?_;refine zU 4 (.bool true) d ?_;refine zU 5 (.bool true) d ?_;refine zP 6 q 0 d ?_;refine zP 8 q 0 d ?_;refine zV 9 (ϖ q) rfl (λW f=>by have c:=ζ f;clear f;go_simp) d ?_;refine zP 10 q 0 d ?_;refine zV 11 (ϊ (n:Int)) rfl (λW f=>by have a:=ξ f 0;simp only[χ,zG,zH,zI] at a;clear f;go_simp) d ?_;refine zU 12 (ϊ p) d ?_;refine zq 7 λK hK=>?_;go_simp;refine (xL1 (Laid N l) n q t j.drew (RN.keep ((Kp.refl [] _).drew) (Apt.nil _ _) _ _ _ z) oM).mono ?_;rintro e m ⟨rfl,nn,M⟩;have i:Kp [] j m:=by rw[M];exact ((Kp.refl [] _).drew).trans ((Kp.refl [] _).drewN _) sM
 have o:=i.hp y.out;refine hK.out _ _ o (λ_=>?_);clear hK K M
 try simp only[zZ]
 refine zU 13 (.bool true) o ?_;refine zU 14 (.bool true) o ?_;refine zq 15 λK hK=>?_;go_simp;refine (qL4 m).mono ?_;rintro e w3 ⟨rfl,J⟩;rw[J];clear J w3;refine hK.out _ _ o (λ_=>?_);refine zd ?_
 try simp only[zZ]
 have R:Hid (RN (Laid N l) n m q t/\Devl V A N C l writes m/\Ϙ m G (qB3 V (h+1) k)/\Kp [A,G] w m):=by
  obtain⟨U,X,Y⟩:=Q.out;exact⟨RN.keep i (Apt.nil _ _) _ _ _ z,qD0 U i (by intro k x;cases x),i.hp X,Y.tr i⟩
 clear i o d;go_wp2;go_ret;exact⟨q,rfl,R⟩
end
end Go.Proofs.YtdohpenfkdckiaaGreatDoor
