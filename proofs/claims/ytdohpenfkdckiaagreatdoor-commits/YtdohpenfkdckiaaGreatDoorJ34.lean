import Derived.Test.YtdohpenfkdckiaaGreatDoorJ27
set_option linter.all false
set_option maxRecDepth 100000
set_option maxHeartbeats 20000000
namespace Go.Proofs.YtdohpenfkdckiaaGreatDoor
open Go.Proofs.Tryz
open Go.RowKit
theorem jH1(St A N C:Nat)(s)(h)(rt nw)(l)(wr:Int)(P:List HL->List Root->Prop)(w)(a2:2<=N)(u:N<=1000)(J:N*128<=l.length)(x:C≠A)(y:s.V≠A)(a8:s.V≠C)
  (ag:w.heap[St]?=some (θ 1 s)) (I:Devl s.V A N C l wr w) (hr:RR (EL s.V A N C l wr u J x y).toEnv w h rt) (cu:∀ n l,rt=.at n l->l.key=⟨#[]⟩) (hg:RGood rt) (c1:rt.cont.length<=1000000) (b2:OkR rt)
  (b1:RR (EL s.V A N C l wr u J x y).toEnv w ⟨⟨#[]⟩,s.rb,s.rs,none⟩ nw) (ct:∀ n l,nw=.at n l->l.key=⟨#[]⟩) (ci:0<=s.N) (c5:s.N<=999999999) (cm:0<=s.rb) (cn:s.rb<=1000) (cy:0<=s.rs)
  (bx:∀ W:World,Sem.run prog (Op.equalIn 10000 89 (τ s.V h) (τ s.V ⟨⟨#[]⟩,s.rb,s.rs,none⟩)) W=.ok false W)
  (b5:∀ W,Kp [] w W->Calls prog 113 #[.pointer (some ⟨St,0,none⟩)] W λe m=>∃ v f rs,e=.returned v/\m.ownsRow W.heap.size 89 5 v f.length (qM9 s.V f)/\P f rs/\Kp [] W m)
  (hP:∀ f rs,P f rs->f.length=rs.length/\f.length<=4/\(∀ i (h1:i<f.length) (h2:i<rs.length),RR (EL s.V A N C l wr u J x y).toEnv w f[i] rs[i]/\(∀ n l,rs[i]=.at n l->l.key=⟨#[]⟩))/\qC9 rt+meas qC9 (rs++[nw])<1000000/\(rt.news<=(qB9 N ((rs++[nw]).foldl qA4 (qA4 [] rt))).length->0<=(qC8 rt (qB9 N ((rs++[nw]).foldl qA4 (qA4 [] rt)))).1.b/\(qC8 rt (qB9 N ((rs++[nw]).foldl qA4 (qA4 [] rt)))).1.b<=1000/\0<=(qC8 rt (qB9 N ((rs++[nw]).foldl qA4 (qA4 [] rt)))).1.s))
  (i j:Nat) (hi:(s.N+1) % 2=i) (hj:(s.N+1+1) % 2=j):
  Calls prog 70 #[.pointer (some ⟨St,0,none⟩),τ s.V h] w λe m=>((e=qB5 none/\∃ f rs p,P f rs/\p=qB9 N ((rs++[nw]).foldl qA4 (qA4 [] rt))/\rt.news<=p.length/\
   m.heap[St]?=some (θ 1 (s.cmt (qC8 rt p).1.b (qC8 rt p).1.s (((qA4 [] rt).length+rt.news:Nat):Int)))/\
   Devl s.V A N C (qD0 (laidAll (qD0 l i (qB8 (s.N+1) s.rb s.rs)) (qC8 rt p).2) j (qB8 (s.N+1+1) (qC8 rt p).1.b (qC8 rt p).1.s)) (nx (nk (nx wr) (qC8 rt p).2.length)) m)\/(e=qB5 (some 3)/\∃ f rs,P f rs/\(qB9 N ((rs++[nw]).foldl qA4 (qA4 [] rt))).length<rt.news/\m.heap[St]?=some (θ 1 s)/\Devl s.V A N C l wr m))/\Kp [St,A,C] w m:=by
 have c8:=ζ ag;have HS:=zh ag;have O:=zh I;have HR:=zh hr;have cc:=zh b1;have bh:=zh b5;have ao:=zh (n2 hi hj);have HP:=zh hP;have ce:Hid (∀ W,Kp [A] w W->W.heap[St]?=some (θ 1 s)):=λW hK=>hK.heap ag (by
  obtain⟨c,h⟩:=I.hA;simpa using zA8 ag h dC)
 clear ag I hr b1 b5 hi hj hP;rw[τ,show τ s.V ⟨⟨#[]⟩,s.rb,s.rs,none⟩=.agg #[ϖ s.V,.string ⟨#[]⟩,ϊ s.rb,.int .u64 s.rs,.pointer none] from rfl] at bx;rw[τ];go_enter func70,ntmps70;go_wp2_with fail;obtain⟨w0,b9,br,au,de⟩:=qF7 w (.cells (ϟ s.V h) 89);rw[<-b9];clear b9;refine (zA6 St 1 s w0 (au.hp HS)).mono ?_;rintro e w1 ⟨rfl,aj⟩;rw[show τ s.V ⟨⟨#[]⟩,s.rb,s.rs,none⟩=.agg #[ϖ s.V,.string ⟨#[]⟩,ϊ s.rb,.int .u64 s.rs,.pointer none] from rfl];have am:=aj.hp br;have cj:=ζ am;have t:=ξ am;go_wp2_with fail;rename_i K0 bk;obtain⟨r,ca,a3,av,b6⟩:=qF7 w1 (.cells #[ϖ s.V,.string ⟨#[]⟩,ϊ s.rb,.int .u64 s.rs,.pointer none] 89);rw[<-ca];clear ca t;have c3:A<w.heap.size:=by obtain⟨c,h⟩:=O.out.hA;exact ζ h
 have c4:=ζ O.hC;have dc:=ζ O.hV;have ak:=((au.tr aj).tr av).drew;have df:=aj.size;obtain⟨D,bm⟩:=eX w1.heap.size;rw[<-bm] at a3 b6 |-;have H:r.drew.heap[w.heap.size]?=some (.cells (ϟ s.V h) 89)/\r.drew.heap[D]?=some (.cells #[ϖ s.V,.string ⟨#[]⟩,ϊ s.rb,.int .u64 s.rs,.pointer none] 89):=⟨av.hp am,a3⟩;have db:w.heap.size<D:=oM
 clear a3 am br au aj av cj bx bm;obtain⟨U,b8⟩:∃ U:Int,U=(((qA4 [] rt).length+rt.news:Nat):Int):=⟨_,rfl⟩;have bi:=zh b8;clear b8;refine zH6 (α:=Value->Nat->Nat->Nat->Nat->Value->Act) (R:=λA0=>∀ v n d g c q f rs W,Hid (P f rs/\Slc W 3 1 q (qB9 N ((rs++[nw]).foldl qA4 (qA4 [] rt))).length (qH5 (qB9 N ((rs++[nw]).foldl qA4 (qA4 [] rt))))/\Devl s.V A N C l wr W/\Kp [A] w W/\W.heap[w.heap.size]?=some (.cells (ϟ s.V h) 89)/\rt.news<=(qB9 N ((rs++[nw]).foldl qA4 (qA4 [] rt))).length)->K0 (A0 v n d g c q) W) ?_;apply Exists.intro;apply And.intro
 rotate_left
 .intro HREST;refine wp_region_held_drew (S:=λW=>W.heap[w.heap.size]?=some (.cells (ϟ s.V h) 89)/\W.heap[D]?=some (.cells #[ϖ s.V,.string ⟨#[]⟩,ϊ s.rb,.int .u64 s.rs,.pointer none] 89)) kR H (λ_=>?_);refine zV 0 (.agg (ϟ s.V h)) rfl (λW hS=>by have a:=ξ hS.1;clear hS;go_simp) H ?_;refine zP 1 St 0 H ?_;refine zV 3 (.agg #[ϖ s.V,.string ⟨#[]⟩,ϊ s.rb,.int .u64 s.rs,.pointer none]) rfl (λW hS=>by have a:=ξ hS.2;clear hS;go_simp) H ?_;refine zr 2 4 (λK hK=>?_) λK hK=>?_
  focus
   go_simp;refine (show Calls _ _ _ _ _ from bh r.drew ak).mono ?_;rintro e B ⟨v,f,rs,rfl,bf,M,L⟩;have Z:=And.intro (L.hp H.1) (L.hp H.2);refine zk hK Z ?_
   have cw:=qK4 bf (show D+1<=r.drew.heap.size by show _<=r.heap.size;omega);have al:=ak.tr L;refine zq 4 λK hK=>?_;go_simp;obtain⟨w4,ai,Q,F,cz⟩:=qF7 B (.cells #[ϖ s.V,.string ⟨#[]⟩,ϊ s.rb,.int .u64 s.rs,.pointer none] 89);rw[<-ai];clear ai;obtain⟨d,I⟩:=eX ((B).heap.size)
   try rw[<-I] at Q |-
   clear I;have G:=And.intro (F.hp Z.1) (F.hp Z.2);refine zk hK G ?_
   have an:=qJ2 cw F (Apt.nil _ _);have a0:=al.tr F
  rotate_left
  focus
   go_simp;obtain⟨B,ai,Q,F,cz⟩:∃ B,B=(r.alloc (.cells #[ϖ s.V,.string ⟨#[]⟩,ϊ s.rb,.int .u64 s.rs,.pointer none] 89)).drew/\B.heap[D+1]?=some (.cells #[ϖ s.V,.string ⟨#[]⟩,ϊ s.rb,.int .u64 s.rs,.pointer none] 89)/\Kp [] r.drew B/\B.heap.size=r.heap.size+1:=⟨_,rfl,by rw[<-b6];exact υ r _,(by exact (Kp.refl [] r.drew).alloc _),sM⟩;rw[<-ai];clear ai;obtain⟨d,I⟩:=eX (D+1);rw[<-I] at Q |-;clear I;have G:=And.intro (F.hp H.1) (F.hp H.2);refine zk hK G ?_
   have al:=ak.tr F;refine zq 2 λK hK=>?_;have bn:=G;have ch:=Q;clear G Q;go_simp;refine (show Calls _ _ _ _ _ from bh B al).mono ?_;rintro e w4 ⟨v,f,rs,rfl,bf,M,L⟩;have Z:=And.intro (L.hp bn.1) (L.hp bn.2);refine zk hK Z ?_
   have G:=Z;have Q:=L.hp ch;have an:=qK4 bf (show D+1<=B.heap.size by have:=F.size;have e:r.drew.heap.size=r.heap.size:=rfl;omega);have a0:=al.tr L
  all_goals
   refine zq 5 λK hK=>?_;obtain⟨bb,cv,bc,bz,_⟩:=HP.out f rs M;obtain⟨n,hn⟩:=eX f.length;rw[<-hn] at an;refine zB3 rfl rfl (.agg #[.pointer none,.string ⟨#[]⟩,ϊ 0,.int .u64 0,.pointer none]) 5 48 underlying175 xD9 rfl dC (D+1) v n _ (by simp[Act.eval]) an d 0 1 1 #[ϖ s.V,.string ⟨#[]⟩,ϊ s.rb,.int .u64 s.rs,.pointer none] 89 (0,0) (by simp[Act.eval]) Q sM (by simp[qA9,Value.oneCell']) oM oM (by have:=a0.size;have:=ζ G.2;omega) ?_;intro v5 w5 b3 cs _;obtain⟨g,c,rfl⟩:=qO0 (n:=n) b3;have ay:Kp v.ownBlock.toList w4 w5:=(Kp.refl _ _).grown cs (λk z=>Or.inl (by simp[z]));have be:∀ k,k<D+1->k ∉ v.ownBlock.toList:=λk z hm=>by
    have h1:=zR4 an k (by simpa using hm);omega
   have a4:=And.intro (ay.heap G.1 (be _ oM)) (ay.heap G.2 (be _ oM));refine zk hK a4 ?_
   have ad:=a0.trans ay (λk z dd=>absurd z (be k oM));have co:Devl s.V A N C l wr w5:=(Env.To.of0 (E:=(EL s.V A N C l wr u J x y).toEnv) O ad).dev;have c0:Slc w5 89 5 (.slice (some ⟨g,0,none⟩) (f++[qW2 s]).length c) (f++[qW2 s]).length (qM9 s.V (f++[qW2 s])):=by
    have h:=qL0 b3;rw[List.length_append,<-hn,xP5];exact h
   refine zq 6 λK hK=>?_;have aq:Hid (Ω 112 #[τ s.V h,.slice (some ⟨g,0,none⟩) (n+1) c] w5 λe m=>((∃ q,e=ϱ (.tuple #[q,ϊ U])/\rt.news<=(qB9 N ((rs++[nw]).foldl qA4 (qA4 [] rt))).length/\Slc m 3 1 q (qB9 N ((rs++[nw]).foldl qA4 (qA4 [] rt))).length (qH5 (qB9 N ((rs++[nw]).foldl qA4 (qA4 [] rt)))))\/(e=qB5 (some 3)/\(qB9 N ((rs++[nw]).foldl qA4 (qA4 [] rt))).length<rt.news))/\Devl s.V A N C l wr m/\Kp [A] w5 m):=by
    have h:=kJ7 (EL s.V A N C l wr u J x y) (λn b s t h=>by have:=Laid.at h;omega) A N h rt (.slice (some ⟨g,0,none⟩) (f++[qW2 s]).length c) (f++[qW2 s]) (rs++[nw]) w5 co c0 (by simp[bb]) (λi h1 h2=>by
     by_cases hi:i<f.length
     .rw[List.getElem_append_left hi,List.getElem_append_left oM];exact⟨RR.kp (bc i hi oM).1 ad (Apt.nil _ _),(bc i hi oM).2⟩
     .have e:i=f.length:=by simp at h1;omega
      subst e;rw[List.getElem_append_right oM,List.getElem_append_right oM];simp only[bb,Nat.sub_self,zF];exact⟨RR.kp (h:=qW2 s) cc ad (Apt.nil _ _),ct⟩) (RR.kp HR ad (Apt.nil _ _)) cu bz sO (λW hW=>hW.hV) a2 u (λW hW hr=>xM7 _ rt h W hr hg c1) (by have:=qW8 hg;omega)
    rw[List.length_append,<-hn,<-bi.out] at h;exact h
   clear hn bb cv bc bz;rw[τ] at aq;go_simp;refine (show Calls _ _ _ _ _ from aq).mono ?_;rintro e w6 ⟨cx,bt,aw⟩;have a1:Kp [A] w w6:=(ad.mono sM).tr aw;rcases cx with⟨q,rfl,cq,ah⟩|⟨rfl,cp⟩
   rotate_left
   .clear hK;unfold qB5;go_wp2;exact⟨rfl,.inr ⟨rfl,f,rs,M,cp,ce _ a1,bt⟩,a1.mono (by simp +contextual)⟩
   have T:=And.intro (aw.ho a4.1) (aw.ho a4.2);refine hK.out _ _ T (λ_=>?_);clear hK K aq
   try simp only[zZ]
   refine zU 7 (.tuple #[q,ϊ U]) T ?_;refine zU 8 q T ?_;refine zU 9 (ϊ U) T ?_;refine zU 10 q T ?_;refine zU 11 (ϊ U) T ?_;refine zd ?_;show K0 _ w6;exact HREST v n d g c q f rs w6 (Hid.mk' ⟨M,ah,bt,a1,T.1,cq⟩)
 rintro v n d g c q f rs W bg;refine bk _ _ ?_;clear bk K0 H ak;obtain⟨M,ah,aa,ac,a7,q1⟩:=bg.out;obtain⟨_,_,_,_,q2⟩:=HP.out f rs M;obtain⟨q2,q3,q4⟩:=q2 q1;obtain⟨p,ba⟩:=eX (qB9 N ((rs++[nw]).foldl qA4 (qA4 [] rt)));have a9:=zE5 (N:=N) (ks:=(rs++[nw]).foldl qA4 (qA4 [] rt));have cr:=xC3 N ((rs++[nw]).foldl qA4 (qA4 [] rt));rw[<-ba] at ah q1 q2 q3 q4 a9 cr;obtain⟨X,V,hX⟩:∃ X V,(X,V)=qC8 rt p:=⟨_,_,rfl⟩;rw[<-hX] at q2 q3 q4;simp only at q2 q3 q4;have bj:∀ k o,w.heap[k]?=some o->(∀ c,o≠qA8 (l.length / 128) N C (.slice none 0 0) c wr)->k≠A:=λk o z ho e=>by
  obtain⟨c,h⟩:=O.out.hA;subst e;rw[h] at z;cases z;exact ho c rfl
 have a5:=bj St _ HS (λc e=>by simp[θ,qA8] at e);have bq:=kD8 HS O.hC;have af:=ac.heap HS (by simpa using a5);have dg:=ac.size;have ck:=a7;have Y:=zh (n3 M ba hX);have cf:=zh ah;have c7:=ζ af;have ar:=zh af;have y4:=ξ af 4;have y5:=ξ af 5;simp only[θ,zG,zH,zI] at y4 y5;have cg:=zh a7;clear M ah a7 ck ba hX af bj bg;go_wp2_with fail;refine (xG8 St A N C s s.rb s.rs l wr W ar aa u a2 J x y a8 ci oM cm cn cy i ao.1).mono ?_;rintro e w7 ⟨rfl,bo,bu,ab⟩;have a6:=ab.ho cg.out;have da:=ζ a6;have t:=ξ a6;have b7:=cf.out.keep ab (λk z c ty p e hm=>by
  rw[List.mem_singleton.1 hm] at e;simp only[List.mem_cons,List.not_mem_nil,or_false] at z;rcases z with rfl|rfl|rfl
  .rw[ar.out] at e;simp[θ] at e
  .obtain⟨c',h'⟩:=aa.hA;rw[h'] at e;simp[qA8] at e
  .rw[aa.hC] at e;simp at e)
 have bs:=(Apt.one ar dC).cons ((by obtain⟨c',h'⟩:=aa.hA;exact Apt.one h' dC:Apt W [A] qF5).cons (Apt.one aa.hC dC));have b4:=RR.kp (RR.kp HR ac ((EL s.V A N C l wr u J x y).apt w O)) ab bs;have cd:=zh bo;have cb:Hid (Kp [St,A,C] w w7):=(ac.mono sM).tr ab;have bd:N*128<=(qD0 l i (qB8 (s.N+1) s.rb s.rs)).length:=qU7 l _ i N (qJ1 _ _ _) J (by have:=ao.out.1;omega);have ap:Hid (Ω 115 #[τ s.V h,q] w7 λe m=>e=ϱ (.agg #[ϊ X.b,.int .u64 X.s])/\Devl s.V A N C (laidAll (qD0 l i (qB8 (s.N+1) s.rb s.rs)) V) (nk (nx wr) V.length) m/\Kp [A,C] w7 m):=by
  have h:=kJ6 s.V A N C (qD0 l i (qB8 (s.N+1) s.rb s.rs)) (nx wr) (EL s.V A N C l wr u J x y).toEnv (λn b s t h=>by have:=Laid.at h;omega) y x a8 u bd rt h p q w7 bu b4 b2 q1 (λb hb=>(a9 b hb).2.1) oM b7;rw[<-Y.out.2.2] at h;exact h
 clear bo bu ab b7 b4 aa ac bs y4 y5;rw[τ] at ap;go_wp2_with fail;refine (show Calls _ _ _ _ _ from ap).mono ?_;rintro e w8 ⟨rfl,bv,ax⟩;have bp:=ax.heap cd (by simp[a5,bq]);have b0:=zN7 N V _ bd (by
  have h:=zO3 (N:=N) b2 q1 (λb hb=>(a9 b hb).2.1);rw[<-Y.out.2.2] at h;exact h)
 clear t a6 ap;go_wp2_with fail;refine (xG8 St A N C (s.led s.rb s.rs) X.b X.s _ _ w8 bp bv u a2 b0 x y a8 (by show 0<=s.N+1;omega) (by show s.N+1<=1000000000;omega) q2 q3 q4 j ao.2).mono ?_;rintro e w9 ⟨rfl,ae,bw,bl⟩;have HE:Hid (w9.heap[St]?=some (θ 1 ((s.led s.rb s.rs).led X.b X.s))/\Devl s.V A N C (qD0 (laidAll (qD0 l i (qB8 (s.N+1) s.rb s.rs)) V) j (qB8 (s.N+1+1) X.b X.s)) (nx (nk (nx wr) V.length)) w9/\Kp [St,A,C] w w9):=⟨ae,bw,(cb.trans ax (by simp +contextual)).tr bl⟩;have c6:=ζ ae;have y6:=ξ ae 6;simp only[θ,Sto.led,zG,zH,zI] at y6;have c2:=φ ae 6;clear ae bw bl bp bv ax bd b0;go_wp2
 go_end0
 obtain⟨e1,e2,e3⟩:=HE.out;refine⟨.inl ⟨rfl,f,rs,p,Y.1,Y.2.1,q1,?_,?_⟩,e3.trans ((Kp.refl [St] w9).sc _) sM⟩
 .rw[<-Y.out.2.2,<-bi.out];exact μ e1 6 _
 .rw[<-Y.out.2.2];have az:Kp [St] w9 (w9.setCell ⟨St,6,none⟩ (ϊ U)):=(Kp.refl _ _).sc _;obtain⟨c9,h9⟩:=e2.hA;have cl:s.V≠St:=λe=>by have h:=e2.hV;rw[e,e1] at h;simp[θ,qE4] at h
  exact⟨az.heap e2.hV (by simpa using cl),⟨_,az.heap h9 (by simpa using a5.symm)⟩,az.heap e2.hC (by simpa using bq.symm)⟩
end Go.Proofs.YtdohpenfkdckiaaGreatDoor
