import Derived.Test.YtdohpenfkdckiaaGreatDoorJ33
import Derived.Test.YtdohpenfkdckiaaGreatDoorJ34
set_option linter.all false
set_option maxRecDepth 100000
set_option maxHeartbeats 20000000
namespace Go.Proofs.YtdohpenfkdckiaaGreatDoor
open Go.Proofs.Tryz
open Go.RowKit
open Go.Maps (Keyed)
theorem zZ3{α g:Type}{Q:α->g->Prop}:∀ (a:List α),(∀ h∈a,∃ r,Q h r)->∃ rs,Both Q a rs
 | [],_=>⟨[],rfl,λi h=>by simp at h⟩
 | h::a,hq=>by
  obtain⟨r,f⟩:=hq h sM;obtain⟨rs,b,c⟩:=zZ3 a λx hx=>hq x (by simp[hx]);refine⟨r::rs,by simp[b],λi d e=>?_⟩
  cases i with
  | zero=>exact f
  | succ i=>exact c i (by simpa using d) (by simpa using e)
theorem zT5{h h'}(e:qG8 h=qG8 h')(a:h.p=none)(b:h'.p=none):h=h':=by
 cases h;cases h';simp[qG8] at e a b;obtain⟨c,d,f⟩:=e;subst a b d f
 congr
 exact ByteArray.ext c
theorem qC5{w}{a b:Nat}{c}{t}{fr}{V n:Nat}{D}(d:w.heap[a]?=some (.cells c t fr))(f:RM w V b n D):a≠b:=λe=>by
 obtain⟨i,g,h,_⟩:=f;rw[e,h] at d;cases d
theorem qF8{V A N C:Nat}{l}{wr:Int}{w w'}{S}(h:Devl V A N C l wr w)(hK:Kp S w w')(b:OffD w S):Devl V A N C l wr w':=by
 obtain⟨c,d⟩:=h.hA;exact⟨hK.heap h.hV (λa=>b _ a _ _ _ h.hV dC),⟨c,hK.heap d (λa=>b _ a _ _ _ d dC)⟩,hK.heap h.hC (λa=>b _ a _ _ _ h.hC dC)⟩
theorem xN0{E}{w}{h}{r}(a:RR E w h r)(b:RGood r):h.key=⟨#[]⟩:=by
 cases r with
 | none=>rw[show h=_ from a]
 | «at» n L=>exact a.1.trans b.1
theorem LiveT.key{E}{w}{x A n:Nat}{t}{s}{r}(a:LiveT E w x A n t s r):t.h.key=⟨#[]⟩:=xN0 a.rr a.good
theorem zK2:∀ (n:Nat) (t:Tn n) (ks:List Nat),∀ k∈ks,k∈qG0 n t ks
 | 0,t,ks,k,hk=>hk
 | n+1,t,ks,k,hk=>by
  have key:∀ (ls:List (Lnk (Tn n))) (ks:List Nat),k∈ks->k∈ls.foldl (qG3 (qG0 n)) ks:=λls=>by
   induction ls with
   | nil=>intro ks h;exact h
   | cons a r ih=>
    intro ks h;refine ih _ ?_;unfold qG3;split
    .exact zK2 n _ _ k h
    .split
     .exact h
     .exact zK2 n _ _ k (mM _ h)
  exact key (η t) ks hk
theorem zE4:∀ (rs:List Root) (ks:List Nat) (U:List (Int × Nat)),(∀ r∈rs,r=.none\/∃ n L b s,r=.at n L/\L.ref=some (b,s)/\(b∈ks\/∃ u∈U,u.1=(b:Int)/\qC9 r<=u.2))->(rs.foldl qA4 ks).length<=ks.length+meas Prod.snd U
 | [],ks,U,_=>Nat.le_add_right _ _
 | r::rs,ks,U,h=>by
  rcases h r sM with rfl|⟨n,L,b,s,rfl,a,t⟩
  .exact zE4 rs ks U λr a=>h r (by simp[a])
  .by_cases c:b∈ks
   .have e:qA4 ks (.at n L)=ks:=by simp[qA4,qG3,a,c]
    rw[List.foldl_cons,e];exact zE4 rs ks U λr a=>h r (by simp[a])
   .obtain⟨u,y,B,M⟩:=t.resolve_left c;have e:qA4 ks (.at n L)=qG0 n L.sub (b::ks):=by simp[qA4,qG3,a,c]
    have I:=zJ7 ks (.at n L);have J:=zE4 rs (qA4 ks (.at n L)) (U.erase u) (λF x=>by
     rcases h F (by simp[x]) with rfl|⟨E,m,f,G,rfl,o,d⟩
     .exact .inl rfl
     .refine .inr ⟨E,m,f,G,rfl,o,?_⟩;have j:∀ k,k∈b::ks->k∈qA4 ks (.at n L):=λk c=>by rw[e];exact zK2 n L.sub _ k c
      rcases d with d|⟨H,z,g,q⟩
      .exact .inl (j _ (mM _ d))
      .by_cases i:f=b
       .exact .inl (j _ (by rw[i];simp))
       .exact .inr ⟨H,(List.mem_erase_of_ne (λe=>i (by rw[e,B] at g;omega))).2 z,g,q⟩)
    have K:meas Prod.snd U=u.2+meas Prod.snd (U.erase u):=by
     have v:=List.perm_cons_erase y;have p:meas Prod.snd U=meas Prod.snd (u::U.erase u):=by
      unfold meas;exact (v.map _).sum_nat
     rw[p,qC1]
    rw[List.foldl_cons];omega
structure Sh(w:World)(db St A C N nM:Nat)(s:Sto)(D:DataW Unit)(l:List UInt8)(wr:Int)(nw:Root):Prop where
 hDb:w.heap[db]?=some (.cells #[.pointer (some ⟨St,0,none⟩)] 102)
 hSt:w.heap[St]?=some (θ 0 s)
 po:s.po=false
 hM:RM w s.V s.M nM D
 m4:Maps.size D≤4
 n1:nM≤1000000
 dev:Devl s.V A N C l wr w
 N8:8≤N
 N4:N≤400
 len:N*128≤l.length
 lie:Lie N l s.rb s.rs nw
 good:RGood nw
 bl0:0≤s.bl
 bl1:s.bl≤(nw.cont.length:Int)+1
 sN0:0≤s.N
 bg0:0≤s.bg
 kb:∀ k,Maps.has D k=true→∃ x,k=χ x∧1≤x∧x≤s.bg
 rd:∀ x h,Maps.has D (χ x)=true→(∀ zd,D.atKey (χ x) zd=qG8 h)→h.p=none→h.key=⟨#[]⟩∧∃ r,Lie N l h.b h.s r∧RGood r
 heads:Heads l s.N s.rb s.rs
section
variable {w:World} {db St A C N nM:Nat} {s:Sto} {D:DataW Unit} {l:List UInt8} {wr:Int} {nw:Root}
theorem Sh.hA(h:Sh w db St A C N nM s D l wr nw):∃ c,w.heap[A]?=some (qA8 (l.length / 128) N C (.slice none 0 0) c wr):=h.dev.hA
theorem Sh.AC(h:Sh w db St A C N nM s D l wr nw):C≠A:=by obtain⟨c,a⟩:=h.hA;exact ω h.dev.hC a dC
theorem Sh.VA(h:Sh w db St A C N nM s D l wr nw):s.V≠A:=by obtain⟨c,a⟩:=h.hA;exact ω h.dev.hV a dC
theorem Sh.VC(h:Sh w db St A C N nM s D l wr nw):s.V≠C:=ω h.dev.hV h.dev.hC dC
theorem Sh.N1(h:Sh w db St A C N nM s D l wr nw):N<=1000:=by have:=h.N4;omega
abbrev Sh.E(h:Sh w db St A C N nM s D l wr nw):SEnv:=EL s.V A N C l wr h.N1 h.len h.AC h.VA
end
def zC2(N:Nat)(D:DataW Unit)(l l':List UInt8):Prop:=∀ y rb rs r0,Maps.has D (χ y)=true→(∀ zd,D.atKey (χ y) zd=qG8 ⟨⟨#[]⟩,rb,rs,none⟩)→Lie N l rb rs r0→Lie N l' rb rs r0
def zC0(N:Nat)(D:DataW Unit)(l:List UInt8)(U:List (Int × Nat)):Prop:=∀ y h r0,Maps.has D (χ y)=true→(∀ zd,D.atKey (χ y) zd=qG8 h)→h.p=none→Lie N l h.b h.s r0→RGood r0→∃ u∈U,u.1=h.b∧qC9 r0≤u.2
theorem Lie.covered{N:Nat}{l}{rb rs:Int}{r}(h:Lie N l rb rs r):r=.none\/∃ n L b s,r=.at n L/\L.ref=some (b,s)/\rb=(b:Int):=by
 cases r with
 | none=>exact .inl rfl
 | «at» n L=>obtain⟨b,a,c,_⟩:=h;exact .inr ⟨n,L,b,rs,rfl,c,a⟩
theorem kJ5{r}(h:RGood r)(i:r.cont.length<=50000):OkR r:=by
 cases r with
 | none=>trivial
 | «at» n L=>
  refine xD3 n L h.2.1 (by rw[h.1];decide) ?_;have d:=xD2 n _ _ h.2.1;rcases Nat.lt_or_ge n 10 with a|a
  .omega
  .have e:=h.2.2;have b:2<=cnt n L.sub:=oM
   have c:3 ^ 10<=3 ^ n:=Nat.pow_le_pow_right oM a;have f:2*3 ^ n<=cnt n L.sub*3 ^ n:=Nat.mul_le_mul_right _ b;have g:(Root.at n L).cont.length=(cont n L.sub).length:=rfl;simp at c;omega
theorem jX6{N:Nat}{l:List UInt8}(G:N<=400)(y:N*128<=l.length)(rt:Root)(rs:List Root)(i:qL3 N l rt)(d:RGood rt)(E:OkR rt)(o:∀ r∈rs,qL3 N l r)(a:List Nat)(f:a=qB9 N (rs.foldl qA4 (qA4 [] rt)))(v:rt.news<=a.length):
  ∃ j:Root,Lie N (laidAll l (qC8 rt a).2) (qC8 rt a).1.b (qC8 rt a).1.s j/\RGood j/\j.cont=rt.cont/\(qC8 rt a).2.length=rt.news/\(∀ r∈rs,∀ k∈qO2 r,qB3 (laidAll l (qC8 rt a).2) k=qB3 l k)/\(∀ k,k<2->qB3 (laidAll l (qC8 rt a).2) k=qB3 l k)/\rt.lev<=5:=by
 have g:rt.lev<=5:=by
  obtain⟨F,p,q⟩:=zJ8 oM rt [] i (ClA.nil N l);obtain⟨t,_,_⟩:=zJ9 oM rs _ o p;have m:=zE5 (N:=N) (ks:=rs.foldl qA4 (qA4 [] rt));have u:=xH6 i d a (by rw[f];exact xC4 _ _) (λb c=>by rw[f] at c;exact (m b c).2.1) (λb c z=>by rw[f] at c;exact (m b c).2.2 (t b (q b z)));exact jY5 d oM
 cases rt with
 | none=>exact⟨.none,⟨rfl,rfl⟩,trivial,rfl,rfl,λ_ _ _ _=>rfl,λ_ _=>rfl,g⟩
 | «at» n L=>
  subst f;have B:n<6:=by have h:n<=5:=g;omega
  obtain⟨u,⟨x,h2,h3⟩,h4,h5⟩:=jH2 oM y n L rs i E B o v _ rfl;refine⟨.at n (ψ n L (qB9 N (rs.foldl qA4 (qA4 [] (.at n L))))).1,?_,⟨?_,?_,?_⟩,zO4 _ _ _,qZ4 _ _ _,h4,h5,g⟩
  .refine⟨x.1,?_,?_,?_⟩
   .simp[qC8,lhl,h2]
   .simp[qC8,lhl,h2]
   .have e:(qC8 (.at n L) (qB9 N (rs.foldl qA4 (qA4 [] (.at n L))))).1.s=x.2:=by simp[qC8,lhl,h2]
    rw[e];exact h3
  .rw[zO7];exact d.1
  .rw[zO7];exact xG3 n L _ _ d.2.1
  .rw[xG2];exact d.2.2
theorem kM5{w}{db St A C N nM:Nat}{s}{D}{l}{wr:Int}{nw}(d:Sh w db St A C N nM s D l wr nw)(x:Nat)(t)(r)(o:LiveT d.E w x A N t s r)(bq:t.St=St)(bu:t.wrt=true)(h0:0<=t.nr)(h1:t.nr<=1000000000)(bg:∀ W:World,Sem.run prog (Op.equalIn 10000 89 (τ s.V t.h) (τ s.V ⟨⟨#[]⟩,s.rb,s.rs,none⟩)) W=.ok false W)(bc:s.N<=999999999)
  (ab:∀ k,Maps.has (D.del (χ t.nr)) k=true->Maps.has D k=true/\∀ zd,(D.del (χ t.nr)).atKey k zd=D.atKey k zd) (am:Maps.size (D.del (χ t.nr))<=4):
  Calls prog 31 #[.pointer (some ⟨x,0,none⟩)] w λe X=>∃ v k,e=.returned v/\ErrV X v k/\X.heap[x]?=some (qA1 t.ended)/\Kp [St,x,s.M,A,C] w X/\
   ((k=none/\∃ H l' O,Sh X db St A C N nM H (D.del (χ t.nr)) l' (nx (nk (nx wr) r.news)) O/\O.cont=r.cont/\H.N=s.N+2/\H.bg=s.bg/\H.wr=(s.left t.nr).wr/\H.V=s.V/\H.M=s.M/\l'.length=l.length/\zC2 N (D.del (χ t.nr)) l l'/\r.lev<=5)\/
    (k=some 3/\Sh X db St A C N nM (s.left t.nr) (D.del (χ t.nr)) l wr nw/\∀ U,zC0 N (D.del (χ t.nr)) l U->N<2+r.news+qC9 r+qC9 nw+meas Prod.snd U)):=by
 subst bq;obtain⟨cA,hA⟩:=d.hA;have ag:=(qC5 d.hSt d.hM).symm;have an:=o.xS;have bz:=qC5 o.hx d.hM;have bb:=d.hM.lt;have bw:=ω o.hx hA dC;have bx:=ω o.hx d.dev.hC dC;have a9:=(qC5 hA d.hM).symm;have ba:=(qC5 d.dev.hC d.hM).symm;have ax:db ∉ [t.St,x,s.M,A,C]:=by simp[ω d.hDb d.hSt dC,ω d.hDb hA dC,ω d.hDb d.dev.hC dC,ω d.hDb o.hx dC,qC5 d.hDb d.hM]
 have bm:=(OffD.one o.hSt dC).cons ((OffD.one o.hx dC).cons (λk p c ty m e=>by rw[mS p] at e;exact absurd rfl (qC5 e d.hM)));have be:Apt w [t.St,x,s.M] qF5:=(Apt.one o.hSt dC).cons ((Apt.one o.hx dC).cons (λk p c ty m e=>by rw[mS p] at e;exact absurd rfl (qC5 e d.hM)));have b5:=d.N8;have av:=d.N4;have al:=kJ5 o.good o.sz;have bp:∀ n l,r=.at n l->l.key=⟨#[]⟩:=λn l e=>by have h:=o.good;rw[e] at h;exact h.1
 have bl:∀ n l,nw=.at n l->l.key=⟨#[]⟩:=λn l e=>by have h:=d.good;rw[e] at h;exact h.1
 have Y:=d.lie.bnd d.N1;obtain⟨i,hi⟩:∃ i:Nat,(s.N+1) % 2=(i:Int):=⟨((s.N+1) % 2).toNat,by have:=d.sN0;omega⟩;obtain⟨j,hj⟩:∃ j:Nat,(s.N+1+1) % 2=(j:Int):=⟨((s.N+1+1) % 2).toNat,by have:=d.sN0;omega⟩;have ad:i<2:=by have:=d.sN0;omega
 have aj:j<2:=by have:=d.sN0;omega
 obtain⟨P,aw⟩:∃ P:List HL->List Root->Prop,P=λf rs=>ReadH (D.del (χ t.nr)) f/\Both (λh r=>h.p=none/\h.key=⟨#[]⟩/\Lie N l h.b h.s r/\RGood r) f rs:=⟨_,rfl⟩;have hP:∀ f rs,P f rs->ReadH (D.del (χ t.nr)) f/\Both (λh r=>h.p=none/\h.key=⟨#[]⟩/\Lie N l h.b h.s r/\RGood r) f rs:=λf rs h=>by rw[aw] at h;exact h
 have ak:N*128<=(qD0 l i (qB8 (s.N+1) s.rb s.rs)).length:=qU7 l _ i N (qJ1 _ _ _) d.len oM;have a4:∀ f rs,P f rs->∀ u∈rs++[nw],RGood u/\∃ rb ao,Lie N l rb ao u:=λf rs h u E=>by
  obtain⟨h1,h2,h3⟩:=hP f rs h;rcases mA E with E|E
  .obtain⟨k,p,rfl⟩:=gO E;have h4:=h3 k (by rw[h2];exact p) p;exact⟨h4.2.2.2,_,_,h4.2.2.1⟩
  .rw[mS E];exact⟨d.good,_,_,d.lie⟩
 have bo:∀ f rs,P f rs->meas qC9 (rs++[nw])<=4000:=λf rs h=>by
  obtain⟨h1,h2,_⟩:=hP f rs h;have h5:=qN7 qC9 800 (rs++[nw]) (λu E=>by obtain⟨g,_,_,q⟩:=a4 f rs h u E;exact (qZ9 q g av).1);have h6:=h1.len;rw[lA,<-h2] at h5;simp only[lC,List.length_nil] at h5;omega
 have az:∀ f rs,P f rs->∀ m,m=qB9 N ((rs++[nw]).foldl qA4 (qA4 [] r))->r.news<=m.length->∃ O:Root,Lie N (laidAll (qD0 l i (qB8 (s.N+1) s.rb s.rs)) (qC8 r m).2) (qC8 r m).1.b (qC8 r m).1.s O/\RGood O/\O.cont=r.cont/\(qC8 r m).2.length=r.news/\(∀ u∈rs++[nw],∀ k∈qO2 u,qB3 (laidAll (qD0 l i (qB8 (s.N+1) s.rb s.rs)) (qC8 r m).2) k=qB3 (qD0 l i (qB8 (s.N+1) s.rb s.rs)) k)/\(∀ k,k<2->qB3 (laidAll (qD0 l i (qB8 (s.N+1) s.rb s.rs)) (qC8 r m).2) k=qB3 (qD0 l i (qB8 (s.N+1) s.rb s.rs)) k)/\r.lev<=5:=λf rs h m hfr hfit=>
  jX6 av ak r (rs++[nw]) (kE1 (λk p=>qY1 l _ i k N (qJ1 _ _ _) d.len oM oM) (zH3 o.rr)) o.good al (λu E=>by
   obtain⟨_,_,_,g⟩:=a4 f rs h u E;exact (g.head d.len oM i ad _ _ _).old) m hfr hfit
 refine (xP6 x nM s.V t s D [A,C] (λk H W w1=>(k=none/\∃ f rs m,P f rs/\m=qB9 N ((rs++[nw]).foldl qA4 (qA4 [] r))/\r.news<=m.length/\H=(s.left t.nr).cmt (qC8 r m).1.b (qC8 r m).1.s (((qA4 [] r).length+r.news:Nat):Int)/\
   Devl s.V A N C (qD0 (laidAll (qD0 l i (qB8 (s.N+1) s.rb s.rs)) (qC8 r m).2) j (qB8 (s.N+1+1) (qC8 r m).1.b (qC8 r m).1.s)) (nx (nk (nx wr) (qC8 r m).2.length)) w1)\/
   (k=some 3/\H=s.left t.nr/\(∃ f rs,P f rs/\(qB9 N ((rs++[nw]).foldl qA4 (qA4 [] r))).length<r.news)/\Devl s.V A N C l wr w1)) w o.hx o.over d.hSt d.po d.hM h0 h1 ag an bz bb o.on bu (by simp only[mC,lN,or_false];rintro k (rfl | rfl);exact ζ hA;exact ζ d.dev.hC) ?_).mono ?_
 .intro W hK a7 ah af;refine (jH1 t.St A N C (s.left t.nr) t.h r nw l wr P W oM d.N1 d.len d.AC d.VA d.VC ah (qF8 d.dev hK bm) (o.rr.keepT hK be) bp o.good (by have:=o.sz;omega) al (d.lie.rr d.good W) bl d.sN0 bc Y.1 Y.2.1 Y.2.2 bg ?_ ?_ i j hi hj).mono ?_
  .intro W' aq;refine (kN6 t.St nM 1 (s.left t.nr) (D.del (χ t.nr)) W' (aq.hp ah) (af.kp aq sM) am).mono ?_;rintro e X ⟨v,f,I,K,M,J⟩;obtain⟨rs,hb⟩:=zZ3 (Q:=λh r=>h.p=none/\h.key=⟨#[]⟩/\Lie N l h.b h.s r/\RGood r) f λh hm=>by
    obtain⟨F,y,q,G⟩:=M.are h hm;obtain⟨f1,f2⟩:=ab _ q;obtain⟨T,u,d2⟩:=d.rd y h f1 (λzd=>(f2 zd).symm.trans (G zd)) F;exact⟨u,F,T,d2⟩
   exact⟨v,f,rs,I,K,by rw[aw];exact⟨M,hb⟩,J⟩
  .intro f rs h;obtain⟨F,q,G⟩:=hP f rs h;have hm:=bo f rs h;have b6:=F.len;have b8:=qW7 o.good;have b9:=o.sz;refine⟨q,oM,λk k1 k2=>?_,oM,λhf=>?_⟩
   .obtain⟨R,S,c3,c4⟩:=G k k1 k2;refine⟨?_,λn L e=>?_⟩
    .have e:f[k]=⟨⟨#[]⟩,f[k].b,f[k].s,none⟩:=by
      cases hx:f[k];rw[hx] at R S;simp only at R S;rw[R,S]
     rw[e];exact c3.rr c4 W
    .rw[e] at c4;exact c4.1
   .obtain⟨O,T,_⟩:=az f rs h _ rfl hf;exact T.bnd d.N1
  .rintro e w1 ⟨⟨I,f,rs,m,K,M,J,V,e6⟩|⟨I,f,rs,K,M,J,V⟩,p⟩
   .exact⟨none,_,sM,I,.inl ⟨rfl,f,rs,m,K,M,J,rfl,e6⟩,p,V⟩
   .exact⟨some 3,_,dC,I,.inr ⟨rfl,rfl,⟨f,rs,K,M⟩,V⟩,p,J⟩
 .rintro e X ⟨k,H,v,rfl,hv,a6,ae,W,w1,B,hK,a7,ah,af,hR,ar,a5,b0,ap,ac⟩;have b7:=ζ o.hx;have a8:=af.kp ar (by simp[ag,a9,ba]);have au:=a8.kp ac (by simp[ag];omega);have bv:=ac.heap (ar.heap a7 (by simp[an,bw,bx])) (by simp[an];omega);refine⟨v,k,rfl,hv,bv,ae,?_⟩;rcases hR with⟨rfl,f,rs,m,I,K,M,z,J⟩|⟨rfl,z,⟨f,rs,I,K⟩,J⟩
  .obtain⟨O,T,d2,d3,d4,d5,d6,d7⟩:=az f rs I m K M;rw[d4] at J;have a0:=zO3 al M (λb hb=>by rw[K] at hb;exact (zE5 b hb).2.1);have Z:=zN7 N _ _ ak a0;have bf:∀ u,(∀ k∈qO2 u,qB3 (laidAll (qD0 l i (qB8 (s.N+1) s.rb s.rs)) (qC8 r m).2) k=qB3 (qD0 l i (qB8 (s.N+1) s.rb s.rs)) k)->∀ a b,Lie N l a b u->Lie N (qD0 (laidAll (qD0 l i (qB8 (s.N+1) s.rb s.rs)) (qC8 r m).2) j (qB8 (s.N+1+1) (qC8 r m).1.b (qC8 r m).1.s)) a b u:=λu p a b E=>
    ((E.head d.len oM i ad _ _ _).move p).head Z oM j aj _ _ _
   have ay:∀ y h r0,Maps.has (D.del (χ t.nr)) (χ y)=true->(∀ zd,(D.del (χ t.nr)).atKey (χ y) zd=qG8 h)->h.p=none->Lie N l h.b h.s r0->Lie N (qD0 (laidAll (qD0 l i (qB8 (s.N+1) s.rb s.rs)) (qC8 r m).2) j (qB8 (s.N+1+1) (qC8 r m).1.b (qC8 r m).1.s)) h.b h.s r0:=λy h r0 F q G g4=>by
    obtain⟨a1,a2,a3⟩:=hP f rs I;obtain⟨h',bk,bn,bd⟩:=a1.all _ F;have bh:=zT5 ((q (.lit (.int .i64 0))).symm.trans (bd (.lit (.int .i64 0)))) G bn;subst bh;obtain⟨k,p,rfl⟩:=gO bk;have aa:k<rs.length:=by rw[<-a2];exact p
    obtain⟨b1,b2,b3,b4⟩:=a3 k p aa;refine bf _ (λk' bj=>d5 _ (List.mem_append_left _ (gM aa)) k' ?_) _ _ g4;rw[(Lie.one d.N1 b3 g4).2];exact bj
   refine .inl ⟨rfl,H,_,O,?_,d3,by rw[z];show s.N+1+1=s.N+2;omega,by rw[z];rfl,by rw[z];rfl,by rw[z];rfl,by rw[z];rfl,?_,λy rb ao r0 F q G=>ay y ⟨⟨#[]⟩,rb,ao,none⟩ r0 F q rfl G,d7⟩
   .refine { hDb:=ae.heap d.hDb ax,hSt:=a6,po:=by rw[z];exact d.po,hM:=by rw[z];exact au,m4:=am,n1:=d.n1,dev:=?_,N8:=d.N8,N4:=d.N4,len:=qU7 _ _ j N (qJ1 _ _ _) Z oM,lie:=?_,good:=d2,heads:=?_,bl0:=?_,bl1:=?_,sN0:=?_,bg0:=by rw[z];exact d.bg0,kb:=λk p=>by rw[z];exact d.kb k (ab k p).1,rd:=?_ }
    .rw[z];exact qF8 J ac (qN9 a5 ap)
    .rw[z];exact T.head Z oM j aj _ _ _
    .rw[z];show (0:Int)<=(((qA4 [] r).length+r.news:Nat):Int);exact Int.natCast_nonneg _
    .rw[z,d3];have F:=zJ7 [] r;have q:=qW7 o.good;have G:=qW8 o.good;show ((_:Nat):Int)<=_;simp only[List.length_nil] at F;omega
    .rw[z];show 0<=s.N+1+1;have:=d.sN0;omega
    .intro y h F q G;obtain⟨f1,f2⟩:=ab _ F;obtain⟨R,u,S,c3⟩:=d.rd y h f1 (λzd=>(f2 zd).symm.trans (q zd)) G;exact⟨R,u,ay y h u F q G S,c3⟩
    .rw[z];have bi:i≠j:=oM
     have ai:=T.bnd d.N1;show Heads _ (s.N+1+1) (qC8 r m).1.b (qC8 r m).1.s;refine Heads.made (N:=s.N) (i:=i) (j:=j) (rb:=s.rb) (rs:=s.rs) ?_ (qY2 _ _ j N (qJ1 _ _ _) Z oM) ad aj ⟨hi,by have:=d.sN0;omega,oM,Y.1,Y.2.1,Y.2.2,d.lie.sum⟩ ⟨hj,by have:=d.sN0;omega,oM,ai.1,ai.2.1,ai.2.2,T.sum⟩;rw[qY1 _ _ j i N (qJ1 _ _ _) Z oM bi,d6 i ad,qY2 l _ i N (qJ1 _ _ _) d.len oM]
   .rw[qW9 _ _ j N (qJ1 _ _ _) Z oM,xE8 N _ _ ak a0,qW9 _ _ i N (qJ1 _ _ _) d.len oM]
  .refine .inr ⟨rfl,?_,λU hU=>?_⟩
   .exact { hDb:=ae.heap d.hDb ax,hSt:=by rw[<-z];exact a6,po:=d.po,hM:=au,m4:=am,n1:=d.n1,dev:=qF8 J ac (qN9 a5 ap),N8:=d.N8,N4:=d.N4,len:=d.len,lie:=d.lie,good:=d.good,heads:=d.heads,bl0:=d.bl0,bl1:=d.bl1,sN0:=d.sN0,bg0:=d.bg0,kb:=λk p=>d.kb k (ab k p).1,rd:=λy h F q G=>by obtain⟨f1,f2⟩:=ab _ F;exact d.rd y h f1 (λzd=>(f2 zd).symm.trans (q zd)) G }
   .have F:=jP4 N ((rs++[nw]).foldl qA4 (qA4 [] r));have q:=zJ7 [] r;have G:=zE4 (rs++[nw]) (qA4 [] r) ((s.rb,qC9 nw)::U) (λu E=>by
     obtain⟨a1,a2,a3⟩:=hP f rs I;rcases mA E with E|E
     .obtain⟨k,p,rfl⟩:=gO E;have aa:k<f.length:=by rw[a2];exact p
      obtain⟨b1,b2,b3,b4⟩:=a3 k aa p;obtain⟨_,y,R,S⟩:=a1.are _ (gM aa);rcases b3.covered with e|⟨n,L,b,H,V,e6,e7⟩
      .exact .inl e
      .obtain⟨u,br,bs,bt⟩:=hU y _ _ R S b1 b3 b4;exact .inr ⟨n,L,b,H,V,e6,.inr ⟨u,mM _ br,bs.trans e7,bt⟩⟩
     .rw[mS E];rcases d.lie.covered with e|⟨n,L,b,H,V,e6,e7⟩
      .exact .inl e
      .exact .inr ⟨n,L,b,H,V,e6,.inr ⟨(s.rb,qC9 nw),List.mem_cons.2 (.inl rfl),e7,lR⟩⟩)
    rw[qC1] at G;simp only[List.length_nil] at q;simp only at G;omega
def qE7(V:Nat)(b:Int)(k:ByteArray):Obj:=.cells #[.pointer (some ⟨V,0,none⟩),.int .i64 b,.string k] 293
theorem qU1(w):Calls prog 253 #[.bool true] w λe a=>e=.returned (.tuple #[])/\a=w:=by
 go_enter func253,ntmps253;go_wp2
 go_end0
 exact⟨rfl,rfl⟩
theorem xJ1(O:qE5)(n:Nat)(q:Nat)(t)(w)(h:RN O n w q t)(d:cnt n t<=1000000):
  Calls prog 161 #[.pointer (some ⟨q,0,none⟩)] w λe g=>e=.returned (.int .i64 (cnt n t))/\∃ m,g=w.drewN m:=by
 obtain⟨p,s,r,j,o,k,a,b⟩:=h.obj;have c:=zh b;rw[<-b] at d;have i:=ζ a;have f:=ξ a;simp only[ι,zG,zH,zI] at f;clear h a b;go_enter func161,ntmps161;go_wp2_with fail
 go_quiet (fail)
 go_wp2;go_ret;exact⟨qJ5 (by rw[<-c.out];omega),_,rfl⟩
theorem kD5(V A N C:Nat)(l)(writes:Int)(hN:N<=1000)(hs:N*128<=l.length)(hAC:C≠A)(hVA:V≠A)(n b:Nat)(s:Int)(t)(w)(a:Devl V A N C l writes w)(z:Laid N l n b s t):
  Calls prog 217 #[.pointer (some ⟨V,0,none⟩),.agg #[.int .i64 b,.int .u64 s]] w λe f=>∃ q,e=.returned (.tuple #[.pointer (some ⟨q,0,none⟩),.bool true])/\RN (Laid N l) n f q t/\Devl V A N C l writes f/\Kp [A] w f:=by
 obtain⟨u,y⟩:=a.hA
 cases n with
 | zero=>
  obtain⟨D,g,x,d,j,k,m⟩:=z;rw[x];refine (xM4 V A N C u writes b l (prs t) w a.hV y g hN a.hC hs hAC hVA d j k m).mono ?_;rintro e f ⟨q,v,rfl,r,_,p,o,c⟩;exact⟨q,rfl,⟨v,r,qL0 p⟩,⟨c.heap a.hV (by simpa using hVA),⟨_,o⟩,c.heap a.hC (by simpa using hAC)⟩,c⟩
 | succ n=>
  obtain⟨D,g,x,B,d,j,k,m,E,F⟩:=z;rw[j];refine (xM3 V A N C u writes b l B ((n+1:Nat):Int) oM oM w a.hV y g hN a.hC hs hAC hVA k (Laid.links d m hN) E F).mono ?_;rintro e f ⟨q,v,rfl,r,_,p,o,c⟩;exact⟨q,rfl,⟨v,r,B,qL0 p,⟨d.1,λi G H=>(d.2 i G H).mono (λ_ h=>h.elim) (λ_ _ h=>h)⟩⟩,⟨c.heap a.hV (by simpa using hVA),⟨_,o⟩,c.heap a.hC (by simpa using hAC)⟩,c⟩
theorem RN.lev{O:qE5}{n:Nat}{w}{q:Nat}{t}(h:RN O n w q t):∃ c b,w.heap[q]?=some (ι (n:Int) c b):=by
 cases n with
 | zero=>obtain⟨c,a,_⟩:=h;exact⟨_,_,a⟩
 | succ n=>obtain⟨b,a,_⟩:=h;exact⟨_,_,a⟩
section
variable (V A N C:Nat) (l:List UInt8) (writes:Int) (hN:N≤1000) (hs:N*128≤l.length) (hAC:C≠A) (hVA:V≠A)
include hN hs hAC hVA
theorem zZ8(n b:Nat)(s:Int)(t)(G:Nat)(d:Int)(k)(w)(E:Devl V A N C l writes w)(J:Laid N l n b s t)(x:w.heap[G]?=some (qE7 V d k))(al:0<=d)(am:d<=1000000):
  Calls prog 255 #[.pointer (some ⟨G,0,none⟩),.agg #[.int .i64 b,.int .u64 s]] w λe F=>∃ q,e=.returned (.pointer (some ⟨q,0,none⟩))/\RN (Laid N l) n F q t/\Devl V A N C l writes F/\F.heap[G]?=some (qE7 V (d+1) k)/\Kp [A,G] w F:=by
 have ak:=J.at;have h2:(2:Int)<=(b:Int):=oM
 have ao:(b:Int)<(N:Int):=oM
 have ac:=zh (λW hW=>kD5 V A N C l writes hN hs hAC hVA n b s t W hW J);have L:=zh E;have ae:G≠A:=by obtain⟨c,h⟩:=E.hA;exact ω x h dC
 have ai:=ζ x;go_enter func255,ntmps255;go_wp2_with fail;obtain⟨X,T,D,y,ap⟩:=qF7 w (.cells #[ϊ (b:Int),.int .u64 s] 84);rw[<-T];clear T;have j:=y.hp x;have Q:=y.hp E.hV;have ag:=ζ j;have aj:=ζ D;have r:=ξ j 0;have u:=ξ j 1;have v:=ξ j 2;simp only[qE7,zG,zH,zI] at r u v;have p0:=ξ D;have aa:=zh y;have Z:=zh j;have ab:=zh D;have ad:=zh Q;clear E J x y j D Q
 go_quiet (first | (go_at_call 121;exact Calls.quiet_of_same (zT9 V A N _ ad)) | (go_at_call 253;exact Calls.quiet_of_same (qU1 _)))
 go_wp2_with fail;obtain⟨o,U,B⟩:∃ o,o=X.drewN nq/\Kp [] X o:=⟨_,rfl,kF.drewN _⟩;rw[<-U];clear U r u v p0;have I:=(aa.tr B).drew;have O:=qF8 L I (by intro k hk;cases hk);have f:Ϙ o.drew G (qE7 V d k)/\Ϙ o.drew w.heap.size (.cells #[ϊ (b:Int),.int .u64 s] 84):=⟨B.hp Z,B.hp ab⟩;refine wp_region_held_drew (S:=λW=>Ϙ W G (qE7 V d k)/\Ϙ W w.heap.size (.cells #[ϊ (b:Int),.int .u64 s] 84)) kR f (λ_=>?_);refine zP 0 G 0 f ?_;refine zV 1 (ϖ G) rfl (λW g=>by have c:=ζ g.1;clear g;go_simp) f ?_;refine zP 2 G 0 f ?_;refine zV 3 (ϖ V) rfl (λW g=>by have a:=ξ g.1 0;simp only[qE7,zG,zH,zI] at a;clear g;go_simp) f ?_;refine zV 4 (.agg #[ϊ (b:Int),.int .u64 s]) rfl (λW g=>by have a:=ξ g.2;clear g;go_simp) f ?_;refine zq 5 λK hK=>?_;go_simp;refine (ac _ O).mono ?_;rintro e w1 ⟨q,rfl,P,M,z⟩;have i:=n2 (z.heap f.1 (by simpa using ae)) (z.heap f.2 (by have:=L.out.hA;obtain⟨c,h⟩:=this;have:=ζ h;simp;omega));refine zk hK i ?_
 refine zU 6 (.tuple #[ϖ q,.bool true]) i ?_;refine zP 7 q 0 i ?_;refine zU 8 (.bool true) i ?_;refine zP 9 q 0 i ?_;refine zU 10 (.bool true) i ?_;refine zd ?_
 try simp only[zZ]
 have p:=zh i.1;have Y:Hid (RN (Laid N l) n w1 q t/\Devl V A N C l writes w1/\Kp [A,G] w w1):=⟨P,M,(I.mono sM).tr z⟩;clear P M z i f B I O;go_wp2_with fail;refine (qU1 w1).mono ?_;rintro e w2 ⟨rfl,R⟩;rw[R];clear R w2;have m:=p.out;have ah:=ζ m;have r:=ξ m 0;have u:=ξ m 1;have v:=ξ m 2;simp only[qE7,zG,zH,zI] at r u v;have f1:=φ m 1;have an:wrap64 (d+1)=d+1:=by simp only[wrap64];omega
 clear m;go_wp2;go_ret;have af:Apt w1 [G] qF5:=Apt.one p dC;have H:Kp [G] w1 (w1.setCell ⟨G,1,none⟩ (ϊ (d+1))):=kF.sc _;obtain⟨e1,e2,e3⟩:=Y.out;exact⟨q,rfl,RN.keep H af n q t e1,qF8 e2 H (OffD.one p dC),μ p 1 _,e3.tr H⟩
theorem xZ9(n b:Nat)(s:Int)(t)(G y:Nat)(vp0 vl0)(d:Int)(k)(w)(r:Devl V A N C l writes w)(o:Laid N l n b s t)(j:w.heap[G]?=some (qE7 V d k))(i:w.heap[y]?=some (ι ((n+1:Nat):Int) vp0 vl0))(O:0<=d)(P:d<=1000000)(Z:3<=cnt n t)(aa:cnt n t<=1000):
  Calls prog 254 #[.pointer (some ⟨G,0,none⟩),.pointer (some ⟨y,0,none⟩),.agg #[.int .i64 b,.int .u64 s]] w λe a=>∃ q,e=.returned (.pointer (some ⟨q,0,none⟩))/\RN (Laid N l) n a q t/\Devl V A N C l writes a/\a.heap[G]?=some (qE7 V (d+1) k)/\Kp [A,G] w a:=by
 have Y:=o.at;have I:Hid (∀ W,Kp [] w W->Ω 255 #[ϖ G,.agg #[ϊ b,.int .u64 s]] W λe a=>∃ q,e=ϱ (ϖ q)/\RN (Laid N l) n a q t/\Devl V A N C l writes a/\Ϙ a G (qE7 V (d+1) k)/\Kp [A,G] W a):=λW hW=>zZ8 V A N C l writes hN hs hAC hVA n b s t G d k W (qF8 r hW (by intro k u;cases u)) o (hW.hp j) O P;have R:=ω i j dC;have Q:y≠A:=by obtain⟨c,h⟩:=r.hA;exact ω i h dC
 have H:=zh i;clear r o j i;go_enter func254,ntmps254;go_wp2_with fail;obtain⟨S,E,M,f,ad⟩:=qF7 w (.cells #[ϊ (b:Int),.int .u64 s] 84);rw[<-E];clear E;refine (show Calls _ _ _ _ _ from I S f).mono ?_;rintro e w1 ⟨q,rfl,p,B,D,m⟩;obtain⟨vp,vl,v⟩:=p.lev;have x:=m.heap (f.hp H) (by simp[Q,R]);have ac:=ζ v;have ab:=ζ x;have T:=ξ v 0;simp only[ι,zG,zH,zI] at T;have U:=ξ x 0;simp only[ι,zG,zH,zI] at U;have ae:wrap64 (((n+1:Nat):Int)-1)=(n:Int):=by simp only[wrap64];omega
 have af:wrap64 ((n:Int)+1-1)=(n:Int):=by simp only[wrap64];omega
 have z:=zh p;have F:Hid (Devl V A N C l writes w1/\Ϙ w1 G (qE7 V (d+1) k)/\Kp [A,G] w w1):=⟨B,D,(f.mono sM).tr m⟩;have X:(3:Int)<=((cnt n t:Nat):Int):=oM
 clear p B D m f v x M;go_wp2_with fail
 go_quiet (first | (go_at_call 161;exact Calls.quiet_of (xJ1 (Laid N l) n q t _ (RN.keep ((Kp.refl [] _).drewN _) (Apt.nil _ _) _ _ _ z) oM)) | (go_at_call 253;exact Calls.quiet_of_same (qU1 _)))
 go_wp2;go_ret;have g:Kp [] w1 (w1.drewN nq):=kF.drewN _;obtain⟨J,K,L⟩:=F.out;exact⟨q,rfl,RN.keep g (Apt.nil _ _) _ _ _ z,qF8 J g (by intro k u;cases u),g.hp K,L.tr g⟩
theorem jI2(n b:Nat)(s:Int)(t)(G:Nat)(h:Int)(k)(w)(F:Devl V A N C l writes w)(r:Laid N l n b s t)(B:w.heap[G]?=some (qE7 V h k))(Z:0<=h)(aa:h<=1000000)(ac:min n 1<cnt n t)(ad:cnt n t<=1000):
  Calls prog 211 #[.pointer (some ⟨G,0,none⟩),.agg #[.int .i64 b,.int .u64 s]] w λe g=>∃ q,e=.returned (.pointer (some ⟨q,0,none⟩))/\RN (Laid N l) n g q t/\Devl V A N C l writes g/\g.heap[G]?=some (qE7 V (h+1) k)/\Kp [A,G] w g:=by
 have ab:=r.at;have R:Hid (∀ W,Kp [] w W->Ω 255 #[ϖ G,.agg #[ϊ b,.int .u64 s]] W λe g=>∃ q,e=ϱ (ϖ q)/\RN (Laid N l) n g q t/\Devl V A N C l writes g/\Ϙ g G (qE7 V (h+1) k)/\Kp [A,G] W g):=λW hW=>zZ8 V A N C l writes hN hs hAC hVA n b s t G h k W (qF8 F hW (by intro k v;cases v)) r (hW.hp B) Z aa;clear F r B;go_enter func211,ntmps211;go_wp2_with fail;obtain⟨w0,J,Y,p,ag⟩:=qF7 w (.cells #[ϊ (b:Int),.int .u64 s] 84);rw[<-J];clear J;refine (show Calls _ _ _ _ _ from R w0 p).mono ?_;rintro e w1 ⟨q,rfl,u,z,D,E⟩;obtain⟨O,M,H⟩:=u.lev;have y:=zh u;have P:Hid (Devl V A N C l writes w1/\Ϙ w1 G (qE7 V (h+1) k)/\Kp [A,G] w w1):=⟨z,D,(p.mono sM).tr E⟩;have h6:(n:Int)<6:=oM
 obtain⟨o,af,ae⟩:∃ o:Int,(if (1:Int)<(n:Int) then 1 else (n:Int))=o/\o<((cnt n t:Nat):Int):=⟨_,rfl,by split<;>omega⟩;have x:=zh H;clear u z D E p Y H;go_wp2_with fail;have d:Ϙ w1.drew q (ι (n:Int) O M):=x.out;refine wp_region_held_drew (S:=λW=>Ϙ W q (ι (n:Int) O M)) kR d (λ_=>?_);refine zP 0 q 0 d ?_;refine zV 1 (ϖ q) rfl (λW f=>by have c:=ζ f;clear f;go_simp) d ?_;refine zP 2 q 0 d ?_;refine zV 3 (ϊ (n:Int)) rfl (λW f=>by have a:=ξ f 0;simp only[ι,zG,zH,zI] at a;clear f;go_simp) d ?_;refine zU 4 (.bool true) d ?_;refine zU 5 (.bool true) d ?_;refine zP 6 q 0 d ?_;refine zP 8 q 0 d ?_;refine zV 9 (ϖ q) rfl (λW f=>by have c:=ζ f;clear f;go_simp) d ?_;refine zP 10 q 0 d ?_;refine zV 11 (ϊ (n:Int)) rfl (λW f=>by have a:=ξ f 0;simp only[ι,zG,zH,zI] at a;clear f;go_simp) d ?_;refine zU 12 (ϊ o) d ?_;refine zq 7 λK hK=>?_;go_simp;refine (xJ1 (Laid N l) n q t w1.drew (RN.keep ((Kp.refl [] _).drew) (Apt.nil _ _) _ _ _ y) oM).mono ?_;rintro e j ⟨rfl,nn,L⟩;have i:Kp [] w1 j:=by rw[L];exact ((Kp.refl [] _).drew).trans ((Kp.refl [] _).drewN _) sM
 have m:=i.hp x.out;refine hK.out _ _ m (λ_=>?_);clear hK K L
 try simp only[zZ]
 refine zU 13 (.bool true) m ?_;refine zU 14 (.bool true) m ?_;refine zq 15 λK hK=>?_;go_simp;refine (qU1 j).mono ?_;rintro e w3 ⟨rfl,I⟩;rw[I];clear I w3;refine hK.out _ _ m (λ_=>?_);refine zd ?_
 try simp only[zZ]
 have Q:Hid (RN (Laid N l) n j q t/\Devl V A N C l writes j/\Ϙ j G (qE7 V (h+1) k)/\Kp [A,G] w j):=by
  obtain⟨T,U,X⟩:=P.out;exact⟨RN.keep i (Apt.nil _ _) _ _ _ y,qF8 T i (by intro k v;cases v),i.hp U,X.tr i⟩
 clear i m d;go_wp2;go_ret;exact⟨q,rfl,Q⟩
end
def qI5(k:ByteArray)(ps:List KV):ByteArray:=(ps.getLast?.map KV.k).getD k
theorem jK4(k):qI5 k []=k:=rfl
theorem zD8(k)(ps)(p):qI5 k (ps++[p])=p.k:=by simp[qI5]
theorem jK3(k)(a b):qI5 (qI5 k a) b=qI5 k (a++b):=by
 rcases List.eq_nil_or_concat b with rfl|⟨c,p,rfl⟩
 .simp[qI5]
 .rw[List.concat_eq_append,zD8,<-aA,zD8]
theorem zL7{k x}{ps}(a:kl k x=true\/ps≠[])(h:∀ q∈ps,kl q.k x=true):kl (qI5 k ps) x=true:=by
 rcases List.eq_nil_or_concat ps with rfl|⟨c,p,rfl⟩
 .rcases a with h|h
  .exact h
  .exact absurd rfl h
 .rw[List.concat_eq_append] at *;rw[zD8];exact h p sM
theorem xE4{a b}(h:kl a b=true):Op.bytesLess b.toList a.toList=false/\(b.toList == a.toList)=false:=
 ⟨qP4 h,by rw[zH4];simpa using (qI9 h).symm⟩
def zC5(V A N C:Nat)(l:List UInt8)(writes:Int)(n:Nat):Prop:=
 ∀ (t:Tn n) (q G:Nat) (lh:HL) (bl:Int) (k:ByteArray) (b:Nat) (s:Int) (w:World),Devl V A N C l writes w→w.heap[G]?=some (qE7 V bl k)→RN (Laid N l) n w q t→Laid N l n b s t→Good n lh.key t→(∀ p∈cont n t,kl k p.k=true)→0≤bl→bl+qB6 n t≤1000000→
  Calls prog 210 #[.pointer (some ⟨G,0,none⟩),qC0 lh,.pointer (some ⟨q,0,none⟩)] w fun e w'=>e=.returned (.tuple #[])∧w'.heap[G]?=some (qE7 V (bl+qB6 n t-1) (qI5 k (cont n t)))∧Devl V A N C l writes w'∧Kp [A,G] w w'
theorem kR2(V A N C:Nat)(l)(a8:Int):zC5 V A N C l a8 0:=by
 intro t q G H M k b s w hd z m hL R hk bg bh;obtain⟨vp,c,F⟩:=m;obtain⟨bs,cp,rfl⟩:=qO8 F;obtain⟨ps,f⟩:=eX (prs t);have bi:ps.length<=126:=by rw[f];exact hL.2.2.2.2.2.2
 have aj:Sorted ps:=by rw[f];exact R.sorted
 have af:∀ p∈ps,kl p.k H.key=false:=λp a=>(R.all p (by rw[f] at a;exact a)).2;have ai:∀ p∈ps,kl k p.k=true:=λp a=>hk p (by rw[f] at a;exact a);rw[show M+((qB6 0 t:Nat):Int)-1=M by simp[qB6],show cont 0 t=ps from f.symm];rw[<-f] at F c;have r:=zh (n3 aj af ai);have HD:=zh hd;have ab:=zh F;have HQ:=zh c;have a6:=ω c z dC;have be:=ζ z;have bk:=ζ c;have J:=zh z;have I:=ξ c;simp only[ι,zG,zH,zI] at I;clear hd z c F hL R hk f aj af ai;rw[qC0];go_enter func210,ntmps210;go_wp2_with fail;obtain⟨w0,ak,ad,ac,a7⟩:=qF7 w (.cells (ϡ H) 87);rw[<-ak];have Y:=zh ad;have L:=zh ac;have ax:Hid (w.cell? ⟨q,1,none⟩=w.cell? ⟨q,1,none⟩):=rfl;clear ak ad ac I
 go_loopw [15] (λi wr=>∃ (j:Nat),j<=ps.length/\i=.int .i64 j/\w.heap.size<wr.heap.size/\Hid (Ϙ wr G (qE7 V M (qI5 k (ps.take j))))/\Hid (Ϙ wr w.heap.size (.cells (ϡ H) 87))/\Hid (Kp [G] w wr)) (λi _=>ps.length-(intOf i).toNat)
 case atStart=>exact⟨0,zL _,rfl,oM,L.hp J,Y,L.mono sM⟩
 case round=>
  obtain⟨j,hj,rfl,bo,K,aa,n⟩:=hrel;clear Y L a7;by_cases E:j<ps.length
  .obtain⟨gb,an,a9,cur,fr,hv,ay,T,ag⟩:=ab.out.pair oM;obtain⟨c0,c1⟩:=ag j E;simp only[vJ,true_and] at hv;obtain⟨rfl,rfl⟩:=hv;have m:=n.out.heap T (by simp;exact ω T J dC);have a0:=ξ m (an+j*2);rw[c0] at a0;have a1:=ξ m (an+j*2+1);rw[c1] at a1;have a2:=ζ m;have a5:(j:Int)<(ps.length:Int):=oM
   have hm:=gM E;have ah:=zL7 (.inl (r.2.2 _ hm)) λq c=>by
    have a:=r.out.1;rw[<-tD j ps,dG E] at a;exact (pA a).2.2 q c _ (List.mem_cons_self ..)
   obtain⟨a3,a4⟩:=xE4 ah;clear ah;have az:Op.bytesLess ps[j].k.toList H.key.toList=false:=r.out.2.1 _ hm;have ap:Hid (qI5 k (ps.take (j+1))=ps[j].k):=by
    show qI5 k (ps.take (j+1))=ps[j].k;rw[tA E,zD8]
   clear ag ay T;go_wp2_with fail;obtain⟨w1,al,y,B,bn⟩:=qF7 wr (.cells #[.string ps[j].k,.string ps[j].v] 185);rw[<-al];clear al a0 a1 m a2;have g:=B.hp K.out;have D:=B.hp aa.out;have bc:=ζ g;have bf:=ζ D;have ba:=ζ y;have u:=ξ g 0;have v:=ξ g 1;have x:=ξ g 2;simp only[qE7,zG,zH,zI] at u v x;have p0:=ϻ D 0;have z0:=ξ y;have W:=zh g;have Z:=zh D;have U:=zh y;have X:=zh (n.tr B);clear g D y B
   go_quiet (first | (go_at_call 253;exact Calls.quiet_of_same (qU1 _)))
   obtain⟨o,am,h⟩:∃ o,o=w1.drewN nq/\Kp [] w1 o:=⟨_,rfl,kF.drewN _⟩;rw[<-am];clear am u v x p0 z0 a3 a4 az;have d:=h.hp W.out;have ae:=h.hp Z.out;have O:=h.hp U.out;have bd:=ζ d;have bb:=ζ O;have bm:=h.size;have u:=ξ d 0;have v:=ξ d 1;have x:=ξ d 2;simp only[qE7,zG,zH,zI] at u v x;have z0:=ξ O;have f2:=φ d 2;have aq:=zh d;have aw:=zh ae;have au:=zh (X.tr h);clear d ae O h W Z X U;go_wp2;have Q:Kp [G] o (o.setCell ⟨G,2,none⟩ (.string ps[j].k)):=kF.sc _;refine⟨⟨j+1,oM,by go_num,by have:=Q.size;omega,?_,Q.ho aw,au.tr Q⟩,by simp[intOf];omega⟩;show _=_;rw[ap.out];exact μ aq 2 _
  .have a5:¬(j:Int)<(ps.length:Int):=oM
   have e:ps.take j=ps:=tL oM;have P:=K.out;rw[e] at P;have ar:=Hid.mk' P;have S:=n.out.heap HQ (by simpa using a6);have bj:=ζ S;have I:=ξ S;simp only[ι,zG,zH,zI] at I;have av:Hid (Kp [A,G] w wr):=n.out.mono sM;have ao:=zh (qF8 HD n (OffD.one J dC));clear e P K S ab r ax aa;go_wp2_with fail
   go_loopw [48] (λi w'=>i=.int .i64 0/\w'=wr) (λ_ _=>0)
   case atStart=>exact⟨rfl,rfl⟩
   case round=>
    obtain⟨rfl,rfl⟩:=hrel;go_wp2
    go_end0
    exact⟨rfl,ar,ao,av⟩
theorem zN8{N:Nat}{l}:∀ {n b:Nat} {s:Int} {t},Laid N l n b s t->cnt n t<=126
 | 0,_,_,_,h=>h.2.2.2.2.2.2
 | n+1,_,_,t,h=>by
  obtain⟨_,_,_,d,a,_,_,_,_,c⟩:=h;show (η t).length<=126;rw[<-a.1];exact c
theorem jW0{N:Nat}{l}{n b:Nat}{s:Int}{t}{w}{hs}(m:Laid N l (n+1) b s t)(o:Both (RLof (RN (Laid N l) n w) (Laid N l n)) hs (η t)):
  ∀ j (d:j<hs.length) (a:j<(η t).length),hs[j].key=(η t)[j].key/\hs[j].p=none/\∃ c:Nat,hs[j].b=(c:Int)/\Laid N l n c hs[j].s (η t)[j].sub:=by
 intro j d a;have p:=xF2 n b s t m _ (gM a);have q:=o.2 j d a
 cases hx:(η t)[j].ref with
 | none=>have:=p.some;rw[hx] at this;cases this
 | some x=>
  obtain⟨f,e⟩:=q;rw[hx] at e;obtain⟨g,h,i,k⟩:=e;exact⟨f,i,x.1,g,by rw[h];exact k⟩
theorem jQ7{n:Nat}{lo}{t}(d:Good (n+1) lo t)(j:Nat)(f:j<(η t).length):
  (∀ q∈((η t).take j).flatMap (λm=>cont n m.sub),kl q.k (η t)[j].key=true)/\(0<j->((η t).take j).flatMap (λm=>cont n m.sub)≠[])/\(∀ p∈cont n (η t)[j].sub,kl p.k (η t)[j].key=false/\p∈cont (n+1) t):=by
 refine⟨λq c=>?_,λh0 e=>?_,λp b=>⟨?_,?_⟩⟩
 .obtain⟨m,l,c⟩:=mF c;have b:(η t).Pairwise (qQ2 n):=d.pair;rw[<-tD j (η t),dG f] at b;exact ((pA b).2.2 m l _ (List.mem_cons_self ..)).2 q c
 .obtain⟨a,r,g⟩:∃ a r,(η t).take j=a::r:=by
   cases hx:(η t).take j with
   | nil=>have h:=congrArg List.length hx;rw[lK,List.length_nil] at h;omega
   | cons a r=>exact⟨a,r,rfl⟩
  have k:=d.all a (mT (i:=j) (by show a∈(η t).take j;rw[g];simp));obtain⟨q,c⟩:=zD4 n a.key a.sub k.1 oM;have:q∈((η t).take j).flatMap (λm=>cont n m.sub):=List.mem_flatMap.2 ⟨a,by rw[g];simp,c⟩;rw[e] at this;cases this
 .exact ((qK9 n _ _ (d.all _ (gM f)).1).2 p b).2
 .exact List.mem_flatMap.2 ⟨_,gM f,b⟩
theorem kR3(V A N C:Nat)(l)(z:Int)(hN:N<=1000)(cs:N*128<=l.length)(cj:C≠A)(ck:V≠A)(n:Nat)(IH:zC5 V A N C l z n):zC5 V A N C l z (n+1):=by
 intro t q G lh B k b s w hd hG F hL b4 v dc ak;obtain⟨vl,H,d,bo,au⟩:=F;obtain⟨bs,cp,rfl⟩:=qO8 bo;have db:=hL.at;have bw:=jW0 hL au;have ch:=zh bw;have U:Hid (d.length=(η t).length/\d.length<=126):=⟨au.1,by rw[au.1];exact zN8 hL⟩;have a8:=zh b4;have cg:=zh v;have HD:=zh hd;have ci:=zh bo;have HQ:=zh H;have bq:Hid (qB6 (n+1) t=1+meas (λm:Lnk (Tn n)=>qB6 n m.sub) (η t)):=rfl;have cb:=ω H hG dC;have ca:q≠A:=by obtain⟨c,h⟩:=hd.hA;exact ω H h dC
 have c9:G≠A:=by obtain⟨c,h⟩:=hd.hA;exact ω hG h dC
 have c7:A<w.heap.size:=by obtain⟨c,h⟩:=hd.hA;exact ζ h
 have da:=ζ hG;have de:=ζ H;have HG:=zh hG;have ce:=zh ak;rw[show B+((qB6 (n+1) t:Nat):Int)-1=B+((meas (λm:Lnk (Tn n)=>qB6 n m.sub) (η t):Nat):Int) by rw[bq.out];omega,show cont (n+1) t=(η t).flatMap λm=>cont n m.sub from rfl];have q1:=ξ H;simp only[ι,zG,zH,zI] at q1;clear hd hG H bo hL b4 v au bw ak;rw[qC0];go_enter func210,ntmps210;go_wp2_with fail;obtain⟨w0,cc,bx,bv,cx⟩:=qF7 w (.cells (ϡ lh) 87);rw[<-cc];have br:=zh bx;have T:=zh bv;clear cc bx bv q1
 go_loopw [15] (λi y=>i=.int .i64 0/\y=w0) (λ_ _=>0)
 case atStart=>exact⟨rfl,rfl⟩
 case round=>
  obtain⟨rfl,cd⟩:=hrel;rw[cd];clear cd;have az:=T.out.hp HQ.out;have cw:=ζ az;have q1:=ξ az 1;have g:=ξ az 2;simp only[ι,zG,zH,zI] at q1 g;clear az;go_wp2_with fail
  go_loopw [48] (λi wr=>∃ (j:Nat),j<=d.length/\i=.int .i64 j/\w.heap.size<wr.heap.size/\Hid (wr.heap[G]?=some (qE7 V (B+meas (λm:Lnk (Tn n)=>qB6 n m.sub) ((η t).take j)) (qI5 k (((η t).take j).flatMap λm=>cont n m.sub))))/\Hid (Devl V A N C l z wr)/\Hid (wr.heap[w.heap.size]?=some (.cells (ϡ lh) 87))/\Hid (Kp [A,G] w wr)) (λi _=>d.length-(intOf i).toNat)
  case atStart=>exact⟨0,zL _,rfl,oM,by show _=_;simpa [qD6,jK4] using T.hp HG,qF8 HD T (by intro k v;cases v),br,T.mono sM⟩
  case round=>
   rename_i wr hrel;obtain⟨j,hj,rfl,df,R,a7,bc,P⟩:=hrel;clear q1 g br T cx cw;by_cases ay:j<d.length
   .have Q:j<(η t).length:=by have:=U.out;omega
    obtain⟨av,cv,b',b0,ax⟩:=ch.out j ay Q;obtain⟨be,bu,bf⟩:=jQ7 a8 j Q;have bj:=a8.out.all (η t)[j] (gM Q);have ct:=qL6 (λm:Lnk (Tn n)=>qB6 n m.sub) (η t) j Q;have cu:=qO6 (λm:Lnk (Tn n)=>qB6 n m.sub) (η t) (j+1);have ak:=ce.out;rw[bq.out] at ak;have b3:((η t).take (j+1)).flatMap (λm=>cont n m.sub)=((η t).take j).flatMap (λm=>cont n m.sub)++cont n (η t)[j].sub:=by
     rw[tA Q,fA];simp
    have ao:Hid (∀ W,Devl V A N C l z W->W.heap[G]?=some (qE7 V (B+meas (λm:Lnk (Tn n)=>qB6 n m.sub) ((η t).take j)) (qI5 k (((η t).take j).flatMap λm=>cont n m.sub)))->W.heap[q]?=some (ι ((n+1:Nat):Int) (.slice none 0 0) (.slice bs d.length cp))->Ω 254 #[ϖ G,ϖ q,.agg #[ϊ d[j].b,.int .u64 d[j].s]] W λe y=>∃ g,e=ϱ (ϖ g)/\RN (Laid N l) n y g (η t)[j].sub/\Devl V A N C l z y/\y.heap[G]?=some (qE7 V (B+meas (λm:Lnk (Tn n)=>qB6 n m.sub) ((η t).take j)+1) (qI5 k (((η t).take j).flatMap λm=>cont n m.sub)))/\Kp [A,G] W y):=λW h1 h2 h3=>by
     rw[b0];exact xZ9 V A N C l z hN cs cj ck n b' d[j].s (η t)[j].sub G q _ _ _ _ W h1 ax h2 h3 oM oM bj.2.1 (by have:=zN8 ax;omega)
    have ar:Hid (∀ W g,Devl V A N C l z W->W.heap[G]?=some (qE7 V (B+meas (λm:Lnk (Tn n)=>qB6 n m.sub) ((η t).take j)+1) (qI5 k (((η t).take j).flatMap λm=>cont n m.sub)))->RN (Laid N l) n W g (η t)[j].sub->Ω 210 #[ϖ G,.agg #[.string d[j].key,ϊ d[j].b,.int .u64 d[j].s,.pointer d[j].ptr],ϖ g] W λe y=>e=ϱ (.tuple #[])/\y.heap[G]?=some (qE7 V (B+meas (λm:Lnk (Tn n)=>qB6 n m.sub) ((η t).take (j+1))) (qI5 k (((η t).take (j+1)).flatMap λm=>cont n m.sub)))/\Devl V A N C l z y/\Kp [A,G] W y):=λW g h1 h2 h3=>by
     have h:=IH (η t)[j].sub g G d[j] _ _ b' d[j].s W h1 h2 h3 ax (by rw[av];exact bj.1) (λp hp=>zL7 (.inl (cg p (bf p hp).2)) λq H=>qN6 (be q H) (bf p hp).1) oM oM;rw[jK3,<-b3] at h;refine h.mono ?_;rintro e y ⟨e1,e2,e3⟩;refine⟨e1,?_,e3⟩;rw[e2]
     congr 2
     omega
    have b9:0<j->kl (qI5 k (((η t).take j).flatMap λm=>cont n m.sub)) d[j].key=true:=λh0=>by rw[av];exact zL7 (.inr (bu h0)) be
    have b7:j=0->d[j].key=lh.key:=λh0=>by
     rw[av];refine a8.head _ ?_;show (η t)[j]∈(η t).head?;rw[List.head?_eq_getElem?];subst h0;exact gQ Q
    obtain⟨gb,a5,c5,cur,fr,hv,cl,a4,b1⟩:=ci.out.link oM;obtain⟨c0,c1,c2,c3⟩:=b1 j ay;simp only[vJ,true_and] at hv;obtain⟨rfl,rfl⟩:=hv;have F:=P.out.heap a4 (by simp;exact⟨by obtain⟨c,h⟩:=HD.out.hA;exact ω a4 h dC,ω a4 HG dC⟩);have X:=ξ F (a5+j*4);rw[c0] at X;have Y:=ξ F (a5+j*4+1);rw[c1] at Y;have Z:=ξ F (a5+j*4+2);rw[c2] at Z;have a3:=ξ F (a5+j*4+3);rw[c3] at a3;have b5:=ζ F;have co:(j:Int)<(d.length:Int):=oM
    have ba:=zh b9;have bp:=zh b7;clear c0 c1 c2 c3 F b1 cl a4 b9 b7 b3 ak cu ct bj be bu bf ax b0 cv av;obtain⟨kk,aw⟩:∃ x,x=qI5 k (((η t).take j).flatMap λm=>cont n m.sub):=⟨_,rfl⟩;obtain⟨bm,bi⟩:∃ x:Int,x=B+meas (λm:Lnk (Tn n)=>qB6 n m.sub) ((η t).take j):=⟨_,rfl⟩;obtain⟨k2,bk⟩:∃ x,x=qI5 k (((η t).take (j+1)).flatMap λm=>cont n m.sub):=⟨_,rfl⟩;obtain⟨b2,bh⟩:∃ x:Int,x=B+meas (λm:Lnk (Tn n)=>qB6 n m.sub) ((η t).take (j+1)):=⟨_,rfl⟩;rw[<-aw,<-bi] at ao R;rw[<-aw,<-bi,<-bk,<-bh] at ar;rw[<-aw] at ba;have ap:=zh (n2 bk bh);clear aw bi bk bh;generalize d[j]=hx at ao ar ba bp X Y Z a3;have I:=zh ay;clear ay hj;by_cases b8:j=0
    .have bn:=bp.out b8;subst b8;simp only[Nat.zero_mul,Nat.add_zero] at X Y Z a3;have bz:=bc.out;have p0:=ξ bz 0;simp only[zG,zH,zI] at p0;rw[<-bn] at p0;clear bz;have c4:=zh bn;clear bn;go_wp2_with fail;obtain⟨w1,al,D,o,cy⟩:=qF7 wr (.cells (ϡ hx) 87);rw[<-al];clear al X Y Z a3 b5;have aq:=Hid.mk' (o.hp R);have bb:=zh (o.hp bc);have an:=zh D;have a6:=zh (qF8 a7 o (by intro k v;cases v));have bd:=zh (o.heap (P.heap HQ (by simp[ca,cb])) sM);have a9:=zh (P.tr o);clear D o;clear p0;refine (qU1 w1).mono ?_;rintro e cz ⟨rfl,hw⟩;rw[hw];clear hw cz;go_wp2_with fail;obtain⟨E,am,ah⟩:∃ E,E=w1/\Kp [] w1 E:=⟨_,rfl,kF⟩;rw[<-am];clear am;have r:=ah.drew;have ag:=r.hp aq.out;have f:=r.hp an.out;have ac:=qF8 a6 r (by intro k v;cases v);have ai:=r.hp bd.out;refine wp_region_held_drew (S:=λW=>W.heap[wr.heap.size]?=some (.cells (ϡ hx) 87)) kR f (λ_=>?_);refine zP 0 G 0 f ?_;refine zV 1 (.agg (ϡ hx)) rfl (λW hS=>by have a:=ξ hS;clear hS;go_simp) f ?_;refine zP 2 G 0 f ?_;refine zP 3 q 0 f ?_;refine zP 4 wr.heap.size 1 f ?_;refine zW 5 (.agg #[ϊ hx.b,.int .u64 hx.s]) f id ?_;refine zq 6 λK hK=>?_;go_simp;refine (show Calls _ _ _ _ _ from ao E.drew ac ag ai).mono ?_;rintro e w2 ⟨g,rfl,aj,aa,ae,J⟩;have O:=J.ho f;refine zk hK O ?_
     refine zq 7 λK hK=>?_;go_simp;refine (show Calls _ _ _ _ _ from ar w2 g aa ae aj).mono ?_;rintro e u ⟨rfl,af,ab,M⟩;refine hK.out _ _ (M.ho O) (λ_=>?_);refine zd ?_
     try simp only[zZ]
     have HE:Hid (u.heap[G]?=some (qE7 V b2 k2)/\Devl V A N C l z u/\u.heap[w.heap.size]?=some (.cells (ϡ lh) 87)/\Kp [A,G] w u/\w.heap.size<u.heap.size):=by
      have L:Kp [A,G] w1 u:=((r.mono sM).tr J).tr M;exact⟨af,ab,L.ho bb,a9.tr L,by have:=L.size;omega⟩
     clear af ab M O aj aa ae J f ac ai ag r ah;go_wp2
     try rw[bt.out]
     obtain⟨f1,f2,f3,f4,f5⟩:=HE.out;rw[ap.out.1,ap.out.2] at f1;have cr:=U.out.2;have cq:=I.out;exact⟨⟨0+1,by have:=I.out;omega,by go_num,f5,f1,f2,f3,f4⟩,by have:=I.out;simp[intOf];omega⟩
    .have dd:¬(j:Int)=0:=oM
     have b6:=ba.out oM;obtain⟨cm,cn⟩:=xE4 b6;clear b6;go_wp2_with fail;obtain⟨w1,al,D,o,cy⟩:=qF7 wr (.cells (ϡ hx) 87);rw[<-al];clear al X Y Z a3 b5;have aq:=Hid.mk' (o.hp R);have bb:=zh (o.hp bc);have an:=zh D;have a6:=zh (qF8 a7 o (by intro k v;cases v));have bd:=zh (o.heap (P.heap HQ (by simp[ca,cb])) sM);have a9:=zh (P.tr o);clear D o;have ad:=aq.out;have D:=an.out;have c8:=ζ ad;have c6:=ζ D;have g0:=ξ ad 0;have g1:=ξ ad 1;have g2:=ξ ad 2;simp only[qE7,zG,zH,zI] at g0 g1 g2;have z0:=ξ D;clear ad D
     go_quiet (first | (go_at_call 253;exact Calls.quiet_of_same (qU1 _)))
     clear cm cn g0 g1 g2 z0;go_wp2_with fail;have bt:Hid (wrap64 ((j:Int)+1)=(j:Int)+1):=by show wrap64 ((j:Int)+1)=(j:Int)+1;have:=I.out;have:=U.out.2;simp only[wrap64];omega
     obtain⟨E,am,ah⟩:∃ E,E=w1.drewN nq/\Kp [] w1 E:=⟨_,rfl,(kF.drewN _)⟩;rw[<-am];clear am;have r:=ah.drew;have ag:=r.hp aq.out;have f:=r.hp an.out;have ac:=qF8 a6 r (by intro k v;cases v);have ai:=r.hp bd.out;refine wp_region_held_drew (S:=λW=>W.heap[wr.heap.size]?=some (.cells (ϡ hx) 87)) kR f (λ_=>?_);refine zP 0 G 0 f ?_;refine zV 1 (.agg (ϡ hx)) rfl (λW hS=>by have a:=ξ hS;clear hS;go_simp) f ?_;refine zP 2 G 0 f ?_;refine zP 3 q 0 f ?_;refine zP 4 wr.heap.size 1 f ?_;refine zW 5 (.agg #[ϊ hx.b,.int .u64 hx.s]) f id ?_;refine zq 6 λK hK=>?_;go_simp;refine (show Calls _ _ _ _ _ from ao E.drew ac ag ai).mono ?_;rintro e w2 ⟨g,rfl,aj,aa,ae,J⟩;have O:=J.ho f;refine zk hK O ?_
     refine zq 7 λK hK=>?_;go_simp;refine (show Calls _ _ _ _ _ from ar w2 g aa ae aj).mono ?_;rintro e u ⟨rfl,af,ab,M⟩;refine hK.out _ _ (M.ho O) (λ_=>?_);refine zd ?_
     try simp only[zZ]
     have HE:Hid (u.heap[G]?=some (qE7 V b2 k2)/\Devl V A N C l z u/\u.heap[w.heap.size]?=some (.cells (ϡ lh) 87)/\Kp [A,G] w u/\w.heap.size<u.heap.size):=by
      have L:Kp [A,G] w1 u:=((r.mono sM).tr J).tr M;exact⟨af,ab,L.ho bb,a9.tr L,by have:=L.size;omega⟩
     clear af ab M O aj aa ae J f ac ai ag r ah;go_wp2
     try rw[bt.out]
     obtain⟨f1,f2,f3,f4,f5⟩:=HE.out;rw[ap.out.1,ap.out.2] at f1;have cr:=U.out.2;have cq:=I.out;exact⟨⟨j+1,by have:=I.out;omega,by go_num,f5,f1,f2,f3,f4⟩,by have:=I.out;simp[intOf];omega⟩
   .have co:¬(j:Int)<(d.length:Int):=oM
    have e:(η t).take j=η t:=tL (by have:=U.out;omega);have bg:=R.out;rw[e] at bg;have cf:=Hid.mk' bg;clear e bg R;go_wp2
    go_end0
    exact⟨rfl,cf,a7,P⟩
theorem xR0(V A N C:Nat)(l:List UInt8)(a:Int)(c:N<=1000)(e:N*128<=l.length)(b:C≠A)(d:V≠A):∀ n,zC5 V A N C l a n
 | 0=>kR2 V A N C l a
 | n+1=>kR3 V A N C l a c e b d n (xR0 V A N C l a c e b d n)
theorem jV5{k}(h:1<=k.size):kl ⟨#[]⟩ k=true:=by
 by_cases e:kl ⟨#[]⟩ k=true
 .exact e
 .have c:=qZ2 (a:=⟨#[]⟩) (b:=k) (by simpa using e) (qN5 k);rw[<-c] at h;exact absurd h dC
theorem kO1(V A N C:Nat)(l)(f:Int)(r:N<=1000)(u:N*128<=l.length)(m:C≠A)(t:V≠A)(n b:Nat)(s:Int)(L)(w)(E:Devl V A N C l f w)(g:Laid N l n b s L.sub)(Z:L.ref=some (b,s))(j:RGood (.at n L))(ah:qB6 n L.sub<=100000):
  Calls prog 144 #[τ V ⟨⟨#[]⟩,b,s,none⟩] w λe d=>e=.returned (.int .i64 (qB6 n L.sub))/\Devl V A N C l f d/\Kp [A] w d:=by
 have Y:Lie N l b s (.at n L):=⟨b,rfl,Z,g⟩;have H:=j.1;have J:Hid (∀ W,Kp [] w W->Ω 92 #[τ V ⟨⟨#[]⟩,b,s,none⟩] W λe d=>e=ϱ (.bool false)/\Kp [] W d):=λW hW=>by
  have hr:RR (EL V A N C l f r u m t).toEnv W ⟨⟨#[]⟩,b,s,none⟩ (.at n L):=Y.rr j W;exact qV1 (EL V A N C l f r u m t).toEnv n ⟨⟨#[]⟩,b,s,none⟩ L W hr H
 have F:Good n ⟨#[]⟩ L.sub:=by have:=j.2.1;rw[H] at this;exact this
 have ab:=zh (λW G v x=>jI2 V A N C l f r u m t n b s L.sub G 0 ⟨#[]⟩ W v g x oM oM j.2.2 (by have:=zN8 g;omega));have ad:Hid (∀ W G q,Devl V A N C l f W->W.heap[G]?=some (qE7 V (0+1) ⟨#[]⟩)->RN (Laid N l) n W q L.sub->Ω 210 #[ϖ G,.agg #[.string ⟨#[]⟩,ϊ b,.int .u64 s,.pointer none],ϖ q] W λe d=>e=ϱ (.tuple #[])/\(∃ k,d.heap[G]?=some (qE7 V (qB6 n L.sub) k))/\Devl V A N C l f d/\Kp [A,G] W d):=λW G q v x h3=>by
  have h:=xR0 V A N C l f r u m t n L.sub q G ⟨⟨#[]⟩,b,s,none⟩ _ _ b s W v x h3 g F (λp hp=>jV5 ((qK9 n _ _ F).2 p hp).1.1) oM oM;refine h.mono ?_;rintro e d ⟨e1,e2,e3⟩;refine⟨e1,⟨qI5 ⟨#[]⟩ (cont n L.sub),?_⟩,e3⟩;rw[e2]
  congr 2
  omega
 have HD:=zh E;have af:A<w.heap.size:=by obtain⟨c,h⟩:=E.hA;exact ζ h
 clear E g Z j F Y H;rw[show τ V ⟨⟨#[]⟩,b,s,none⟩=.agg #[ϖ V,.string ⟨#[]⟩,ϊ b,.int .u64 s,.pointer none] from rfl] at J |-;go_enter func144,ntmps144;go_wp2_with fail;obtain⟨w0,I,U,Q,y,ae⟩:=alC w (.cells #[ϖ V,.string ⟨#[]⟩,ϊ b,.int .u64 s,.pointer none] 89) (qE7 V 0 ⟨#[]⟩)
 rw[qE7] at I;rw[<-I];clear I;refine (show Calls _ _ _ _ _ from J w0 y).mono ?_;rintro e w1 ⟨rfl,o⟩;have ac:=zh (o.hp U);have aa:=zh (o.hp Q);have M:=zh (y.tr o);clear y o U Q ae;go_wp2_with fail;have B:Kp [] w1 w1.drew:=(Kp.refl [] _).drew;have P:=qF8 HD (M.tr B) (by intro k hk;cases hk);have a:w1.drew.heap[w.heap.size]?=some (.cells #[ϖ V,.string ⟨#[]⟩,ϊ b,.int .u64 s,.pointer none] 89):=ac.out;refine wp_region_held_drew (S:=λW=>W.heap[w.heap.size]?=some (.cells #[ϖ V,.string ⟨#[]⟩,ϊ b,.int .u64 s,.pointer none] 89)) kR a (λ_=>?_);refine zU 0 (ϖ (w.heap.size+1)) a ?_;refine zP 1 w.heap.size 1 a ?_;refine zW 2 (.agg #[.string ⟨#[]⟩,ϊ b,.int .u64 s,.pointer none]) a id ?_;refine zU 3 (ϖ (w.heap.size+1)) a ?_;refine zP 4 w.heap.size 1 a ?_;refine zP 5 w.heap.size 2 a ?_;refine zW 6 (.agg #[ϊ b,.int .u64 s]) a id ?_;refine zq 7 λK hK=>?_;go_simp;refine (show Calls _ _ _ _ _ from ab w1.drew _ P aa).mono ?_;rintro e w2 ⟨q2,rfl,T,O,R,z⟩;have D:=z.ho a;refine zk hK D ?_
 refine zq 8 λK hK=>?_;go_simp;refine (show Calls _ _ _ _ _ from ad w2 _ q2 O R T).mono ?_;rintro e w3 ⟨rfl,⟨kx,hG3⟩,hD3,hK3⟩;refine hK.out _ _ (hK3.ho D) (λ_=>?_);refine zd ?_
 try simp only[zZ]
 have HE:=zh (n2 hD3 (((M.tr B).mono (S':=[A]) sM).trans (z.tr hK3) (by intro i X ai;simp at X |-;rcases X with h | h;exact h;omega)));have ag:=ζ hG3;have g1:=ξ hG3 1;simp only[qE7,zG,zH,zI] at g1;clear hG3 hD3 hK3 D T O R z a P B;go_wp2;go_ret;exact⟨rfl,HE⟩
def emp:DataW Unit:=.map []
structure Dvl(A n C:Nat)(l:List UInt8)(wr:Int)(w:World):Prop where
 hA:∃ calls,w.heap[A]?=some (qA8 (l.length / 128) n C (.slice none 0 0) calls wr)
 hC:w.heap[C]?=some (.cells (enc l) 115)
theorem kO2(V A N C:Nat)(l)(d:Int)(m:N<=1000)(s:N*128<=l.length)(j:C≠A)(p:V≠A)(rb rs:Int)(r)(w)(f:Devl V A N C l d w)(a:Lie N l rb rs r)(g:RGood r)(o:N<=400):
  Calls prog 144 #[τ V ⟨⟨#[]⟩,rb,rs,none⟩] w λe c=>e=.returned (.int .i64 (qC9 r))/\Devl V A N C l d c/\Kp [A] w c:=by
 have u:=(qZ9 a g o).1
 cases r with
 | none=>
  obtain⟨rfl,rfl⟩:=a;refine (jB7 V w).mono ?_;rintro e c ⟨rfl,hK⟩;exact⟨rfl,qF8 f hK (by intro k q;cases q),hK.mono sM⟩
 | «at» n L=>
  obtain⟨b,rfl,h,i⟩:=a;exact kO1 V A N C l d m s j p n b rs L w f i h g (by have t:qC9 (.at n L)=qB6 n L.sub:=rfl;omega)
theorem kE6(D X A n C:Nat)(x b:Int)(l)(N rb rs:Int)(r)(w)(hD:w.heap[D]?=some (.cells #[.iface 27 (.pointer (some ⟨A,0,none⟩))] 206))(hX:w.heap[X]?=some (.cells #[.pointer none] 28))(h:w.heap[A]?=some (qA8 (l.length / 128) n C (.slice none 0 0) x b))
  (R:8<=n) (Q:n<=400) (Z:w.heap[C]?=some (.cells (enc l) 115)) (F:n*128<=l.length) (s:C≠A) (ar:X≠A) (au:X≠C) (hh:Heads l N rb rs) (av:Lie n l rb rs r) (hg:RGood r):
  Calls prog 143 #[.pointer (some ⟨D,0,none⟩),.pointer (some ⟨X,0,none⟩)] w λe j=>e=.returned (.tuple #[])/\
   (∃ V M St v,w.heap.size<=V/\w.heap.size<=M/\w.heap.size<=St/\w.heap.size<=v/\Devl V A n C l b j/\j.heap[M]?=some (.map #[] 0)/\j.heap[St]?=some (θ 0 ⟨V,M,N,rb,rs,qC9 r,false,0,0⟩)/\j.heap[v]?=some (.cells #[.pointer (some ⟨St,0,none⟩)] 102)/\j.heap[X]?=some (.cells #[.pointer (some ⟨v,0,none⟩)] 28))/\Kp [A,C,X] w j:=by
 have bc:=ζ hD;have bj:=ζ hX;have hA:=ζ h;have bb:=ζ Z;have aw:=zh (λV W hv hd=>kO2 V A n C l b oM F s hv rb rs r W hd av hg Q);have HH:=zh hh;clear hh av hg;have c0:=ξ hD 0;simp at c0;go_enter func143,ntmps143;go_wp2_with fail;refine (zR1 A n C (.slice none 0 0) x b _ h R Q).mono ?_;rintro e w1 ⟨V,rfl,a7,t,o⟩;have S:=o.hp h;have y:=o.hp Z;have am:=o.hp hX;have E:Kp [A,C,X] w w1:=o.mono sM;have q:Hid (V≠A):=by show V≠A;omega
 have c:=zh (n2 ar au);clear o ar au;go_wp2_with fail;refine (kC8 V A n C x b l N rb rs w1 t S R oM y F s q HH).mono ?_;rintro e I ⟨rfl,T,f⟩;have ak:=f.heap t (by simp[q.out]);have an:=f.heap am (by simp[c.out.1]);have aa:=f.heap y (by simp[s]);have af:=E.trans f (by simp +contextual);have bl:=E.size;have bm:=f.size;have bf:=ζ t;clear f E S y t am c0;go_wp2_with fail;obtain⟨H,B⟩:=eX I.heap.size;rw[<-B];obtain⟨d,al,ag,ab,ao,z⟩:∃ d,d=I.alloc (.cells #[.int .u64 N,ϊ rb,.int .u64 rs] 166)/\Kp [A,C,X] w d/\Devl V A n C l b d/\Ϙ d X (.cells #[.pointer none] 28)/\Ϙ d H (.cells #[.int .u64 N,ϊ rb,.int .u64 rs] 166):=
  ⟨_,rfl,af.alloc _,⟨ν _ ak,⟨_,ν _ T⟩,ν _ aa⟩,ν _ an,by rw[B];exact υ _ _⟩
 rw[<-al];have bd:I.heap.size<=H:=oM
 clear al af T an ak B aa;have be:=ζ z;refine (zW0 V rb rs _).mono ?_;rintro e W4 ⟨rfl,g⟩;have ap:=g.hp ao;have ac:=qF8 ab g (by intro k hk;cases hk);have ad:=g.hp z;have ah:=ag.tr g;have bn:=g.size;clear g ao ab z ag;go_wp2_with fail;refine (aw V W4 q ac).mono ?_;rintro e J ⟨rfl,m,p⟩;have aq:=p.heap ap (by simp[c.out.1]);have ae:=p.ho ad;have ai:=ah.tr p;have bo:=p.size;obtain⟨K,Y⟩:=m.hA;clear p ap ac ad ah;go_wp2_with fail;refine (zS7 V A n C J.heap.size (.slice none 0 0) [] K b l J m.hV Y (wN _ _ _ _) sM sM oM m.hC F s).mono ?_;rintro e a ⟨rfl,ay,a0,i⟩;have a5:V≠C:=oM
 have u:=i.heap aq (by simp[c.out.1,c.out.2]);have a4:=i.heap m.hV (by simp[q.out,a5]);have a2:=i.ho ae;have aj:=ai.trans i (by simp +contextual);have bp:=i.size;have a9:Hid (X≠H):=by show X≠H;omega
 have ax:Hid (X≠V):=by show X≠V;omega
 have bq:=aj.size;clear i Y aq m ae ai;have bk:=@run_makeMap prog;have z0:=ξ a2;have x0:=ϻ u 0;have ba:=φ u 0;have bi:=ζ u;have bg:X<a.heap.size+1:=oM
 have bh:X<a.heap.size+1+1:=oM
 go_wp2
 go_end0
 obtain⟨U,hU,a3,az,a1,a6,a8,G⟩:∃ U,U=a.setCell ⟨X,0,none⟩ (ϖ (a.heap.size+1+1))/\Kp [A,C,X] w U/\Ϙ U A (qA8 (l.length / 128) n C (.slice none 0 0) (nx K) b)/\Ϙ U C (.cells (enc l) 115)/\Ϙ U V (qE4 A n)/\Ϙ U X (.cells #[ϖ (a.heap.size+1+1)] 28)/\U.heap.size=a.heap.size:=
  ⟨_,rfl,aj.sc _,(qB1 (λe=>c.1 e.symm) _ _).trans ay,(qB1 (λe=>c.2 e.symm) _ _).trans a0,(qB1 (λe=>ax e.symm) _ _).trans a4,μ u 0 _,by simp[World.setCell]⟩
 rw[<-hU];have L:=υ U (.map #[] 0);have O:=υ (U.alloc (.map #[] 0)) (θ 0 ⟨V,a.heap.size,N,rb,rs,qC9 r,false,0,0⟩);have P:=υ ((U.alloc (.map #[] 0)).alloc (θ 0 ⟨V,a.heap.size,N,rb,rs,qC9 r,false,0,0⟩)) (.cells #[ϖ (a.heap.size+1)] 102);rw[G] at L;rw[show (U.alloc (.map #[] 0)).heap.size=a.heap.size+1 from by simp[G]] at O;rw[show ((U.alloc (.map #[] 0)).alloc (θ 0 ⟨V,a.heap.size,N,rb,rs,qC9 r,false,0,0⟩)).heap.size=a.heap.size+1+1 from by simp[G]] at P;exact⟨rfl,⟨V,a.heap.size,a.heap.size+1,a.heap.size+1+1,a7,oM,oM,oM,⟨ν _ (ν _ (ν _ a6)),⟨_,ν _ (ν _ (ν _ az))⟩,ν _ (ν _ (ν _ a1))⟩,ν _ (ν _ L),ν _ O,P,ν _ (ν _ (ν _ a8))⟩,((a3.alloc _).alloc _).alloc _⟩
theorem kE7(D X A n C:Nat)(a c:Int)(l)(w)(i:w.heap[D]?=some (.cells #[.iface 27 (.pointer (some ⟨A,0,none⟩))] 206))(h:w.heap[A]?=some (qA8 (l.length / 128) n C (.slice none 0 0) a c))
  (f:8<=n) (q:n<=400) (g:w.heap[C]?=some (.cells (enc l) 115)) (y:n*128<=l.length) (t:C≠A) (o:qL2 l 0 none) (p:qL2 l 1 none):
  Calls prog 143 #[.pointer (some ⟨D,0,none⟩),.pointer (some ⟨X,0,none⟩)] w λe k=>e=qB5 (some 9)/\k.heap[A]?=some (qA8 (l.length / 128) n C (.slice none 0 0) (nx (nx a)) c)/\Kp [A] w k:=by
 have E:=ζ i;have z:=ζ h;have B:=ζ g;have c0:=ξ i 0;simp at c0;go_enter func143,ntmps143;go_wp2_with fail;refine (zR1 A n C (.slice none 0 0) a c _ h f q).mono ?_;rintro e w1 ⟨V,rfl,F,x,b⟩;have r:=b.hp h;have u:=b.hp g;have m:=hid (show V≠A by omega);go_wp2_with fail;have d:=hid (zP9 V A n C a c l none none w1 x r f oM u y t m o p);simp only[qK2,qN4,qI8,Option.isSome_none] at d;refine (show Calls _ _ _ _ _ from d).mono ?_;rintro e G ⟨rfl,s,j⟩;have v:=(b.mono (S':=[A]) sM).tr j;clear j b c0 d;go_wp2;exact⟨rfl,rfl,rfl,ν _ s,v.alloc _⟩
theorem zR7(A:Nat)(S)(R:Option Int->Option Addr->World->Prop)(w)(l:∀ i∈S,i<w.heap.size)
  (o:∀ D X W,W.heap[D]?=some (.cells #[.iface 27 (.pointer (some ⟨A,0,none⟩))] 206)->W.heap[X]?=some (.cells #[.pointer none] 28)->Kp [] w W->w.heap.size<=X->Calls prog 143 #[.pointer (some ⟨D,0,none⟩),.pointer (some ⟨X,0,none⟩)] W λe b=>∃ k a,e=qB5 k/\b.heap[X]?=some (.cells #[.pointer a] 28)/\R k a b/\Kp (X::S) W b):
  Calls prog 43 #[.pointer (some ⟨A,0,none⟩)] w λe b=>∃ k v a w1 B,e=.returned (.tuple #[.pointer a,v])/\ErrV b v k/\R k a w1/\w.heap.size<=B/\w1.heap[B]?=some (.cells #[.nilIface] 38)/\Kp [B] w1 b/\Kp S w b:=by
 have F:=zM;obtain⟨c,m,j,G,y,z⟩:∃ c,c=(w.alloc (.cells #[.iface 27 (ϖ A)] 206)).alloc (.cells #[.pointer none] 28)/\Kp [] w c/\c.heap.size=w.heap.size+2/\Ϙ c w.heap.size (.cells #[.iface 27 (ϖ A)] 206)/\c.heap[w.heap.size+1]?=some (.cells #[.pointer none] 28):=by
  refine⟨_,rfl,(kF.alloc _).alloc _,sM,ν _ (υ _ _),?_⟩;have e:=υ (w.alloc (.cells #[.iface 27 (ϖ A)] 206)) (.cells #[.pointer none] 28);simpa using e
 have g:=hid (zL1 143 #[ϖ w.heap.size,ϖ (w.heap.size+1)] ⟨#[79,112,101,110]⟩ c (λk b=>∃ a,b.heap[w.heap.size+1]?=some (.cells #[.pointer a] 28)/\R k a b) ((w.heap.size+1)::S) (λi d=>by rcases List.mem_cons.1 d with rfl | d;omega;have:=l i d;omega) (jA5 _) ((o _ _ _ (ν _ (ν _ y)) (ν _ (ν _ z)) ((j.alloc _).alloc _) oM).mono λe b ⟨k,a,s,t,u,x⟩=>⟨k,s,⟨a,t,u⟩,x⟩));clear o l;go_enter func43,ntmps43
 go_wp2_with (go_at_call 86;go_in)
 rw[<-m];clear m;refine (show Calls _ _ _ _ _ from g).mono ?_;rintro e f ⟨k,v,w1,rfl,hv,hF,⟨a,hx,hR⟩,hE,hK1,hK2⟩;have n:=hK2.ho hx;have E:=ξ n 0;simp at E;have r:=hid (show ∃ k p q w1 B,Ending.returned (.tuple #[.pointer a,v])=ϱ (.tuple #[.pointer q,p])/\ErrV f p k/\R k q w1/\w.heap.size<=B/\Ϙ w1 B (.cells #[.nilIface] 38)/\Kp [B] w1 f/\Kp S w f from⟨k,v,a,w1,c.heap.size+1,rfl,hv,hR,oM,hE,hK2,((j.mono (S':=(w.heap.size+1)::S) sM).trans hK1 (λ_ h _=>h)).trans hK2 (by intro i d C;simp at d;omega) |>.mono (by intro i d C;rcases List.mem_cons.1 d with rfl | h;omega;exact h)⟩);clear hv hR hE hK1 hK2 hF hx n g;go_wp2
 go_ret2
 exact r
def qS5(n:Nat)(l:List UInt8)(N:Int):Option Root→Prop
 | none=>qL2 l 0 none∧qL2 l 1 none∧N=0
 | some r=>∃ rb rs,Heads l N rb rs∧Lie n l rb rs r∧RGood r
theorem Dvl.kp{A n C:Nat}{l}{wr:Int}{w w'}{S}(h:Dvl A n C l wr w)(hK:Kp S w w')(d:A ∉ S)(e:C ∉ S):Dvl A n C l wr w':=by
 obtain⟨⟨c,a⟩,b⟩:=h;exact⟨⟨c,hK.heap a d⟩,hK.heap b e⟩
theorem Dvl.new{A n C B:Nat}{l}{wr:Int}{w w'}(h:Dvl A n C l wr w)(a:w.heap[B]?=some (.cells #[.nilIface] 38))(hK:Kp [B] w w'):Dvl A n C l wr w':=by
 obtain⟨c,b⟩:=h.hA;exact h.kp hK (by simpa using ω b a dC) (by simpa using ω h.hC a dC)
theorem xL8(A:Nat)(S)(R:Option Int->World->Prop)(w)(p:∀ i∈S,i<w.heap.size)
  (t:∀ D W,W.heap[D]?=some (.cells #[.iface 27 (.pointer (some ⟨A,0,none⟩))] 206)->Kp [] w W->Calls prog 138 #[.pointer (some ⟨D,0,none⟩)] W λe a=>∃ k,e=qB5 k/\R k a/\Kp S W a):
  Calls prog 42 #[.pointer (some ⟨A,0,none⟩)] w λe a=>∃ k v w1 B,e=.returned v/\ErrV a v k/\R k w1/\w1.heap[B]?=some (.cells #[.nilIface] 38)/\Kp [B] w1 a/\Kp S w a:=by
 have F:=zM;obtain⟨y,r,z,j,G⟩:=qF7 w (.cells #[.iface 27 (ϖ A)] 206);have f:=hid (zL1 138 #[ϖ w.heap.size] ⟨#[70,111,114,109,97,116]⟩ y R S (λi c=>by have:=p i c;omega) (jA4 _) (t _ _ (ν _ (ν _ z)) ((j.alloc _).alloc _)));clear t p;go_enter func42,ntmps42
 go_wp2_with (go_at_call 85;go_in)
 rw[<-r];clear r;refine (show Calls _ _ _ _ _ from f).mono ?_;rintro e d ⟨k,v,w1,rfl,s,E,o,g,m,b⟩;have x:=hid (show ∃ k u w1 B,Ending.returned v=ϱ u/\ErrV d u k/\R k w1/\Ϙ w1 B (.cells #[.nilIface] 38)/\Kp [B] w1 d/\Kp S w d from⟨k,v,w1,_,rfl,s,o,g,b,((j.mono (S':=S) sM).trans m (λ_ h _=>h)).trans b (by intro i c hlt;simp at c;omega)⟩);clear s o g m b E f;go_wp2;go_ret;exact x
section
variable {A n C:Nat} {l:List UInt8} {wr N:Int} {q:Option Root} {w:World}
theorem jP0(L:Dvl A n C l wr w)(o:n*128<=l.length)(P:8<=n->n<=400->qS5 n l N q)(J:0<=N)(K:N<=999999000):
  Calls prog 42 #[.pointer (some ⟨A,0,none⟩)] w λe b=>∃ v k,e=.returned v/\ErrV b v k/\Kp [A,C] w b/\
   ((k=none/\(8<=n/\n<=400)/\∃ t,Dvl A n C t (nx (nx wr)) b/\t.length=l.length/\qS5 n t (N+2) (some .none))\/(k=some 10/\¬(8<=n/\n<=400)/\Dvl A n C l wr b)):=by
 obtain⟨⟨u,g⟩,m⟩:=L;have I:=ω m g dC;have Q:=ζ g;have R:=ζ m;by_cases f:8<=n/\n<=400
 .obtain⟨c,d,a,rb,rs,E,F,G,H⟩:∃ c d a rb rs,qL2 l 0 c/\qL2 l 1 d/\qN4 (qK2 c d)=qI8 a rb rs/\a=N:=by
   have h:=P f.1 f.2
   cases q with
   | none=>exact⟨none,none,0,0,0,h.1,h.2.1,rfl,h.2.2.symm⟩
   | some r=>
    obtain⟨rb,rs,⟨c,d,h0,h1,h2⟩,_⟩:=h;exact⟨c,d,N,rb,rs,h0,h1,by rw[h2];rfl,rfl⟩
  subst H;obtain⟨i,x⟩:∃ i:Nat,(a+1) % 2=(i:Int):=⟨((a+1) % 2).toNat,oM⟩;obtain⟨j,y⟩:∃ j:Nat,(a+1+1) % 2=(j:Int):=⟨((a+1+1) % 2).toNat,oM⟩;have M:i<2:=oM
  have O:j<2:=oM
  have p:=qW9 l (qB8 (a+1) 0 0) i n (qJ1 _ _ _) o oM;have s:n*128<=(qD0 l i (qB8 (a+1) 0 0)).length:=by rw[p];exact o
  have z:=qW9 _ (qB8 (a+1+1) 0 0) j n (qJ1 _ _ _) s oM;refine (xL8 A [A,C] (λk b=>k=none/\Dvl A n C (qD0 (qD0 l i (qB8 (a+1) 0 0)) j (qB8 (a+1+1) 0 0)) (nx (nx wr)) b) w sO λD W hD hK=>(jO9 D A n C u wr l c d a rb rs W hD (hK.hp g) f.1 f.2 (hK.hp m) o I E F G J K i j x y).mono λe b ⟨h1,h2,h3,h4⟩=>⟨none,h1,⟨rfl,by rw[z,p];exact h2,h3⟩,h4⟩).mono ?_;rintro e b ⟨k,v,w1,B,rfl,hv,⟨rfl,hd1⟩,hB,hK1,hK⟩;refine⟨v,none,rfl,hv,hK,.inl ⟨rfl,f,_,hd1.new hB hK1,z.trans p,0,0,?_,⟨rfl,rfl⟩,trivial⟩⟩;rw[show a+2=a+1+1 by omega];refine Heads.made (i:=i) (j:=j) (rb:=0) (rs:=0) ?_ (qY2 _ _ j n (qJ1 _ _ _) s oM) M O ⟨x,oM,oM,dC,dC,dC,dC⟩ ⟨y,oM,oM,dC,dC,dC,dC⟩;rw[qY1 _ _ j i n (qJ1 _ _ _) s oM oM,qY2 l _ i n (qJ1 _ _ _) o oM]
 .refine (xL8 A [A,C] (λk b=>k=some 10/\Dvl A n C l wr b) w sO λD W hD hK=>(jO8 D A n C (.slice none 0 0) u wr W hD (hK.hp g) oM).mono λe b ⟨h1,h2⟩=>⟨some 10,h1,⟨rfl,⟨_,h2.heap (hK.hp g) sM⟩,h2.heap (hK.hp m) sM⟩,h2.mono sM⟩).mono ?_;rintro e b ⟨k,v,w1,B,rfl,hv,⟨rfl,hd1⟩,hB,hK1,hK⟩;exact⟨v,some 10,rfl,hv,hK,.inr ⟨rfl,f,hd1.new hB hK1⟩⟩
theorem Devl.new{V B:Nat}{w'}(h:Devl V A n C l wr w)(a:w.heap[B]?=some (.cells #[.nilIface] 38))(hK:Kp [B] w w'):Devl V A n C l wr w':=qF8 h hK (OffD.one a dC)
theorem kF1(F:Dvl A n C l wr w)(u:n*128<=l.length)(H:8<=n->n<=400->qS5 n l N q)(E:0<=N):
  Calls prog 43 #[.pointer (some ⟨A,0,none⟩)] w λe a=>∃ v k b,e=.returned (.tuple #[.pointer b,v])/\ErrV a v k/\Kp [A,C] w a/\
   ((k=none/\∃ r V M St m rb rs,q=some r/\b=some ⟨m,0,none⟩/\w.heap.size<=V/\w.heap.size<=M/\w.heap.size<=St/\w.heap.size<=m/\Sh a m St A C n 0 ⟨V,M,N,rb,rs,qC9 r,false,0,0⟩ emp l wr r)\/
    (k=some 9/\q=none/\(8<=n/\n<=400)/\b=none/\Dvl A n C l wr a)\/(k=some 10/\¬(8<=n/\n<=400)/\b=none/\Dvl A n C l wr a)):=by
 obtain⟨⟨j,d⟩,f⟩:=F;have o:=ω f d dC;have I:=ζ d;have J:=ζ f;by_cases c:8<=n/\n<=400
 .have h:=H c.1 c.2
  cases q with
  | none=>
   refine (zR7 A [A,C] (λk b a=>k=some 9/\b=none/\Dvl A n C l wr a) w sO λD X W hD hX hK hXs=>(kE7 D X A n C j wr l W hD (hK.hp d) c.1 c.2 (hK.hp f) u o h.1 h.2.1).mono λe a ⟨g,h2,h3⟩=>⟨some 9,none,g,h3.ho hX,⟨rfl,rfl,⟨_,h2⟩,h3.heap (hK.hp f) (by simpa using o)⟩,h3.mono (by simp +contextual)⟩).mono ?_;rintro e a ⟨k,v,b,w1,B,rfl,hv,⟨rfl,rfl,hd1⟩,hBs,hB,hK1,hK⟩;exact⟨v,_,_,rfl,hv,hK,.inr (.inl ⟨rfl,rfl,c,rfl,hd1.new hB hK1⟩)⟩
  | some r=>
   obtain⟨rb,rs,y,z,p⟩:=h;refine (zR7 A [A,C] (λk b a=>k=none/\∃ V M St Db,b=some ⟨Db,0,none⟩/\w.heap.size<=V/\w.heap.size<=M/\w.heap.size<=St/\w.heap.size<=Db/\Devl V A n C l wr a/\a.heap[M]?=some (.map #[] 0)/\a.heap[St]?=some (θ 0 ⟨V,M,N,rb,rs,qC9 r,false,0,0⟩)/\a.heap[Db]?=some (.cells #[ϖ St] 102)) w sO λD X W hD hX hK hXs=>(kE6 D X A n C j wr l N rb rs r W hD hX (hK.hp d) c.1 c.2 (hK.hp f) u o oM oM y z p).mono ?_).mono ?_
   .rintro e a ⟨g,⟨V,M,St,Db,a1,a2,a3,a4,a5,a6,a7,a8,a9⟩,hK'⟩;have K:=hK.size;exact⟨none,_,g,a9,⟨rfl,V,M,St,Db,rfl,oM,oM,oM,oM,a5,a6,a7,a8⟩,hK'.mono (by intro i G _;simp at G |-;omega)⟩
   .rintro e a ⟨k,v,b,w1,B,rfl,hv,⟨rfl,V,M,St,Db,rfl,a1,a2,a3,a4,a5,a6,a7,a8⟩,hBs,hB,hK1,hK⟩;have t:M ∉ [B]:=by
     intro t;rw[mS t,hB] at a6;cases a6
    exact⟨v,none,_,rfl,hv,hK,.inl ⟨rfl,r,V,M,St,Db,rb,rs,rfl,rfl,a1,a2,a3,a4,{ hDb:=hK1.heap a8 (by simpa using ω a8 hB dC),hSt:=hK1.heap a7 (by simpa using ω a7 hB dC),po:=rfl,hM:=⟨#[],0,hK1.heap a6 t,⟨sM,MapKept.stamped_empty 0,sM⟩,lR,rfl⟩,m4:=by simp[emp,Maps.size],n1:=oM,dev:=a5.new hB hK1,N8:=c.1,N4:=c.2,len:=u,lie:=z,good:=p,heads:=y,bl0:=Int.natCast_nonneg _,bl1:=by have:=qW7 p;show ((qC9 r:Nat):Int)<=_;omega,sN0:=E,bg0:=iR _,kb:=λk s=>by simp[emp,Maps.has] at s,rd:=λx h s=>by simp[emp,Maps.has] at s }⟩⟩
 .refine (zR7 A [A,C] (λk b a=>k=some 10/\b=none/\Dvl A n C l wr a) w sO λD X W hD hX hK hXs=>(kE8 D X A n C (.slice none 0 0) j wr W hD (hK.hp d) oM).mono λe a ⟨g,h2⟩=>⟨some 10,none,g,h2.hp hX,⟨rfl,rfl,⟨_,h2.heap (hK.hp d) sM⟩,h2.heap (hK.hp f) sM⟩,h2.mono sM⟩).mono ?_;rintro e a ⟨k,v,b,w1,B,rfl,hv,⟨rfl,rfl,hd1⟩,hBs,hB,hK1,hK⟩;exact⟨v,_,_,rfl,hv,hK,.inr (.inr ⟨rfl,c,rfl,hd1.new hB hK1⟩)⟩
end
section
variable {w:World} {db St A C N nM:Nat} {s:Sto} {D:DataW Unit} {l:List UInt8} {wr:Int} {nw:Root}
theorem Sh.turn(a:Sh w db St A C N nM s D l wr nw){w'}{L}(hK:Kp L w w')(m:db ∉ L)(n:Devl s.V A N C l wr w'){s'}{b:Nat}{D'}(e:s'.V=s.V/\s'.N=s.N/\s'.rb=s.rb/\s'.rs=s.rs/\s'.bl=s.bl/\s'.po=s.po)
  (hSt:w'.heap[St]?=some (θ 0 s')) (hM:RM w' s'.V s'.M b D') (m4:Maps.size D'<=4) (n1:b<=1000000) (bg0:0<=s'.bg) (kb:∀ k,Maps.has D' k=true->∃ x,k=χ x/\1<=x/\x<=s'.bg)
  (rd:∀ x h,Maps.has D' (χ x)=true->(∀ zd,D'.atKey (χ x) zd=qG8 h)->h.p=none->h.key=⟨#[]⟩/\∃ r,Lie N l h.b h.s r/\RGood r):Sh w' db St A C N b s' D' l wr nw:=by
 obtain⟨i,c,d,f,g,j⟩:=e;exact { hDb:=hK.heap a.hDb m,hSt:=hSt,po:=by rw[j];exact a.po,hM:=hM,m4:=m4,n1:=n1,dev:=by rw[i];exact n,N8:=a.N8,N4:=a.N4,len:=a.len,lie:=by rw[d,f];exact a.lie,good:=a.good,heads:=by rw[c,d,f];exact a.heads,bl0:=by rw[g];exact a.bl0,bl1:=by rw[g];exact a.bl1,sN0:=by rw[c];exact a.sN0,bg0:=bg0,kb:=kb,rd:=rd }
theorem Sh.neDb(a:Sh w db St A C N nM s D l wr nw):db≠St/\db≠A/\db≠C/\db≠s.M:=by
 obtain⟨c,h⟩:=a.hA;exact⟨ω a.hDb a.hSt dC,ω a.hDb h dC,ω a.hDb a.dev.hC dC,qC5 a.hDb a.hM⟩
theorem Sh.quiet(a:Sh w db St A C N nM s D l wr nw){w'}{x:Nat}{c}(b:w.heap[x]?=some (.cells c 99))(hK:Kp [St,x,A] w w')(i:Devl s.V A N C l wr w')(h:w'.heap[St]?=some (θ 0 s)):Sh w' db St A C N nM s D l wr nw:=by
 obtain⟨j,n2,n3,n4⟩:=a.neDb;obtain⟨cA,g⟩:=a.hA;have d:=(qC5 a.hSt a.hM).symm;have e:=(qC5 b a.hM).symm;have f:=(qC5 g a.hM).symm;exact a.turn hK (by simp[j,n2];exact ω a.hDb b dC) i ⟨rfl,rfl,rfl,rfl,rfl,rfl⟩ h (a.hM.kp hK (by simp[d,e,f])) a.m4 a.n1 a.bg0 a.kb a.rd
theorem Sh.live(a:Sh w db St A C N nM s D l wr nw){x:Nat}{t}(hx:w.heap[x]?=some (qA1 t))(c:t.over=false)(d:t.on=some ⟨s.V,0,none⟩)(e:t.St=St)(b:t.h=⟨⟨#[]⟩,s.rb,s.rs,none⟩)(f:t.ch=0): LiveT a.E w x A N t s nw:=
 { hx:=hx,over:=c,on:=d,hSt:=by rw[e];exact a.hSt,po:=a.po,sV:=rfl,hV:=a.dev.hV,n1:=a.N1,bl0:=a.bl0,bl1:=by have:=a.bl1;have:=(qZ9 a.lie a.good a.N4).2;omega,dev:=a.dev,vS:=by show s.V ∉ [A];simpa using a.VA,rr:=by rw[b];exact a.lie.rr a.good w,good:=a.good,sz:=by have:=(qZ9 a.lie a.good a.N4).2;omega,ch0:=oM,ch1:=by omega }
theorem Sh.beginW(a:Sh w db St A C N nM s D l wr nw)(m:s.wr=0)(i:s.bg<=100000000):
  Calls prog 29 #[.pointer (some ⟨db,0,none⟩),.bool true] w λe b=>∃ x t,e=.returned (.tuple #[.pointer (some ⟨x,0,none⟩),.nilIface])/\w.heap.size<=x/\t.St=St/\t.nr=s.bg+1/\t.wrt=true/\t.ch=0/\t.h=⟨⟨#[]⟩,s.rb,s.rs,none⟩/\Kp [St] w b/\∃ c:Sh b db St A C N nM s.wrote D l wr nw,LiveT c.E b x A N t s.wrote nw:=by
 obtain⟨d,n2,n3,n4⟩:=a.neDb;have f:=(qC5 a.hSt a.hM).symm;refine (xX3 db St nM s D w a.hDb a.hSt a.hM a.po d f a.hM.lt m a.bg0 i).mono ?_;rintro e b ⟨x,rfl,o,n,h,g,hK⟩;have c:Sh b db St A C N nM s.wrote D l wr nw:=a.turn hK (by simpa using d) (qF8 a.dev hK (OffD.one a.hSt dC)) ⟨rfl,rfl,rfl,rfl,rfl,rfl⟩ h g a.m4 a.n1 (by show 0<=s.bg+1;have:=a.bg0;omega) (λk j=>by obtain⟨y,e1,e2,e3⟩:=a.kb k j;exact⟨y,e1,e2,by show y<=s.bg+1;omega⟩) a.rd;exact⟨x,_,rfl,o,rfl,rfl,rfl,rfl,rfl,hK,c,c.live n rfl rfl rfl rfl rfl⟩
theorem Sh.beginR(a:Sh w db St A C N nM s D l wr nw)(r:Maps.size D<4)(I:nM<=999999)(z:s.bg<=100000000):
  Calls prog 29 #[.pointer (some ⟨db,0,none⟩),.bool false] w λe b=>∃ x t D',e=.returned (.tuple #[.pointer (some ⟨x,0,none⟩),.nilIface])/\w.heap.size<=x/\t.St=St/\t.nr=s.bg+1/\t.wrt=false/\t.ch=0/\t.h=⟨⟨#[]⟩,s.rb,s.rs,none⟩/\Kp [St,s.M] w b/\D'=D.put (χ (s.bg+1)) (qG8 ⟨⟨#[]⟩,s.rb,s.rs,none⟩)/\∃ d:Sh b db St A C N (nM+1) s.read D' l wr nw,LiveT d.E b x A N t s.read nw:=by
 obtain⟨n,n2,n3,n4⟩:=a.neDb;have q:=(qC5 a.hSt a.hM).symm;refine (xX2 db St nM s D w a.hDb a.hSt a.hM a.po n q n4 a.hM.lt r oM a.bg0 z).mono ?_;rintro e b ⟨x,rfl,G,F,v,u,hK⟩;have E:=(OffD.one a.hSt dC).cons (λk f c J H e=>by rw[mS f] at e;exact absurd rfl (qC5 e a.hM));have B:Maps.has D (χ (s.bg+1))=false:=by
  cases hh:Maps.has D (χ (s.bg+1)) with
  | false=>rfl
  | true=>obtain⟨y,g,i,o⟩:=a.kb _ hh;cases g;omega
 have m:=a.hM.tidy qM4;have d:Sh b db St A C N (nM+1) s.read (D.put (χ (s.bg+1)) (qG8 ⟨⟨#[]⟩,s.rb,s.rs,none⟩)) l wr nw:=by
  refine a.turn hK (by simp[n,n4]) (qF8 a.dev hK E) ⟨rfl,rfl,rfl,rfl,rfl,rfl⟩ v u ?_ oM (by show 0<=s.bg+1;have:=a.bg0;omega) (λk f=>?_) (λy h g1 g2 g3=>?_)
  .rw[Maps.size_put m,if_neg (by simp[B])];omega
  .by_cases e:k=χ (s.bg+1)
   .exact⟨s.bg+1,e,by have:=a.bg0;omega,iR _⟩
   .rw[Maps.has_put_other e] at f;obtain⟨y,g,i,o⟩:=a.kb k f;exact⟨y,g,i,by show y<=s.bg+1;omega⟩
  .by_cases e:χ y=χ (s.bg+1)
   .rw[e] at g2;have j:=g2 (.lit (.int .i64 0));rw[Maps.atKey_put_same m.isMap (show WideAt.IsKeyLit (χ _) from trivial)] at j;have p:=zT5 j.symm g3 rfl;rw[p];exact⟨rfl,nw,a.lie,a.good⟩
   .rw[Maps.has_put_other e] at g1;exact a.rd y h g1 (λzd=>by rw[<-g2 zd,Maps.atKey_put_other e]) g3
 exact⟨x,_,_,rfl,G,rfl,rfl,rfl,rfl,rfl,hK,rfl,d,d.live F rfl rfl rfl rfl rfl⟩
theorem Sh.leave(F:Nat)(a:Sh w db St A C N nM s D l wr nw){x:Nat}{t}{r}(f:LiveT a.E w x A N t s r)(n:t.St=St)(j:Calls prog F #[.pointer (some ⟨x,0,none⟩)] w λe b=>e=.returned .nilIface/\b.heap[x]?=some (qA1 t.ended)/\b.heap[t.St]?=some (θ 0 (s.left t.nr))/\RM b s.V s.M nM (D.del (χ t.nr))/\Kp [t.St,x,s.M] w b):
  Calls prog F #[.pointer (some ⟨x,0,none⟩)] w λe b=>e=.returned .nilIface/\b.heap[x]?=some (qA1 t.ended)/\Sh b db St A C N nM (s.left t.nr) (D.del (χ t.nr)) l wr nw/\Kp [St,x,s.M] w b:=by
 subst n;obtain⟨q,n2,n3,n4⟩:=a.neDb;have m:=(OffD.one f.hSt dC).cons ((OffD.one f.hx dC).cons (λk d c v u e=>by rw[mS d] at e;exact absurd rfl (qC5 e a.hM)));refine j.mono ?_;rintro e b ⟨rfl,p,i,g,hK⟩;have o:=a.hM.tidy qM4;refine⟨rfl,p,a.turn hK (by simp[q,n4];exact ω a.hDb f.hx dC) (qF8 a.dev hK m) ⟨rfl,rfl,rfl,rfl,rfl,rfl⟩ i g ?_ a.n1 a.bg0 (λk d=>?_) (λy h g1 g2 g3=>?_),hK⟩
 .have:=Maps.size_del (k:=χ t.nr) o;have:=a.m4;omega
 .by_cases e:k=χ t.nr
  .rw[e,Maps.has_del_same] at d;cases d
  .rw[Maps.has_del_other e] at d;exact a.kb k d
 .by_cases e:χ y=χ t.nr
  .rw[e,Maps.has_del_same] at g1;cases g1
  .rw[Maps.has_del_other e] at g1;exact a.rd y h g1 (λzd=>by rw[<-g2 zd,Maps.atKey_del_other e]) g3
theorem Sh.abort(a:Sh w db St A C N nM s D l wr nw){x:Nat}{t}{r}(b:LiveT a.E w x A N t s r)(d:t.St=St)(f:0<=t.nr)(g:t.nr<=1000000000):
  Calls prog 36 #[.pointer (some ⟨x,0,none⟩)] w λe c=>e=.returned .nilIface/\c.heap[x]?=some (qA1 t.ended)/\Sh c db St A C N nM (s.left t.nr) (D.del (χ t.nr)) l wr nw/\Kp [St,x,s.M] w c:=
 a.leave _ b d (xS7 x nM t s D w b.hx b.over b.hSt a.po a.hM f g (by rw[d];exact (qC5 a.hSt a.hM).symm) b.xS (qC5 b.hx a.hM) a.hM.lt)
theorem Sh.commitR(a:Sh w db St A C N nM s D l wr nw){x:Nat}{t}{r}(b:LiveT a.E w x A N t s r)(d:t.St=St)(f:0<=t.nr)(g:t.nr<=1000000000)(h:t.wrt=false):
  Calls prog 31 #[.pointer (some ⟨x,0,none⟩)] w λe c=>e=.returned .nilIface/\c.heap[x]?=some (qA1 t.ended)/\Sh c db St A C N nM (s.left t.nr) (D.del (χ t.nr)) l wr nw/\Kp [St,x,s.M] w c:=
 a.leave _ b d (kO4 x nM s.V t s D w b.hx b.over b.hSt a.po a.hM f g (by rw[d];exact (qC5 a.hSt a.hM).symm) b.xS (qC5 b.hx a.hM) a.hM.lt b.on h)
theorem Sh.again(c:Sh w db St A C N nM s D l wr nw){w'}{x:Nat}{t}{r}(a:LiveT c.E w x A N t s r)(f:t.St=St)(b:BadT c.E w w' t s):∃ g:Sh w' db St A C N nM s D l wr nw,LiveT g.E w' x A N t s r:=by
 obtain⟨cA,e⟩:=c.hA;have d:Kp [t.St,A] w w':=b.kp;have h:Apt w [t.St,A] qF5:=(Apt.one a.hSt dC).cons (Apt.one e dC);refine⟨c.quiet a.hx (d.mono (by rw[f];intro i j _;simp at j |-;omega)) b.dev (by rw[<-f];exact b.hSt),?_⟩;exact { a with hx:=d.heap a.hx (by simp[a.xS,ω a.hx e dC]),hSt:=b.hSt,hV:=d.heap a.hV (by simp[ω a.hV a.hSt dC,ω a.hV e dC]),dev:=b.dev,rr:=a.rr.keepT d h }
end
end Go.Proofs.YtdohpenfkdckiaaGreatDoor
