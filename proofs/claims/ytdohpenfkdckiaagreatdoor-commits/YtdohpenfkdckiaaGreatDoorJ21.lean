import Derived.Test.YtdohpenfkdckiaaGreatDoorJ20
set_option linter.all false
set_option maxRecDepth 100000
set_option maxHeartbeats 20000000
namespace Go.Proofs.YtdohpenfkdckiaaGreatDoor
open Go.Proofs.Tryz
open Go.RowKit
def RowM(w:World)(base:Nat)(v:Value)(n:Nat):Prop:=∃ xs,(∀ u∈xs,∃ p a c,u=Value.slice p a c)∧w.ownsRow base 126 1 v n xs
theorem xM9{w:World}{base n:Nat}{v:Value}{xs:List Value}(h:w.ownsRow base 126 1 v n xs):xs.length=n:=by
 have:=h.1;omega
theorem RowM.kp{S}{w w'}{base:Nat}{v}{n:Nat}(h:RowM w base v n)(hK:Kp S w w')(g:∀ k c t a,w.heap[k]?=some (.cells c t a)->k∈S->t≠126):RowM w' base v n:=by
 obtain⟨xs,d,f⟩:=h;exact⟨xs,d,qF1 f hK λk c t a e i b=>g k c t a e i b⟩
theorem RowM.keep{S}{w w'}{base:Nat}{v}{n:Nat}(h:RowM w base v n)(hK:Kp S w w')(d:Apart w S 126):RowM w' base v n:=
 h.kp hK λk c t i e f=>by
  obtain⟨g,u,j,a,b⟩:=d k f;rw[e] at a;cases a;exact b
theorem RowM.le{w}{base a:Nat}{v}{n:Nat}(h:RowM w base v n)(d:a<=base):RowM w a v n:=by
 obtain⟨xs,b,c⟩:=h;exact⟨xs,b,qK4 c d⟩
theorem RowM.form{w}{base:Nat}{v}{n:Nat}(h:RowM w base v n):∃ p c,v=.slice p n c:=by
 obtain⟨xs,_,h⟩:=h;rcases h.2 with⟨b,a⟩|⟨g,cap,cur,a,_⟩
 .exact⟨none,0,by rw[b,a]⟩
 .exact⟨_,cap,a⟩
theorem RowM.form1{w}{base:Nat}{v}{n:Nat}(h:RowM w base v (n+1)):∃ g c,v=.slice (some ⟨g,0,none⟩) (n+1) c:=by
 obtain⟨xs,_,h⟩:=h;obtain⟨g,cap,h⟩:=qO0 h;exact⟨g,cap,h⟩
theorem RowM.alloc{w}{base:Nat}{v}{n:Nat}(h:RowM w base v n)(o):RowM (w.alloc o) base v n:=by
 obtain⟨xs,a,b⟩:=h;exact⟨xs,a,World.ownsRow.alloc b o⟩
theorem RowM.below{w}{base:Nat}{v}{n:Nat}(h:RowM w base v n):∀ k,v.ownBlock=some k->base<=k:=λk hk=>by
 obtain⟨xs,b,a⟩:=h;exact (World.ownsRow.lt a k hk).1
theorem kE5{xs:List Value}(h:∀ u∈xs,∃ p a c,u=Value.slice p a c):∀ u∈xs,u.oneCell'=true:=λu hu=>by
 obtain⟨p,a,c,rfl⟩:=h u hu;rfl
theorem xN5(w)(base:Nat)(v)(n:Nat)(ty)(h:RowM w base v n)(B:n<=1000000):
  ∃ b a,Sem.run prog (Builtin.append_ #[121,121] ty #[.slice none 0 0,v]) w=.ok b a/\RowM a w.heap.size b n/\Kp [] w a:=by
 obtain⟨o,f,k,l,m⟩:=info_parts zN1;obtain⟨xs,d,h⟩:=h;have A:=xM9 h;rcases h.2 with⟨e,c⟩|⟨g,cap,cur,c,r,s,t,x,y,z⟩
 .subst e;subst c;exact⟨_,_,kK6 w ty,⟨[],sM,sM,.inl ⟨rfl,rfl⟩⟩,Kp.refl _ _⟩
 .subst c;obtain⟨b,a,i,p,q,C⟩:=run_append_own (P:=prog) w w.heap.size 121 ty 126 o _ 1 24 underlying121 f k l m rfl dC (.slice none 0 0) 0 [] (World.ownsRow_nil _ _ _ _) ⟨g,0,none⟩ n cap xs oM (λj u hu=>World.ownsRow.cells h (g:=g) rfl j u hu) (kE5 d) (by unfold maxLen;omega) oM (Nat.le_refl _);refine⟨b,a,i,⟨xs,d,by simpa using p⟩,(Kp.refl [] w).grown q (by simp[Value.ownBlock])⟩
theorem xN6(w)(base g:Nat)(v)(n:Nat)(ty)(mp)(e d:Nat)(h:RowM w base v n)(y:n<=1000000)(i:w.heap[g]?=some (.cells #[.slice mp e d] 126))(f:base<=w.heap.size):
  ∃ c b,Sem.run prog (Builtin.append_ #[121,121] ty #[v,.slice (some ⟨g,0,none⟩) 1 1]) w=.ok c b/\RowM b base c (n+1)/\w.grownBy b v.ownBlock:=by
 obtain⟨r,k,o,p,q⟩:=info_parts zN1;obtain⟨xs,m,h⟩:=h;have x:=xM9 h;obtain⟨c,b,l,s,t,z⟩:=run_append_own (P:=prog) w base 121 ty 126 r _ 1 24 underlying121 k o p q rfl dC v n _ h ⟨g,0,none⟩ 1 1 [.slice mp e d] sM (λj u a=>by
  rw[qG4,ξ i];simpa using a) (by simp[Value.oneCell']) (by unfold maxLen;omega) oM f
 refine⟨c,b,l,⟨_,?_,s⟩,t⟩;intro u a;rcases List.mem_append.1 a with a|a
 .exact m u a
 .rw[List.mem_singleton.1 a];exact⟨_,_,_,rfl⟩
theorem kP8(base m q k cw:Nat)(pm pw)(n:Int)(e o l:Bool)(mp)(f d:Nat)(w)(V:RowM w base (.slice pm m q) m)(a:RowM w base (.slice pw k cw) k)(ar:m<=100000)(aq:k<=100000):
  Calls prog 130 #[.agg #[.int .i64 n,.slice pm m q,.bool e,.slice pw k cw,.bool o,.bool l],.agg #[.slice mp f d]] w λr w'=>∃ gm cm' gw cw',r=.returned (.agg #[.int .i64 n,.slice (some ⟨gm,0,none⟩) (m+1) cm',.bool e,.slice (some ⟨gw,0,none⟩) (k+1) cw',.bool o,.bool l])/\
   RowM w' w.heap.size (.slice (some ⟨gw,0,none⟩) (k+1) cw') (k+1)/\Kp [] w w':=by
 -- the three boxes
 obtain⟨J,P,u,G,H,x,am⟩:=alD w (.cells #[ϊ n,.slice pm m q,.bool e,.slice pw k cw,.bool o,.bool l] 123) (.cells #[.slice mp f d] 126) (.cells #[ϊ 0,.slice none 0 0,.bool false,.slice none 0 0,.bool false,.bool false] 123)
 have W:=V.keep x (by intro k h;simp at h);have T:=a.keep x (by intro k h;simp at h)
 -- the first two appends
 obtain⟨v1,w1,X,z,g⟩:=xN5 J base (.slice pm m q) m 121 W oM;obtain⟨p1,c1,rfl⟩:=z.form;have ac:=g.hp u;have K:=g.hp G;have af:=g.hp H;have al:=g.size;obtain⟨v2,w2,aj,Z,Q⟩:=xN6 (w1.alloc (.cells #[.slice mp f d] 126)) J.heap.size w1.heap.size (.slice p1 m c1) m 121 mp f d (z.alloc _) oM (υ _ _) sO;obtain⟨s,p,rfl⟩:=Z.form1;have i:=(g.alloc _).grown Q (λk a=>Or.inr (z.below k a));have t:=i.hp u;have L:=i.hp G;have O:=i.hp H;have ai:=T.keep i (by intro k h;simp at h)
 -- the first is kept
 obtain⟨c,ab,v,M,I,E,an⟩:∃ c,c=w2.setCell ⟨w.heap.size,1,none⟩ (.slice (some ⟨s,0,none⟩) (m+1) p)/\Ϙ c w.heap.size (.cells #[ϊ n,.slice (some ⟨s,0,none⟩) (m+1) p,.bool e,.slice pw k cw,.bool o,.bool l] 123)/\c.heap[w.heap.size+1]?=some (.cells #[.slice mp f d] 126)/\c.heap[w.heap.size+1+1]?=some (.cells #[ϊ 0,.slice none 0 0,.bool false,.slice none 0 0,.bool false,.bool false] 123)/\Kp [] w c/\c.heap.size=w2.heap.size:=
  ⟨_,rfl,μ t 1 _,(qB1 oM _ _).trans L,(qB1 oM _ _).trans O,(x.tr i).setCell (Or.inr sM) _,by simp[World.setCell]⟩
 have U:RowM c base (.slice pw k cw) k:=by
  refine a.keep E (by intro k h;simp at h)
 -- the other two
 obtain⟨v5,w5,Y,A,j⟩:=xN5 c base (.slice pw k cw) k 121 U oM;obtain⟨p5,c5,rfl⟩:=A.form;have ad:=j.hp v;have N:=j.hp M;have ag:=j.hp I;have ao:=j.size;obtain⟨v6,w6,ak,aa,R⟩:=xN6 (w5.alloc (.cells #[.slice mp f d] 126)) c.heap.size w5.heap.size (.slice p5 k c5) k 121 mp f d (A.alloc _) oM (υ _ _) sO;obtain⟨C,B,rfl⟩:=aa.form1;have F:=(j.alloc _).grown R (λk a=>Or.inr (A.below k a));have D:=F.hp v;have y:=F.hp I;have ae:=E.tr F;have ap:=E.size;have x1:=ξ u 1;have y0:=ξ K 0;have z1:=ξ t 1;have aw:=φ t 1;have u3:=ξ v 3;have t0:=ξ N 0;have q0:=ξ D;have r0:=ξ y;have av:=φ y;have au:=φ D 3;simp only[zG,zH,zI] at x1 y0 z1 u3 t0;rw[ab] at Y u3;rw[P] at X x1;clear V a W T ai U z Z A g i x j Q R ac K af t L O u G H v M I ad N ag al am an ao P ab;go_enter func130,ntmps130
 go_wp2_with (at_builtin;first | ((with_reducible refine qX5 ?_ ?_ X ?_);rfl;rfl) | ((with_reducible refine qX5 ?_ ?_ aj ?_);rfl;rfl) | ((with_reducible refine qX5 ?_ ?_ Y ?_);rfl;rfl) | ((with_reducible refine qX5 ?_ ?_ ak ?_);rfl;rfl))
 have ah:=(qB1 (w:=w6) (b:=w.heap.size) (k:=w.heap.size+1+1) oM 3 (.slice (some ⟨C,0,none⟩) (k+1) B)).trans y;refine bodyPost_ret (results_cell_row results130 _ _ (w.heap.size+1+1) 123 #[ϊ n,.slice (some ⟨s,0,none⟩) (m+1) p,.bool e,.slice (some ⟨C,0,none⟩) (k+1) B,.bool o,.bool l] (0,0) _ rfl (μ (μ (μ (μ (μ (μ ah 0 _) 1 _) 2 _) 3 _) 4 _) 5 _) underlying123 rfl kR) rfl ⟨s,p,C,B,rfl,?_,?_⟩
 .refine (aa.le ap).keep (S:=[w.heap.size,w.heap.size+1+1]) (((((((((Kp.refl _ w6).sc _).sc _).sc _).sc _).sc _).sc _).sc _)) ?_;intro k a;rcases List.mem_cons.1 a with rfl|a
  .exact⟨_,_,_,D,dC⟩
  .rw[mS a];exact⟨_,_,_,y,dC⟩
 .exact ((((((ae.setCell (Or.inr sM) _).setCell (Or.inr sO) _).setCell (Or.inr sO) _).setCell (Or.inr sO) _).setCell (Or.inr sO) _).setCell (Or.inr sO) _).setCell (Or.inr sO) _
theorem zR2(base m p k cw:Nat)(pm pw)(n:Int)(e d a:Bool)(mp)(g f:Nat)(w)(C:RowM w base (.slice pm m p) m)(q:RowM w base (.slice pw k cw) k)(O:m<=100000)(N:k<=100000):
  Calls prog 129 #[.agg #[.int .i64 n,.slice pm m p,.bool e,.slice pw k cw,.bool d,.bool a],.agg #[.slice mp g f]] w λr u=>∃ s c b,r=.returned (.agg #[.int .i64 n,.slice (some ⟨s,0,none⟩) 1 1,.bool false,.slice (some ⟨c,0,none⟩) (k+1) b,.bool d,.bool a])/\
   u.ownsRow w.heap.size 126 1 (.slice (some ⟨s,0,none⟩) 1 1) 1 [.slice mp g f]/\RowM u w.heap.size (.slice (some ⟨c,0,none⟩) (k+1) b) (k+1)/\Kp [] w u:=by
 obtain⟨H,A,I,y,z,t,E⟩:=alD w (.cells #[ϊ n,.slice pm m p,.bool e,.slice pw k cw,.bool d,.bool a] 123) (.cells #[.slice mp g f] 126) (.cells #[ϊ 0,.slice none 0 0,.bool false,.slice none 0 0,.bool false,.bool false] 123)
 have D:=C.keep t (by intro k h;simp at h);have B:=q.keep t (by intro k h;simp at h);clear C q;go_enter func129,ntmps129;go_wp2_with fail;rw[<-A];clear A;refine (kP8 base m p k cw pm pw n e d a mp g f H D B O N).mono ?_;rintro r w1 ⟨s,U,c,b,rfl,P,l⟩;have x:=l.hp y;have o:=l.hp z;have J:=t.tr l;have T:=zh l.size;have G:=zh E;clear D B l I y z E;have S:=ξ x 0;have Y:=ξ o;simp only[zG,zH,zI] at S;have V:=ζ x;have W:=ζ o;have Z:=φ o;go_wp2;obtain⟨j,F,L,v,R⟩:∃ j,j=(((((w1.setCell ⟨w.heap.size+1+1,0,none⟩ (ϊ n)).setCell ⟨w.heap.size+1+1,1,none⟩ (.slice (some ⟨w1.heap.size+1,0,none⟩) 1 1)).setCell ⟨w.heap.size+1+1,2,none⟩ (.bool false)).setCell ⟨w.heap.size+1+1,3,none⟩ (.slice (some ⟨c,0,none⟩) (k+1) b)).setCell ⟨w.heap.size+1+1,4,none⟩ (.bool d)).setCell ⟨w.heap.size+1+1,5,none⟩ (.bool a)/\j.heap[w.heap.size+1+1]?=some (.cells #[ϊ n,.slice (some ⟨w1.heap.size+1,0,none⟩) 1 1,.bool false,.slice (some ⟨c,0,none⟩) (k+1) b,.bool d,.bool a] 123)/\Kp [w.heap.size+1+1] w1 j/\j.heap.size=w1.heap.size:=
  ⟨_,rfl,μ (μ (μ (μ (μ (μ o 0 _) 1 _) 2 _) 3 _) 4 _) 5 _,((((((Kp.refl _ w1).sc _).sc _).sc _).sc _).sc _).sc _,by simp[World.setCell]⟩
 rw[<-F];clear F;have Q:=P.keep v (λk q=>by rw[mS q];exact⟨_,_,_,o,dC⟩);have K:=J.trans v (λi M X=>by simp at M;omega);refine bodyPost_ret (results_cell_row results129 _ _ (w.heap.size+1+1) 123 #[ϊ n,.slice (some ⟨w1.heap.size+1,0,none⟩) 1 1,.bool false,.slice (some ⟨c,0,none⟩) (k+1) b,.bool d,.bool a] (0,0) _ rfl (ν _ (ν _ L)) underlying123 rfl kR) rfl ⟨w1.heap.size+1,c,b,rfl,?_,((Q.alloc _).alloc _).le (by have:=G.out;omega),(K.alloc _).alloc _⟩;refine⟨sM,.inr ⟨w1.heap.size+1,1,#[.slice mp g f],rfl,oM,?_,lR,by unfold maxLen;omega,rfl,rfl⟩⟩;have e:=υ (j.alloc (.cells #[ϊ n,.slice (some ⟨w1.heap.size+1,0,none⟩) 1 1,.bool false,.slice (some ⟨c,0,none⟩) (k+1) b,.bool d,.bool a] 123)) (.cells #[.slice mp g f] 126);simpa [R] using e
theorem jR4(base g:Nat)(were mv lv)(n:Int)(e s k:Bool)(ps)(w)(d:w.ownsRow base 126 1 (.slice (some ⟨g,0,none⟩) 1 1) 1 [mv])(b:SPR w mv ps)(c:SPR w lv ps)(f:ps.length<=100000):
  Calls prog 190 #[.agg #[.int .i64 n,.slice (some ⟨g,0,none⟩) 1 1,.bool e,were,.bool s,.bool k],lv] w λr a=>r=.returned (.bool true)/\Kp [] w a:=by
 have c0:w.cell? ⟨g,0,none⟩=some mv:=by
  have:=World.ownsRow.cells d (g:=g) rfl 0 mv rfl
  rwa [qG4] at this
 have t:=(World.ownsRow.lt d g rfl).2;obtain⟨q,p,rfl⟩:=b.form;obtain⟨o,l,rfl⟩:=c.form;have i:=hid (show ∀ W,Kp [] w W->Ω 201 #[.slice q ps.length p,.slice o ps.length l] W λe a=>e=ϱ (.bool true)/\Kp [] W a from λW hK=>(xN1 _ _ ps ps W (b.keep0 hK) (c.keep0 hK) f f).mono λe a h=>⟨by rw[h.1];simp,h.2⟩);obtain⟨m,j⟩:=eX ps.length;rw[<-j] at i c0 |-;clear d b c j f;go_enter func190,ntmps190;go_wp2_with fail;refine wp_loop_rounds 1 ?_;rw[rounds_succ]
 go_wp2_with (go_at_call 201;refine (show Calls _ _ _ _ _ from i _ (kF.alloc _)).mono ?_;rintro r a ⟨rfl,hK⟩)
 go_ret;exact⟨rfl,(kF.alloc _).tr hK⟩
theorem kC4(x:Int)(w):Calls prog 296 #[.int .u64 x] w λe a=>e=.returned (.bool false)/\a=w:=by
 go_enter func296,ntmps296;go_wp2;go_ret;exact⟨rfl,rfl⟩
theorem jY4(x y:Int)(w):Calls prog 283 #[.int .u64 x,.int .u64 y] w λe a=>e=.returned (.bool (decide (x<y)))/\a=w:=by
 go_enter func283,ntmps283;go_wp2_with fail;refine (kC4 x w).mono ?_;rintro e w1 ⟨rfl,rfl⟩;go_wp2;go_ret;exact⟨rfl,rfl⟩
theorem jY3(x:Int)(a:0<=x)(b:x<12)(w):Calls prog 287 #[.int .u64 x] w λe d=>(∃ n,e=.returned (.int .i64 n))/\d=w:=by
 have c:x=0\/x=1\/x=2\/x=3\/x=4\/x=5\/x=6\/x=7\/x=8\/x=9\/x=10\/x=11:=oM
 rcases c with rfl|rfl|rfl|rfl|rfl|rfl|rfl|rfl|rfl|rfl|rfl|rfl <;>
 .clear a b;go_enter func287,ntmps287;go_wp2;go_ret;exact⟨⟨_,rfl⟩,rfl⟩
theorem xH2(x:Int)(a:0<=x)(b:x<12)(w):Calls prog 270 #[.int .u64 x] w λe c=>(∃ n,e=.returned (.int .i64 n))/\c=w:=by
 go_enter func270,ntmps270;go_wp2_with fail;refine (jY3 x a b w).mono ?_;rintro e w1 ⟨⟨n,rfl⟩,rfl⟩;go_wp2;go_ret;exact⟨⟨_,rfl⟩,rfl⟩
def RowU(w:World)(g:Nat)(ks:List Int)(c:Nat):Prop:=∃ cur,w.heap[g]?=some (.cells cur 78)∧cur.size=c∧∀ i (h:i<ks.length),cur[i]?=some (.int .u64 ks[i])
def qS7(w:World)(g:Nat)(ks:List Int)(c:Nat)(W:World):Prop:=∃ ks',ks'.Perm ks∧RowU W g ks' c∧Kp [g] w W
theorem jU1(g b:Nat)(ks:List Int)(w)(v:RowU w g ks b)(H:ks.length<=b)(E:ks.length<=12):
  Calls prog 277 #[.slice (some ⟨g,0,none⟩) ks.length b,.int .i64 0,.int .i64 ks.length] w λe I=>e=.returned (.tuple #[])/\qS7 w g ks b I:=by
 obtain⟨k,c⟩:=eX ks.length;rw[<-c];have z:=zh c;have C:=zh v;rw[<-c] at H E;clear c v;go_enter func277,ntmps277;go_wp2_with fail
 go_loopw [6] (λi wr=>∃ (j:Nat),1<=j/\j<=13/\i=.int .i64 j/\Hid (qS7 w g ks b wr)) (λi _=>(14-intOf i).toNat)
 case atStart=>exact⟨1,oM,oM,rfl,ks,List.Perm.refl _,C,Kp.refl _ _⟩
 case round=>
  obtain⟨j,N,O,rfl,r⟩:=hrel;by_cases Q:j<k
  .have G:(j:Int)<(k:Int):=oM
   go_wp2_with fail
   go_loopw [7] (λi wr=>∃ (m:Nat),m<=j/\i=.int .i64 m/\Hid (qS7 w g ks b wr)) (λi _=>(intOf i).toNat)
   case atStart=>exact⟨j,lR,rfl,r⟩
   case round=>
    obtain⟨m,S,rfl,s⟩:=hrel;by_cases R:0<m
    .have F:decide ((0:Int)<(m:Int))=true:=sO
     obtain⟨a,hp,⟨cur,hc,hsz,hcur⟩,hK⟩:=s.out;have P:=hp.length_eq;have c:=z.out;have x:=ξ hc m;rw[hcur m oM] at x;have y:=ξ hc (m-1);rw[hcur (m-1) oM] at y;have T:wrap64 ((m:Int)-1)=((m-1:Nat):Int):=by simp only[wrap64];omega
     have o:Hid (w.heap.size<=w.heap.size/\Ϙ wr g (.cells cur 78)):=⟨lR,hc⟩;have J:=φ hc m;have K:=φ hc (m-1);have M:=ζ hc;obtain⟨A,f⟩:=eX (a[m]'oM);obtain⟨B,h⟩:=eX (a[m-1]'oM);rw[<-f] at x;rw[<-h] at y;have l:Hid (A=a[m]'oM/\B=a[m-1]'oM):=⟨f,h⟩;have n:=zh hcur;have p:=zh hK;have q:=zh hp;clear hc hcur hK f h;go_wp2_with fail
     go_quiet (first | (go_at_call 283;refine Calls.quiet_of_same (jY4 _ _ _)))
     by_cases L:A<B
     .go_wp2_with fail
      go_region
      all_goals go_wp2_with fail
      refine⟨⟨m-1,oM,by congr 1;omega,?_⟩,by simp[intOf];omega⟩;refine⟨(a.set m B).set (m-1) A,?_,⟨(cur.setIfInBounds m (.int .u64 B)).setIfInBounds (m-1) (.int .u64 A),μ (μ (w:=wr.drewN (nq+1)) o.2 m (.int .u64 B)) (m-1) (.int .u64 A),by simp[hsz],?_⟩,?_⟩
      .rw[l.out.1,l.out.2];exact (List.set_set_perm oM oM).trans q
      .intro i u;simp only[List.length_set] at u;have D:=n.out i u;rw[Array.getElem?_setIfInBounds,Array.getElem?_setIfInBounds,List.getElem_set,List.getElem_set];by_cases d:m-1=i
       .subst d;simp[hsz];omega
       .by_cases t:m=i
        .subst t;simp[hsz,d];omega
        .simp[d,t,D]
      .exact (((p.drewN _).sc _).sc _)
     .go_wp2_with fail;refine⟨⟨j+1,oM,oM,by go_num,?_⟩,by simp[intOf];omega⟩;exact⟨a,q,⟨cur,o.2,hsz,n⟩,p.drewN _⟩
    .obtain rfl:m=0:=oM
     have F:decide ((0:Int)<((0:Nat):Int))=false:=sM
     go_wp2_with fail
     go_quiet (fail)
     go_wp2_with fail;obtain⟨a,hp,⟨cur,hc,hsz,hcur⟩,hK⟩:=s.out;refine⟨⟨j+1,oM,oM,by go_num,?_⟩,by simp[intOf];omega⟩;exact⟨a,hp,⟨cur,hc,hsz,hcur⟩,hK.drewN _⟩
  .have G:¬(j:Int)<(k:Int):=oM
   go_wp2
   go_end0
   exact⟨rfl,r⟩
theorem kH9(g c:Nat)(ks:List Int)(o:Int)(w)(l:RowU w g ks c)(k:ks.length<=c)(i:ks.length<=12):
  Calls prog 269 #[.slice (some ⟨g,0,none⟩) ks.length c,.int .i64 0,.int .i64 ks.length,.int .i64 o] w λe h=>e=.returned (.tuple #[])/\qS7 w g ks c h:=by
 obtain⟨d,f⟩:=eX ks.length;have m:Hid (Ω 277 #[.slice (some ⟨g,0,none⟩) d c,ϊ 0,ϊ d] w λe h=>e=ϱ (.tuple #[])/\qS7 w g ks c h):=by rw[f];exact jU1 g c ks w l k i
 rw[<-f];rw[<-f] at k i;clear f l;have q:wrap64 ((d:Int)-0)=(d:Int):=by simp only[wrap64];omega
 have p:(d:Int)<=12:=oM
 go_enter func269,ntmps269;go_wp2_with fail
 go_loopw [1,2] (λa b wr=>a=.int .i64 0/\b=.int .i64 d/\wr=w) (λ_ _ _=>0)
 case atStart=>exact⟨rfl,rfl,rfl⟩
 case round=>
  obtain⟨rfl,rfl,rfl⟩:=hrel;go_wp2_with fail;refine (show Calls _ _ _ _ _ from m).mono ?_;rintro e w1 ⟨rfl,j⟩;have n:=zh j;clear j;go_wp2;refine bodyPost_ret (results_none results269 _ _ _) rfl ?_;exact⟨rfl,n⟩
theorem kN1(g a:Nat)(ks:List Int)(w)(j:RowU w g ks a)(i:ks.length<=a)(m:ks.length<12):
  Calls prog 238 #[.slice (some ⟨g,0,none⟩) ks.length a] w λe f=>e=.returned (.tuple #[])/\qS7 w g ks a f:=by
 obtain⟨b,c⟩:=eX ks.length;have k:Hid (∀ d:Int,Ω 269 #[.slice (some ⟨g,0,none⟩) b a,ϊ 0,ϊ b,ϊ d] w λe f=>e=ϱ (.tuple #[])/\qS7 w g ks a f):=λd=>by rw[c];exact kH9 g a ks d w j i oM
 rw[<-c];rw[<-c] at i m;clear c j;have o:IntKind.u64.wrap (b:Int)=(b:Int):=by rw[IntKind.wrap_u64];omega
 go_enter func238,ntmps238;go_wp2_with fail;refine (xH2 (b:Int) oM oM w).mono ?_;rintro e w1 ⟨⟨n,rfl⟩,rfl⟩;go_wp2_with fail;refine (show Calls _ _ _ _ _ from k n).mono ?_;rintro e p ⟨rfl,h⟩;have l:=zh h;clear h;go_wp2
 go_end0
 exact⟨rfl,l⟩
theorem kN0(w):Calls prog 238 #[.slice none 0 0] w λe c=>e=.returned (.tuple #[])/\c=w:=by
 have d:Hid (Ω 277 #[.slice none 0 0,ϊ 0,ϊ 0] w λe c=>e=ϱ (.tuple #[])/\c=w):=by
  show Calls _ _ _ _ _;go_enter func277,ntmps277;go_wp2_with fail
  go_loopw [6] (λi wr=>i=.int .i64 1/\wr=w) (λi _=>0)
  case atStart=>exact⟨rfl,rfl⟩
  case round=>
   obtain⟨rfl,rfl⟩:=hrel;go_wp2
   go_end0
   exact⟨rfl,rfl⟩
 have g:Hid (∀ f:Int,Ω 269 #[.slice none 0 0,ϊ 0,ϊ 0,ϊ f] w λe c=>e=ϱ (.tuple #[])/\c=w):=by
  intro f;go_enter func269,ntmps269;go_wp2_with fail
  go_loopw [1,2] (λa b wr=>a=.int .i64 0/\b=.int .i64 0/\wr=w) (λ_ _ _=>0)
  case atStart=>exact⟨rfl,rfl,rfl⟩
  case round=>
   obtain⟨rfl,rfl,rfl⟩:=hrel;go_wp2_with fail;refine (show Calls _ _ _ _ _ from d.out).mono ?_;rintro e w1 ⟨rfl,rfl⟩;go_wp2;refine bodyPost_ret (results_none results269 _ _ _) rfl ?_;exact⟨rfl,rfl⟩
 clear d;go_enter func238,ntmps238;go_wp2_with fail;refine (xH2 0 oM oM w).mono ?_;rintro e w1 ⟨⟨n,rfl⟩,rfl⟩;go_wp2_with fail;refine (show Calls _ _ _ _ _ from g.out n).mono ?_;rintro e h ⟨rfl,rfl⟩;go_wp2
 go_end0
 exact⟨rfl,rfl⟩
end Go.Proofs.YtdohpenfkdckiaaGreatDoor
