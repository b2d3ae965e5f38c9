import Derived.Test.YtdohpenfkdckiaaGreatDoorJ22
set_option linter.all false
set_option maxRecDepth 100000
set_option maxHeartbeats 20000000
namespace Go.Proofs.YtdohpenfkdckiaaGreatDoor
open Go.Proofs.Tryz
open Go.RowKit
theorem jH3{P:Program}{a:Act}{w w'}{o:Oper}{s x:Operand}{t}{vs vx v'}(b:o.op=.call { callee:=.builtin .append,args:=#[s,x],argTypes:=#[t,t] })(d:a.eval s=vs)(e:a.eval x=vx)(c:Sem.run P (Builtin.append_ #[t,t] o.type #[vs,vx]) w=.ok v' w'):Sem.run P (execOp a.eval o) w=.ok (.value v') w':=by
 unfold execOp;simp only[b,resolve,invoke,builtin,Sem.run_bind,Sem.run_pure,Result.andThen_ok,List.map_toArray,List.map_cons,List.map_nil,d,e,c]
theorem xN2(l)(ps)(w)(E:SPA w l ps)(hn:ps.length<=100000):
  Calls prog 189 #[l] w λe w'=>∃ v,e=.returned v/\OPR w' w.heap.size v ps/\Kp [] w w':=by
 obtain⟨lb,Z,rfl⟩:=E.form;have HS:=zh E;clear E;go_enter func189,ntmps189;go_wp2_with fail
 go_loopw [3,4] (λo i wr=>∃ (j:Nat) (c:Option Addr) (d:Nat),j<=ps.length/\i=.int .i64 j/\o=.slice c j d/\OPR wr w.heap.size (.slice c j d) (ps.take j)/\Kp [] w wr) (λ_ i _=>ps.length-(intOf i).toNat)
 case atStart=>exact⟨0,none,0,zL _,rfl,rfl,OPR.nil _ _,Kp.refl _ _⟩
 case round=>
  obtain⟨j,c,d,hj,rfl,rfl,A,hK⟩:=hrel;have J:=zh A;have I:=zh hK;have af:=hK.size;by_cases Q:j<ps.length
  .have aa:(j:Int)<(ps.length:Int):=oM
   obtain⟨g,b,cap,cur,L,V,ac,G,P⟩:=(HS.keep0 hK).at oM;obtain⟨y,z⟩:=P j Q;simp only[vJ,true_and] at V;obtain⟨rfl,rfl⟩:=V;obtain⟨p,F⟩:=eY (ps[j]);rw[F] at y z;have HP:=zh F;have ad:=ζ G;have a:=G;clear P A hK F G;go_wp2_with fail;refine wp_region_held_drew (S:=λW=>Ϙ W g (.cells cur 42 L)) kR a (λ_=>?_);refine zU 0 (.slice c j d) a ?_;refine zU 1 (.slice (some ⟨g,b,none⟩) ps.length Z) a ?_;refine zU 2 (ϊ j) a ?_;refine zU 3 (.pointer (some ⟨g,b+j*2,none⟩)) a ?_;refine zU 4 (.pointer (some ⟨g,b+j*2,none⟩)) a ?_;refine zV 5 (.string p.k) rfl (λW m=>by have t:=ξ m (b+j*2);rw[y] at t;clear m;go_simp) a ?_;refine zU 6 (.slice (some ⟨g,b,none⟩) ps.length Z) a ?_;refine zU 7 (ϊ j) a ?_;refine zU 8 (.pointer (some ⟨g,b+j*2,none⟩)) a ?_;refine zU 9 (.pointer (some ⟨g,b+j*2+1,none⟩)) a ?_;refine zV 10 (.string p.v) rfl (λW m=>by have t:=ξ m (b+j*2+1);rw[z] at t;clear m;go_simp) a ?_;refine zU 11 (.agg #[.string p.k,.string p.v]) a ?_;obtain⟨f,Y,N,r,ae⟩:∃ f,f=World.drew (wr.alloc (.cells #[.string p.k,.string p.v] 284))/\Ϙ f wr.heap.size (.cells #[.string p.k,.string p.v] 284)/\Kp [] wr f/\f.heap.size=wr.heap.size+1:=
    ⟨_,rfl,υ wr _,((Kp.refl _ wr).alloc _).drew,show (wr.alloc _).heap.size=_ by simp⟩
   have n:=r.hp a;have s:OPR f w.heap.size (.slice c j d) (ps.take j):=qG7 J r (λ_ _ _ _ _ h=>by cases h);have ab:(ps.take j).length=j:=sO
   obtain⟨v5,H,R,B,D⟩:=s.app wr.heap.size p 124 oM N oM;have M:=(I.tr r).grown D (λk hk=>Or.inr (s.low k hk));obtain⟨u,x,X⟩:=B.form;have U:(ps.take j++[p]).length=j+1:=sO
   rw[U] at X;subst X;have T:ps.take (j+1)=ps.take j++[p]:=by rw[tA Q,HP.out]
   have q:Hid (OPR H w.heap.size (.slice u (j+1) x) (ps.take (j+1))/\Kp [] w H):=⟨by rw[T];exact B,M⟩;refine zq 12 λK hK=>?_;go_simp;rw[<-Y];refine zk hK n ?_
   have C:Ϙ H g (.cells cur 42 L):=by
    refine (D.block g (ζ n) (λe=>?_)).trans n;obtain⟨c',O⟩:=qU5 s g e.symm;rw[n] at O;cases O
   refine zq 13 λK hK=>?_;refine qF2 rfl (jH3 rfl rfl rfl R) ?_;refine zk hK C ?_
   refine zU 14 (.slice u (j+1) x) C ?_;refine zd ?_;clear a n C Y N r s R B D M y z ab U T;go_wp2;exact⟨⟨j+1,u,x,oM,by go_num,sM,q.1,q.2⟩,by simp[intOf];omega⟩
  .have aa:¬(j:Int)<(ps.length:Int):=oM
   have q:Hid (OPR wr w.heap.size (.slice c j d) ps):=by
    have h:=J.out;rw[tL oM] at h;exact h
   clear A hK;go_wp2;go_ret;exact⟨_,rfl,q,I⟩
def zW0(k:KF)(B base n:Nat)(hs:List HEnt)(S:List Nat)(R:World→Prop)(w w':World):Prop:=∃ w1 w5 l,R w1∧Kp S w w1∧Kp [] w1 w5∧(∀ i,Value.ownBlock l=some i→w.heap.size≤i)∧zC8 k B base n hs S l w w5 w'
theorem xP8(ps)(lo hi)(a:Int):(qG8 ps lo hi a).length<=ps.length:=by
 have b:=List.length_filter_le (inR lo hi) ps;have c:=List.length_take_le a.toNat (ps.filter (inR lo hi));have d:=List.length_take_le' a.toNat (ps.filter (inR lo hi));unfold qG8;omega
theorem kE8(B tb A n C:Nat)(cache)(G aa:Int)(k:KF)(f:TF)(ps)(lo hi)(z:Int)(y:Option Int)(an:y=some 5)(S)(R:World->Prop)(w)(d:LkIn w B tb A n C cache G aa k f ps)(J:ProgS w S)(ad:f.dn=true)(N:Calls prog 71 #[.pointer (some ⟨f.x,0,none⟩),.string lo,.string hi,.int .i64 z] w λe j=>∃ l v,e=.returned (.tuple #[l,v])/\ErrV j v y/\R j/\Kp S w j/\l=.slice none 0 0):
  Calls prog 134 #[.pointer (some ⟨B,0,none⟩),.pointer (some ⟨tb,0,none⟩),.string lo,.string hi,.int .i64 z] w λe j=>e=.returned (.bool true)/\qV3 R S w j:=by
 have aj:=ζ d.hB;have am:=ζ d.hT;have ag:=ζ d.hA.choose_spec;have g:=zh d;have m:=zh J;have H:=d.hB;have L:=d.hT;have P:=d.kA;have ab:=zh N;have q:=ξ H 0;simp only[kob,zG,zH,zI] at q;have V:=ξ L 0;simp only[tob,zG,zH,zI] at V;rw[P] at q;clear d J H L P N;go_enter func134,ntmps134;go_wp2_with fail;refine (qL8 A n C cache G aa w g.hA.choose_spec).mono ?_;rintro e w0 ⟨rfl,rfl⟩;go_wp2_with fail;refine (show Calls _ _ _ _ _ from ab).mono ?_;rintro e w1 ⟨l,v,rfl,U,K,h,ae⟩;have ap:=h.size;obtain⟨lb,ln,lc,af⟩:=(show ∃ a b c,l=.slice a b c from⟨_,_,_,ae⟩);subst af;have I:=m.out.stay h g.hB dC;have M:=m.out.stay h g.hT dC;have Q:=g.out.sp.keep h (m.apt dC);have O:=m.out.g0 h g.g0 oM;have E:=zh (n2 K h);clear q V K;go_wp2_with fail;refine (qL1 v y w1 O U).mono ?_;rintro e w2 ⟨rfl,i⟩;have r:=i.hp I;have p:=i.hp M;have u:=Q.keep0 i;have ak:=ζ p;have ah:=ζ r;have D:=ξ p 1;simp only[tob,zG,zH,zI] at D;obtain⟨X,Z,Y,x⟩:=u.slc;rw[x] at D;have T:SPR w2 (.slice X Z Y) ps:=by rw[<-x];exact u
 clear x u
 go_wp2_with (go_at_call 127;refine (qK1 _ _).mono ?_;rintro e w2 ⟨rfl,rfl⟩)
 refine (xP0 (.slice X Z Y) ps lo hi z _ T (by have:=g.out.sz;omega)).mono ?_;rintro e w3 ⟨v3,rfl,ao,o⟩;have s:=o.hp r;have t:=o.hp p;have ai:=ζ s;have al:=ζ t;have F:=ξ s 10;simp only[kob,zG,zH,zI] at F;have W:=ξ t 3;simp only[tob,zG,zH,zI] at W;rw[g.out.po] at F;have ac:=zh (i.tr o);clear D I M Q O h i o r p T U s t;rw[ad] at W;go_wp2;go_ret;exact⟨sM,w1,E.1,E.2,ac⟩
theorem kE9(B tb A n C:Nat)(cache)(Y ao:Int)(k:KF)(f:TF)(ps)(base:Nat)(y:List HEnt)(lo hi)(j:Int)(P:Option Int)(a3:P=none)(S)(R:World->Prop)(w)(g:LkIn w B tb A n C cache Y ao k f ps)(hP:ProgS w S)(au:f.dn=false)(hH:Held w base k y)(ah:y.length<=90000)(hb:base<=w.heap.size)(ae:Calls prog 71 #[.pointer (some ⟨f.x,0,none⟩),.string lo,.string hi,.int .i64 j] w λe m=>∃ l v,e=.returned (.tuple #[l,v])/\ErrV m v P/\R m/\Kp S w m/\OPA m w.heap.size l (qG8 ps lo hi j)):
  Calls prog 134 #[.pointer (some ⟨B,0,none⟩),.pointer (some ⟨tb,0,none⟩),.string lo,.string hi,.int .i64 j] w λe m=>e=.returned (.bool true)/\zW0 k B base (qG8 ps lo hi j).length y S R w m:=by
 have z:=zh (n3 hH ah hb);clear hH ah hb;have az:=ζ g.hB;have a2:=ζ g.hT;have aw:=ζ g.hA.choose_spec;have d:=zh g;have o:=zh hP;have Z:=g.hB;have hT:=g.hT;have ai:=g.kA;have ap:=zh ae;have E:=ξ Z 0;simp only[kob,zG,zH,zI] at E;have t0:=ξ hT 0;simp only[tob,zG,zH,zI] at t0;rw[ai] at E;clear g hP Z hT ai ae;go_enter func134,ntmps134;go_wp2_with fail;refine (qL8 A n C cache Y ao w d.hA.choose_spec).mono ?_;rintro e T ⟨rfl,rfl⟩;go_wp2_with fail;refine (show Calls _ _ _ _ _ from ap).mono ?_;rintro e w1 ⟨l,v,rfl,hv,hR,i,K⟩;have a6:=i.size;obtain⟨q,s,r,av⟩:=(show ∃ a b c,l=.slice a b c from by obtain⟨a,c,e⟩:=K.form;exact⟨a,_,c,e⟩);subst av;have aa:=o.out.stay i d.hB dC;have ad:=o.out.stay i d.hT dC;have ak:=d.out.sp.keep i (o.apt dC);have ag:=o.out.g0 i d.g0 oM;have D:=zh (n2 hR i);clear E t0 hR;go_wp2_with fail;refine (qL1 v P w1 ag hv).mono ?_;rintro e w2 ⟨rfl,p⟩;have F:=p.hp aa;have x:=p.hp ad;have N:=ak.keep0 p;have a0:=ζ x;have ax:=ζ F;have Q:=ξ x 1;simp only[tob,zG,zH,zI] at Q;obtain⟨vb,vl,vc,O⟩:=N.slc;rw[O] at Q;have al:SPR w2 (.slice vb vl vc) ps:=by rw[<-O];exact N
 clear O N
 go_wp2_with (go_at_call 127;refine (qK1 _ _).mono ?_;rintro e w2 ⟨rfl,rfl⟩)
 refine (xP0 (.slice vb vl vc) ps lo hi j _ al (by have:=d.out.sz;omega)).mono ?_;rintro e w3 ⟨v3,rfl,am,t⟩;have G:=t.hp F;have J:=t.hp x;have ay:=ζ G;have a1:=ζ J;have X:=ξ G 10;simp only[kob,zG,zH,zI] at X;have t3:=ξ J 3;simp only[tob,zG,zH,zI] at t3;rw[d.out.po] at X;have V:=zh (p.tr t);clear Q aa ad ak ag i p t F x al hv G J;rw[au] at t3;have a4:=xP8 ps lo hi j;have a5:=d.out.sz;generalize aj:qG8 ps lo hi j=qs at *;have ar:=zh aj;clear aj;have L:OPA w3 T.heap.size (.slice q s r) qs:=qG7 K V (λ_ _ _ _ _ h=>by cases h);have aq:=zh L;clear K;go_wp2_with fail;refine (xN2 (.slice q s r) qs w3 L.sp oM).mono ?_;rintro e w4 ⟨v4,rfl,ac,u⟩;have an:=am.keep0 u;clear L;go_wp2_with fail;refine (xO9 v4 v3 qs qs w4 ac.sp an oM oM).mono ?_;rintro e U ⟨rfl,I⟩;have H:=(V.tr u).tr I;have ab:=D.out.2.tr H;have M:OPA U T.heap.size (.slice q s r) qs:=qG7 (qG7 aq u (λ_ _ _ _ _ h=>by cases h)) I (λ_ _ _ _ _ h=>by cases h);have af:decide (qs=qs)=true:=sM
 rw[af];have W:=zh (n2 H M.low);clear am an ac u I H af;go_wp2_with fail;refine (jQ5 B base k y (.slice q s r) qs S T U d.hB z.1 o ab M oM z.2.1 z.2.2).mono ?_;rintro e w6 ⟨rfl,hD⟩;have HD:=zh hD;clear hD M ab;go_wp2;go_ret;exact⟨rfl,w1,U,.slice q s r,D.1,D.2,W.1,W.2,by rw[ar.out];exact HD⟩
def qD6(pk:Option Addr)(nk ck:Nat)(pd:Option Addr)(nd cd:Nat):Obj:=.cells #[.slice pk nk ck,.slice pd nd cd] 70
theorem qQ1{S}{w w'}{base sz:Nat}{e}{v}{n:Nat}{xs:List Value}(h:w.ownsRow base e sz v n xs)(hK:Kp S w w')(k:Apart w S e):w'.ownsRow base e sz v n xs:=by
 refine⟨h.1,?_⟩;rcases h.2 with c|⟨g,cap,cur,d,f,a,i⟩
 .exact .inl c
 .refine .inr ⟨g,cap,cur,d,f,hK.heap a (λl=>?_),i⟩;obtain⟨m,u,o,b,j⟩:=k g l;rw[a] at b;cases b;exact j rfl
theorem Apart.nil(w)(t):Apart w [] t:=λ_ h=>by cases h
theorem zF6{w w'}{base:Nat}{S}(h:w.cell? ⟨0,0,none⟩=some qF5)(hK:Kp S w w')(d:0<base)(e:base<=w.heap.size)(b:∀ k,k∈S->base<=k):w'.cell? ⟨0,0,none⟩=some qF5:=
 (hK.cell (a:=⟨0,0,none⟩) sO (λc=>by have:=b _ c;simp at this;omega)).trans h
theorem kA3{α:Type}(R:α->α->Prop):∀ l:List α,l.length<=1->l.Pairwise R
 | [],_=>List.Pairwise.nil
 | [_],_=>List.pairwise_singleton _ _
 | _::_::_,h=>by simp at h
theorem zI2{w:World}{base sz:Nat}{e:TypeId}{p:Option Addr}{n c:Nat}{xs:List Value}(h:w.ownsRow base e sz (.slice p n c) n xs)(m:1<=n):∃ g cur,p=some ⟨g,0,none⟩/\base<=g/\w.heap[g]?=some (.cells cur e (0,0))/\cur.toList.take (n*sz)=xs:=by
 rcases h.2 with⟨i,a⟩|⟨g,cap,cur,a,b,d,j,k,l,f⟩
 .omega
 .cases a;exact⟨g,cur,rfl,b,d,f⟩
theorem jY8(c:Nat)(k x y a b:Int)(s t)(w)(f:k<5):
  Calls prog 124 #[.pointer (some ⟨c,0,none⟩),.agg #[.int .i64 k,.int .i64 x,.int .i64 y,.int .i64 a,.int .i64 b,.string s,.string t]] w λe d=>e=.returned (.bool false)/\Kp [] w d:=by
 go_enter func124,ntmps124;go_wp2;go_ret;exact⟨rfl,kF.alloc _⟩
theorem jY6(c:Nat)(k x y a b:Int)(s t)(w)(f:9<k):
  Calls prog 124 #[.pointer (some ⟨c,0,none⟩),.agg #[.int .i64 k,.int .i64 x,.int .i64 y,.int .i64 a,.int .i64 b,.string s,.string t]] w λe d=>e=.returned (.bool false)/\Kp [] w d:=by
 go_enter func124,ntmps124;go_wp2;go_ret;exact⟨rfl,kF.alloc _⟩
theorem jZ5(c:Nat)(k x y a b:Int)(s t)(w)(l:k<1):
  Calls prog 78 #[.pointer (some ⟨c,0,none⟩),.agg #[.int .i64 k,.int .i64 x,.int .i64 y,.int .i64 a,.int .i64 b,.string s,.string t]] w λe f=>e=.returned (.bool false)/\Kp [] w f:=by
 have g:¬k=1:=oM
 have h:¬k=2:=oM
 have i:¬k=3:=oM
 have j:¬k=4:=oM
 go_enter func78,ntmps78;go_wp2_with fail;refine (jY8 c k x y a b s t _ oM).mono ?_;rintro e m ⟨rfl,d⟩;go_wp2;go_ret;exact⟨rfl,(kF.alloc _).tr d⟩
theorem xN1(c:Nat)(k x y a b:Int)(s t)(w)(f:9<k):
  Calls prog 78 #[.pointer (some ⟨c,0,none⟩),.agg #[.int .i64 k,.int .i64 x,.int .i64 y,.int .i64 a,.int .i64 b,.string s,.string t]] w λe g=>e=.returned (.bool false)/\Kp [] w g:=by
 have h:¬k=1:=oM
 have i:¬k=2:=oM
 have j:¬k=3:=oM
 have l:¬k=4:=oM
 go_enter func78,ntmps78;go_wp2_with fail;refine (jY6 c k x y a b s t _ f).mono ?_;rintro e m ⟨rfl,d⟩;go_wp2;go_ret;exact⟨rfl,(kF.alloc _).tr d⟩
theorem zG0:(prog.info? 3).map (λi=>(i.zero,i.size,i.bytes))=some (some (.int .i64 0),1,8):=kR
theorem qV7:(prog.info? 119).map (λi=>(i.zero,i.size,i.bytes))=some (some (.pointer none),1,8):=kR
theorem zT0(w)(base g:Nat)(v)(n:Nat)(xs:List Value)(u)(t e ty)(z)(l:prog.underlying t=some (.slice e))(c:(prog.info? e).map (λi=>(i.zero,i.size,i.bytes))=some (some z,1,8))(o:z.cells.size=1)
  (h:w.ownsRow base e 1 v n xs) (A:n<=1000000) (f:w.heap[g]?=some (.cells #[u] e)) (m:u.oneCell'=true) (d:base<=w.heap.size):
  ∃ b a,Sem.run prog (Builtin.append_ #[t,t] ty #[v,.slice (some ⟨g,0,none⟩) 1 1]) w=.ok b a/\a.ownsRow base e 1 b (n+1) (xs++[u])/\w.grownBy a v.ownBlock:=by
 obtain⟨s,c,p,q,r⟩:=info_parts c;obtain⟨b,a,k,x,y,B⟩:=run_append_own (P:=prog) w base t ty e s _ 1 8 l c p q r o dC v n _ h ⟨g,0,none⟩ 1 1 [u] sM (λj v hv=>by
  rw[qH0,ξ f];simpa using hv) (by simpa using m) (by unfold maxLen;omega) oM d
 exact⟨b,a,k,x,y⟩
theorem zV2(Z)(n:Nat)(h:Z.size=n)(a:∀ v∈Z.toList,v=.int .u8 0):Z=enc (List.replicate n 0):=by
 apply Array.ext';have e:=List.eq_replicate_iff.2 ⟨by simpa using h,a⟩;rw[e];simp[enc,qC0]
theorem jF9(a:Int):∃ m:Nat,m<1000/\(∀ w,Calls prog 122 #[.int .i64 a] w λe b=>e=.returned (.int .i64 m)/\b=w)/\
  (∀ w,Calls prog 41 #[.int .i64 a] w λe b=>e=.returned (.pointer (some ⟨w.heap.size+1,0,none⟩))/\b=(w.alloc (.cells (enc (List.replicate (m*128) 0)) 115)).alloc (qM9 m w.heap.size (.slice none 0 0) 0 0)):=by
 by_cases f:a<0
 .refine⟨0,oM,λw=>xZ8 a w f,λw=>(jV2 w a f).mono ?_⟩;rintro e b ⟨rfl,Z,c,d,rfl⟩;exact⟨rfl,by rw[zV2 Z _ c d]⟩
 .have g:=Int.emod_nonneg a (show (1000:Int)≠0 by decide);have h:=Int.emod_lt_of_pos a (show (0:Int)<1000 by decide);refine⟨(a % 1000).toNat,oM,λw=>(xZ7 a w f).mono ?_,λw=>(xL3 (a % 1000).toNat w oM a oM oM).mono ?_⟩
  .rintro e b ⟨rfl,rfl⟩;exact⟨by rw[Int.toNat_of_nonneg g],rfl⟩
  .rintro e b ⟨rfl,Z,c,d,rfl⟩;exact⟨rfl,by rw[zV2 Z _ c d]⟩
theorem qJ1{w:World}{base sz:Nat}{e:TypeId}{v:Value}{n:Nat}{xs:List Value}(h:w.ownsRow base e sz v n xs):∀ k,k∈v.ownBlock.toList->base<=k/\∃ c,w.heap[k]?=some (.cells c e):=by
 intro k a;rcases h.2 with⟨rfl,_⟩|⟨g,cap,cur,rfl,b,d,f⟩
 .simp[Value.ownBlock] at a
 .simp[Value.ownBlock] at a;subst a;exact⟨b,_,d⟩
theorem xC6{P:Program}{a:Act}{w w'}{o:Oper}{s x:Operand}{t}{vs vx v'}(b:o.op=.call { callee:=.builtin .append,args:=#[s,x],argTypes:=#[t,t] })(d:a.eval s=vs)(e:a.eval x=vx)(c:Sem.run P (Builtin.append_ #[t,t] o.type #[vs,vx]) w=.ok v' w'):Sem.run P (execOp a.eval o) w=.ok (.value v') w':=by
 unfold execOp;simp only[b,resolve,invoke,builtin,Sem.run_bind,Sem.run_pure,Result.andThen_ok,List.map_toArray,List.map_cons,List.map_nil,d,e,c]
theorem zH6(c:Int)(w)(a:-9223372036854775808<=c)(b:c<=9223372036854775807):
  Calls prog 183 #[.int .i64 c] w λe d=>∃ j:Nat,e=.returned (.int .i64 j)/\d=w:=by
 go_enter func183,ntmps183;go_wp2_with fail;refine (zB1 c 600 w a b oM oM).mono ?_;rintro e g ⟨j,rfl,f,rfl⟩;go_wp2;go_ret;exact⟨j,rfl,rfl⟩
theorem zN1{P:Program}{a:Act}{w}{o:Oper}{t}{x:Operand}(b:o.op=.box t x)(vs)(d:a.eval x=.agg vs):Sem.run P (execOp a.eval o) w=.ok (.value (.pointer (some ⟨w.heap.size,0,none⟩))) (w.alloc (.cells vs t)):=by
 have c:Sem.run P (Instr.box t (.agg vs)) w=.ok (ϖ w.heap.size) (w.alloc (.cells vs t)):=by
  simp[Instr.box,newVar,newRow,Value.cells]
 unfold execOp;simp only[b,Sem.run_bind,Sem.run_pure,Result.andThen_ok,d,c]
end Go.Proofs.YtdohpenfkdckiaaGreatDoor
namespace Go.Proofs.YtdohpenfkdckiaaGreatDoor.Gw
open Go.Proofs.Tryz
open Go.RowKit
theorem qS0{L}{w w'}{base n sz:Nat}{T}{v}{xs:List Value}(h:w.ownsRow base T sz v n xs)(hK:Kp L w w')(f:∀ i,v.ownBlock=some i->i ∉ L):w'.ownsRow base T sz v n xs:=by
 refine⟨h.1,?_⟩;rcases h.2 with b|⟨g,cap,cur,a,c,d,e⟩
 .exact .inl b
 .exact .inr ⟨g,cap,cur,a,c,hK.heap d (f g (by rw[a];simp[Value.ownBlock])),e⟩
theorem Held.kp{w w'}{base:Nat}{k:KF}{b:List HEnt}{L}(h:Held w base k b)(hK:Kp L w w')(d:∀ i,k.li.ownBlock=some i->i ∉ L)(e:∀ i,k.wa.ownBlock=some i->i ∉ L)(a:Apt w L [42]):Held w' base k b:=
 ⟨qS0 h.li hK d,qS0 h.wa hK e,h.two,λx c=>⟨(h.eq x c).1.keep hK a,(h.eq x c).2.keep hK a⟩⟩
theorem Held.cast{w}{base:Nat}{k a:KF}{d:List HEnt}(h:Held w base k d)(b:a.li=k.li)(c:a.wa=k.wa):Held w base a d:=
 ⟨by rw[b];exact h.li,by rw[c];exact h.wa,by rw[b,c];exact h.two,h.eq⟩
end Go.Proofs.YtdohpenfkdckiaaGreatDoor.Gw
namespace Go.Proofs.YtdohpenfkdckiaaGreatDoor
open Go.Proofs.Tryz
open Go.RowKit
variable {κ n:Nat} {p:Option Addr} {cache:Value} {calls writes:Int}
def qJ0(p:Option Addr)(κ n:Nat)(cache:Value)(calls writes:Int):Obj:=
 .cells #[.slice p n κ,cache,.int .i64 calls,.int .i64 writes,.int .i64 0,.int .i64 (-1),.int .i64 0,.int .i64 0] 114
theorem xS2(A:Nat)(w)(h:w.heap[A]?=some (qJ0 p κ n cache calls writes)):
  Calls prog 126 #[.pointer (some ⟨A,0,none⟩)] w λe a=>e=.returned (.int .i64 0)/\a=w:=by
 have c0:=ξ h 4;simp at c0;clear h;go_enter func126,ntmps126;go_wp2;go_ret;exact⟨rfl,rfl⟩
theorem jA0(A:Nat)(w)(h:w.heap[A]?=some (qJ0 p κ n cache calls writes)):
  Calls prog 325 #[.pointer (some ⟨A,0,none⟩)] w λe a=>e=.returned (.int .i64 n)/\a=w:=by
 have c0:=ξ h 0;simp at c0;clear h;go_enter func325,ntmps325;go_wp2;go_ret;exact⟨rfl,rfl⟩
theorem kP2(A:Nat)(w)(h:w.heap[A]?=some (qJ0 p κ n cache calls writes)):
  Calls prog 204 #[.iface 27 (.pointer (some ⟨A,0,none⟩))] w λe a=>e=.returned (.int .i64 n)/\Kp [] w a:=by
 have c:=zM;have b:=ζ h
 go_enter_defers func204,ntmps204
 go_wp2_with fail;refine (jA0 A _ (ρ _ h)).mono ?_;rintro e i ⟨rfl,rfl⟩;go_wp2;refine leaves_cons (f:=246) (args:=#[ϖ w.heap.size]) sM (by simp[go_sem]) ?_;refine (xA8 ⟨w.heap.size,0,none⟩ _).mono ?_;rintro e d g ⟨rfl,rfl,rfl⟩;simp[Leaves,settle,results,results204,go_sem];exact kF.alloc _
theorem xM7(A:Nat)(w)(h:w.heap[A]?=some (qJ0 p κ n cache calls writes))(a:n<8\/400<n):
  Calls prog 139 #[.iface 27 (.pointer (some ⟨A,0,none⟩))] w λe d=>e=.panicked [{ v:=.iface 182 (.agg #[.iface 45 (.int .i64 10)]),recovered:=false }]/\Kp [] w d:=by
 go_enter func139,ntmps139;go_wp2_with fail;refine (kP2 A _ h).mono ?_;rintro e g ⟨rfl,b⟩;rcases a with a|a
 .have c:decide ((n:Int)<8)=true:=sO
  go_wp2;exact⟨rfl,rfl,rfl,b⟩
 .have c:decide ((n:Int)<8)=false:=sO
  have f:decide ((400:Int)<(n:Int))=true:=sO
  go_wp2;exact⟨rfl,rfl,rfl,b⟩
theorem jK9(D A:Nat)(w)(a:w.heap[D]?=some (.cells #[.iface 27 (.pointer (some ⟨A,0,none⟩))] 206))(h:w.heap[A]?=some (qJ0 p κ n cache calls writes))(c:n<8\/400<n):
  Calls prog 138 #[.pointer (some ⟨D,0,none⟩)] w λe d=>e=.panicked [{ v:=.iface 182 (.agg #[.iface 45 (.int .i64 10)]),recovered:=false }]/\Kp [] w d:=by
 have c0:=ξ a 0;simp at c0;go_enter func138,ntmps138;go_wp2_with fail;refine (xM7 A _ h c).mono ?_;rintro e f ⟨rfl,b⟩;go_wp2;exact⟨rfl,rfl,b⟩
theorem jX4(D X A:Nat)(w)(a:w.heap[D]?=some (.cells #[.iface 27 (.pointer (some ⟨A,0,none⟩))] 206))(h:w.heap[A]?=some (qJ0 p κ n cache calls writes))(c:n<8\/400<n):
  Calls prog 143 #[.pointer (some ⟨D,0,none⟩),.pointer (some ⟨X,0,none⟩)] w λe d=>e=.panicked [{ v:=.iface 182 (.agg #[.iface 45 (.int .i64 10)]),recovered:=false }]/\Kp [] w d:=by
 have c0:=ξ a 0;simp at c0;go_enter func143,ntmps143;go_wp2_with fail;refine (xM7 A _ h c).mono ?_;rintro e f ⟨rfl,b⟩;go_wp2;exact⟨rfl,rfl,b⟩
structure Dvx(A n C:Nat)(l:List UInt8)(wr:Int)(w:World):Prop where
 hA:∃ calls p κ,w.heap[A]?=some (qJ0 p κ n (.slice none 0 0) calls wr)∧(1≤n→p=some ⟨C,0,none⟩∧κ=l.length / 128)
 hC:w.heap[C]?=some (.cells (enc l) 115)
theorem Dvx.kp{A n C:Nat}{l}{wr:Int}{w w'}{S}(h:Dvx A n C l wr w)(hK:Kp S w w')(e:A ∉ S)(f:C ∉ S):Dvx A n C l wr w':=by
 obtain⟨⟨c,p,κ,a,d⟩,b⟩:=h;exact⟨⟨c,p,κ,hK.heap a e,d⟩,hK.heap b f⟩
def RowM(w:World)(base:Nat)(v:Value)(n:Nat)(xs:List Value):Prop:=(∀ u∈xs,∃ p a c,u=Value.slice p a c)∧w.ownsRow base 126 1 v n xs
theorem zI8{w:World}{base n:Nat}{v:Value}{xs:List Value}(h:w.ownsRow base 126 1 v n xs):xs.length=n:=by
 have:=h.1;omega
section
variable {S:List Nat} {w w':World} {base n:Nat} {v:Value} {xs:List Value}
theorem RowM.kp(h:RowM w base v n xs)(hK:Kp S w w')(d:∀ k c t a,w.heap[k]?=some (.cells c t a)->k∈S->t≠126):RowM w' base v n xs:=
 ⟨h.1,qG7 h.2 hK λk c t a e f b=>d k c t a e f b⟩
theorem RowM.keep(h:RowM w base v n xs)(hK:Kp S w w')(d:Apart w S 126):RowM w' base v n xs:=
 h.kp hK λk c t i e f=>by
  obtain⟨g,u,j,a,b⟩:=d k f;rw[e] at a;cases a;exact b
theorem RowM.le{a:Nat}(h:RowM w base v n xs)(b:a<=base):RowM w a v n xs:=⟨h.1,qL0 h.2 b⟩
theorem RowM.form(h:RowM w base v n xs):∃ p c,v=.slice p n c:=by
 rcases h.2.2 with⟨b,a⟩|⟨g,cap,cur,a,_⟩
 .exact⟨none,0,by rw[b,a]⟩
 .exact⟨_,cap,a⟩
theorem RowM.form1(h:RowM w base v (n+1) xs):∃ g c,v=.slice (some ⟨g,0,none⟩) (n+1) c:=by
 obtain⟨g,cap,h⟩:=qL7 h.2;exact⟨g,cap,h⟩
theorem RowM.alloc(h:RowM w base v n xs)(o):RowM (w.alloc o) base v n xs:=⟨h.1,World.ownsRow.alloc h.2 o⟩
theorem RowM.below(h:RowM w base v n xs):∀ k,v.ownBlock=some k->base<=k:=λk hk=>(World.ownsRow.lt h.2 k hk).1
end
theorem xM8{xs:List Value}(h:∀ u∈xs,∃ p a c,u=Value.slice p a c):∀ u∈xs,u.oneCell'=true:=λu hu=>by
 obtain⟨p,a,c,rfl⟩:=h u hu;rfl
theorem zT1(w)(base:Nat)(v)(n:Nat)(ty)(xs:List Value)(h:RowM w base v n xs)(A:n<=10000000000):
  ∃ a w',Sem.run prog (Builtin.append_ #[121,121] ty #[.slice none 0 0,v]) w=.ok a w'/\RowM w' w.heap.size a n xs/\Kp [] w w':=by
 obtain⟨m,e,i,k,l⟩:=info_parts zG1;obtain⟨c,h⟩:=h;have z:=zI8 h;rcases h.2 with⟨d,b⟩|⟨g,cap,cur,b,q,r,s,t,x,y⟩
 .subst d;subst b;exact⟨_,_,kD6 w ty,⟨c,h.1,.inl ⟨rfl,rfl⟩⟩,Kp.refl _ _⟩
 .subst b;obtain⟨a,w',f,o,p,B⟩:=run_append_own (P:=prog) w w.heap.size 121 ty 126 m _ 1 24 underlying121 e i k l rfl dC (.slice none 0 0) 0 [] (World.ownsRow_nil _ _ _ _) ⟨g,0,none⟩ n cap xs oM (λj u hu=>World.ownsRow.cells h (g:=g) rfl j u hu) (xM8 c) (by unfold maxLen;omega) oM (Nat.le_refl _);refine⟨a,w',f,⟨c,by simpa using o⟩,(Kp.refl [] w).grown p (by simp[Value.ownBlock])⟩
theorem xP3(w)(base g:Nat)(v)(n:Nat)(ty)(mp)(d c:Nat)(xs:List Value)(h:RowM w base v n xs)(x:n<=10000000000)(f:w.heap[g]?=some (.cells #[.slice mp d c] 126))(e:base<=w.heap.size):
  ∃ b w',Sem.run prog (Builtin.append_ #[121,121] ty #[v,.slice (some ⟨g,0,none⟩) 1 1]) w=.ok b w'/\RowM w' base b (n+1) (xs++[.slice mp d c])/\w.grownBy w' v.ownBlock:=by
 obtain⟨q,i,m,o,p⟩:=info_parts zG1;obtain⟨l,h⟩:=h;have t:=zI8 h;obtain⟨b,w',k,r,s,y⟩:=run_append_own (P:=prog) w base 121 ty 126 q _ 1 24 underlying121 i m o p rfl dC v n _ h ⟨g,0,none⟩ 1 1 [.slice mp d c] sM (λj u a=>by
  rw[qH0,ξ f];simpa using a) (by simp[Value.oneCell']) (by unfold maxLen;omega) oM e
 refine⟨b,w',k,⟨?_,r⟩,s⟩;intro u a;rcases List.mem_append.1 a with a|a
 .exact l u a
 .rw[List.mem_singleton.1 a];exact⟨_,_,_,rfl⟩
theorem kN4(base m p k g:Nat)(pm pw)(n:Int)(e wl bt:Bool)(mp)(f d:Nat)(w){xm J:List Value}(W:RowM w base (.slice pm m p) m xm)(a:RowM w base (.slice pw k g) k J)(au:m<=5000000000)(ar:k<=100000):
  Calls prog 130 #[.agg #[.int .i64 n,.slice pm m p,.bool e,.slice pw k g,.bool wl,.bool bt],.agg #[.slice mp f d]] w λr w'=>∃ gm cm' gw cw',r=.returned (.agg #[.int .i64 n,.slice (some ⟨gm,0,none⟩) (m+1) cm',.bool e,.slice (some ⟨gw,0,none⟩) (k+1) cw',.bool wl,.bool bt])/\
   RowM w' w.heap.size (.slice (some ⟨gw,0,none⟩) (k+1) cw') (k+1) (J++[.slice mp f d])/\Kp [] w w':=by
 -- the three boxes
 obtain⟨K,Q,t,G,H,x,an⟩:=alD w (.cells #[ϊ n,.slice pm m p,.bool e,.slice pw k g,.bool wl,.bool bt] 123) (.cells #[.slice mp f d] 126) (.cells #[ϊ 0,.slice none 0 0,.bool false,.slice none 0 0,.bool false,.bool false] 123)
 have X:=W.keep x (by intro k h;simp at h);have U:=a.keep x (by intro k h;simp at h)
 -- the first two appends
 obtain⟨v1,w1,Y,z,i⟩:=zT1 K base (.slice pm m p) m 121 _ X oM;obtain⟨p1,c1,rfl⟩:=z.form;have ad:=i.hp t;have L:=i.hp G;have ag:=i.hp H;have am:=i.size;obtain⟨v2,w2,ak,aa,R⟩:=xP3 (w1.alloc (.cells #[.slice mp f d] 126)) K.heap.size w1.heap.size (.slice p1 m c1) m 121 mp f d _ (z.alloc _) oM (υ _ _) sO;obtain⟨q,o,rfl⟩:=aa.form1;have j:=(i.alloc _).grown R (λk a=>Or.inr (z.below k a));have s:=j.hp t;have M:=j.hp G;have P:=j.hp H;have aj:=U.keep j (by intro k h;simp at h)
 -- the first is kept
 obtain⟨c,ac,u,N,I,E,ao⟩:∃ c,c=w2.setCell ⟨w.heap.size,1,none⟩ (.slice (some ⟨q,0,none⟩) (m+1) o)/\Ϙ c w.heap.size (.cells #[ϊ n,.slice (some ⟨q,0,none⟩) (m+1) o,.bool e,.slice pw k g,.bool wl,.bool bt] 123)/\c.heap[w.heap.size+1]?=some (.cells #[.slice mp f d] 126)/\c.heap[w.heap.size+1+1]?=some (.cells #[ϊ 0,.slice none 0 0,.bool false,.slice none 0 0,.bool false,.bool false] 123)/\Kp [] w c/\c.heap.size=w2.heap.size:=
  ⟨_,rfl,μ s 1 _,(qB2 oM _ _).trans M,(qB2 oM _ _).trans P,(x.tr j).setCell (Or.inr sM) _,by simp[World.setCell]⟩
 have V:RowM c base (.slice pw k g) k J:=by
  refine a.keep E (by intro k h;simp at h)
 -- the other two
 obtain⟨v5,w5,Z,A,l⟩:=zT1 c base (.slice pw k g) k 121 _ V oM;obtain⟨p5,c5,rfl⟩:=A.form;have ae:=l.hp u;have O:=l.hp N;have ah:=l.hp I;have ap:=l.size;obtain⟨v6,w6,al,ab,T⟩:=xP3 (w5.alloc (.cells #[.slice mp f d] 126)) c.heap.size w5.heap.size (.slice p5 k c5) k 121 mp f d _ (A.alloc _) oM (υ _ _) sO;obtain⟨C,B,rfl⟩:=ab.form1;have F:=(l.alloc _).grown T (λk a=>Or.inr (A.below k a));have D:=F.hp u;have y:=F.hp I;have af:=E.tr F;have aq:=E.size;have x1:=ξ t 1;have y0:=ξ L 0;have z1:=ξ s 1;have ax:=ψ s 1;have u3:=ξ u 3;have t0:=ξ O 0;have q0:=ξ D;have r0:=ξ y;have aw:=ψ y;have av:=ψ D 3;simp only[zG,zH,zI] at x1 y0 z1 u3 t0;rw[ac] at Z u3;rw[Q] at Y x1;clear W a X U aj V z aa A i j x l R T ad L ag s M P t G H u N I ae O ah am an ao ap Q ac;go_enter func130,ntmps130
 go_wp2_with (at_builtin;first | ((with_reducible refine qS9 ?_ ?_ Y ?_);rfl;rfl) | ((with_reducible refine qS9 ?_ ?_ ak ?_);rfl;rfl) | ((with_reducible refine qS9 ?_ ?_ Z ?_);rfl;rfl) | ((with_reducible refine qS9 ?_ ?_ al ?_);rfl;rfl))
 have ai:=(qB2 (w:=w6) (b:=w.heap.size) (k:=w.heap.size+1+1) oM 3 (.slice (some ⟨C,0,none⟩) (k+1) B)).trans y;refine bodyPost_ret (results_cell_row results130 _ _ (w.heap.size+1+1) 123 #[ϊ n,.slice (some ⟨q,0,none⟩) (m+1) o,.bool e,.slice (some ⟨C,0,none⟩) (k+1) B,.bool wl,.bool bt] (0,0) _ rfl (μ (μ (μ (μ (μ (μ ai 0 _) 1 _) 2 _) 3 _) 4 _) 5 _) underlying123 rfl kR) rfl ⟨q,o,C,B,rfl,?_,?_⟩
 .refine (ab.le aq).keep (S:=[w.heap.size,w.heap.size+1+1]) (((((((((Kp.refl _ w6).sc _).sc _).sc _).sc _).sc _).sc _).sc _)) ?_;intro k a;rcases List.mem_cons.1 a with rfl|a
  .exact⟨_,_,_,D,dC⟩
  .rw[mS a];exact⟨_,_,_,y,dC⟩
 .exact ((((((af.setCell (Or.inr sM) _).setCell (Or.inr sO) _).setCell (Or.inr sO) _).setCell (Or.inr sO) _).setCell (Or.inr sO) _).setCell (Or.inr sO) _).setCell (Or.inr sO) _
theorem zR8(base m o k p:Nat)(pm pw)(n:Int)(e wl bt:Bool)(mp)(f d:Nat)(w){U G:List Value}(C:RowM w base (.slice pm m o) m U)(q:RowM w base (.slice pw k p) k G)(P:m<=5000000000)(O:k<=100000):
  Calls prog 129 #[.agg #[.int .i64 n,.slice pm m o,.bool e,.slice pw k p,.bool wl,.bool bt],.agg #[.slice mp f d]] w λr w'=>∃ s c b,r=.returned (.agg #[.int .i64 n,.slice (some ⟨s,0,none⟩) 1 1,.bool false,.slice (some ⟨c,0,none⟩) (k+1) b,.bool wl,.bool bt])/\
   w'.ownsRow w.heap.size 126 1 (.slice (some ⟨s,0,none⟩) 1 1) 1 [.slice mp f d]/\RowM w' w.heap.size (.slice (some ⟨c,0,none⟩) (k+1) b) (k+1) (G++[.slice mp f d])/\Kp [] w w':=by
 obtain⟨I,A,J,y,z,t,E⟩:=alD w (.cells #[ϊ n,.slice pm m o,.bool e,.slice pw k p,.bool wl,.bool bt] 123) (.cells #[.slice mp f d] 126) (.cells #[ϊ 0,.slice none 0 0,.bool false,.slice none 0 0,.bool false,.bool false] 123)
 have D:=C.keep t (by intro k h;simp at h);have B:=q.keep t (by intro k h;simp at h);clear C q;go_enter func129,ntmps129;go_wp2_with fail;rw[<-A];clear A;refine (kN4 base m o k p pm pw n e wl bt mp f d I D B P O).mono ?_;rintro r a ⟨s,X,c,b,rfl,Q,j⟩;have x:=j.hp y;have l:=j.hp z;have K:=t.tr j;have W:=zh j.size;have H:=zh E;clear D B j J y z E;have V:=ξ x 0;have r0:=ξ l;simp only[zG,zH,zI] at V;have Y:=ζ x;have Z:=ζ l;have ab:=ψ l;go_wp2;obtain⟨g,F,M,u,T⟩:∃ g,g=(((((a.setCell ⟨w.heap.size+1+1,0,none⟩ (ϊ n)).setCell ⟨w.heap.size+1+1,1,none⟩ (.slice (some ⟨a.heap.size+1,0,none⟩) 1 1)).setCell ⟨w.heap.size+1+1,2,none⟩ (.bool false)).setCell ⟨w.heap.size+1+1,3,none⟩ (.slice (some ⟨c,0,none⟩) (k+1) b)).setCell ⟨w.heap.size+1+1,4,none⟩ (.bool wl)).setCell ⟨w.heap.size+1+1,5,none⟩ (.bool bt)/\g.heap[w.heap.size+1+1]?=some (.cells #[ϊ n,.slice (some ⟨a.heap.size+1,0,none⟩) 1 1,.bool false,.slice (some ⟨c,0,none⟩) (k+1) b,.bool wl,.bool bt] 123)/\Kp [w.heap.size+1+1] a g/\g.heap.size=a.heap.size:=
  ⟨_,rfl,μ (μ (μ (μ (μ (μ l 0 _) 1 _) 2 _) 3 _) 4 _) 5 _,((((((Kp.refl _ a).sc _).sc _).sc _).sc _).sc _).sc _,by simp[World.setCell]⟩
 rw[<-F];clear F;have R:=Q.keep u (λk q=>by rw[mS q];exact⟨_,_,_,l,dC⟩);have L:=K.trans u (λi N aa=>by simp at N;omega);refine bodyPost_ret (results_cell_row results129 _ _ (w.heap.size+1+1) 123 #[ϊ n,.slice (some ⟨a.heap.size+1,0,none⟩) 1 1,.bool false,.slice (some ⟨c,0,none⟩) (k+1) b,.bool wl,.bool bt] (0,0) _ rfl (ρ _ (ρ _ M)) underlying123 rfl kR) rfl ⟨a.heap.size+1,c,b,rfl,?_,((R.alloc _).alloc _).le (by have:=H.out;omega),(L.alloc _).alloc _⟩;refine⟨sM,.inr ⟨a.heap.size+1,1,#[.slice mp f d],rfl,oM,?_,lR,by unfold maxLen;omega,rfl,rfl⟩⟩;have e:=υ (g.alloc (.cells #[ϊ n,.slice (some ⟨a.heap.size+1,0,none⟩) 1 1,.bool false,.slice (some ⟨c,0,none⟩) (k+1) b,.bool wl,.bool bt] 123)) (.cells #[.slice mp f d] 126);simpa [T] using e
end Go.Proofs.YtdohpenfkdckiaaGreatDoor
