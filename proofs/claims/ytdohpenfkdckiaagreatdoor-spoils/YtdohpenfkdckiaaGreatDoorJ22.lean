import Derived.Test.YtdohpenfkdckiaaGreatDoorJ21
import Derived.ArgAppend
set_option linter.all false
set_option maxRecDepth 100000
set_option maxHeartbeats 20000000
namespace Go.Proofs.YtdohpenfkdckiaaGreatDoor
open Go.Proofs.Tryz
open Go.RowKit
theorem zE5{l:Nat}(A n C:Nat)(cache)(j a:Int)(w)(h:w.heap[A]?=some (qA6 l n C cache j a)):
  Calls prog 35 #[.pointer (some ⟨A,0,none⟩)] w λe k=>e=.returned (.int .i64 a)/\k=w:=by
 have c0:=ξ h 0;have b:=ξ h 1;have c:=ξ h 2;have d:=ξ h 3;have f:=ξ h 4;have g:=ξ h 5;have i:=ξ h 6;simp only[qM9,qA6,zG,zH,zI] at c0 b c d f g i;clear h;go_enter func35,ntmps35;go_wp2;go_ret;exact⟨rfl,rfl⟩
def zV6(f:TF)(tb:Nat)(R:World→Prop)(S:List Nat)(w w':World):Prop:=∃ w1,R w1∧Kp S w w1∧Kp [tb] w1 w'∧w'.heap[tb]?=some (tob { f with dn:=true })
def qE7(wr:Bool):List (TF × Nat)→Nat
 | []=>0
 | (f,_)::fs=>(if f.dn=false∧f.wr=wr then 1 else 0)+qE7 wr fs
theorem zM0(wr:Bool):∀ a b:List (TF × Nat),qE7 wr (a++b)=qE7 wr a+qE7 wr b
 | [],b=>by simp[qE7]
 | (f,l)::a,b=>by simp only[cA,qE7,zM0 wr a b];omega
theorem zM1(wr:Bool):∀ a:List (TF × Nat),qE7 wr a<=a.length
 | []=>by simp[qE7]
 | (f,l)::a=>by
  have:=zM1 wr a;simp only[qE7,lC];split<;>omega
theorem xF8:(prog.info? 132).map (λi=>(i.zero,i.size,i.bytes))=some (some (.pointer none),1,8):=kR
theorem xP4{P:Program}(w)(base:Nat)(t ty e)(i:TypeInfo)(z)(b h:Nat)(x:P.underlying t=some (.slice e))(p:P.info? e=some i)(F:i.zero=some z)
  (φ:i.size=b) (B:i.bytes=h) (G:z.cells.size=b) (E:0<b)
  (v) (n:Nat) (xs:List Value) (f:w.ownsRow base e b v n xs)
  (a) (m c:Nat) (news:List Value) (q:news.length=m*b) (r:∀ j u,news[j]?=some u->w.cell? (a.add j)=some u) (y:∀ u∈news,u.oneCell'=true)
  (A:n+m<=maxLen) (C:(n+m)*h<=140737488355328) (K:base<=w.heap.size):
  ∃ l o,(Builtin.append_ #[t,t] ty #[v,.slice (some a) m c]).run P w=.ok l o/\o.ownsRow base e b l (n+m) (xs++news)/\w.grownBy o v.ownBlock/\∀ k,l.ownBlock=some k->v.ownBlock=some k\/w.heap.size<=k:=by
 obtain⟨l,o,s,R,S,_⟩:=run_append_own (P:=P) w base t ty e i z b h x p F φ B G E v n xs f a m c news q r y A C K;refine⟨l,o,s,R,S,λk D=>?_⟩;rcases f.2 with⟨J,M⟩|⟨g,cap,cur,O,U,V,W,X,Y,Z⟩
 .subst J M;have Q:=List.length_eq_zero_iff.1 (by have:=f.1;simpa using this);subst Q;obtain⟨T,I,d,H,_⟩:=run_append_own (P:=P) w w.heap.size t ty e i z b h x p F φ B G E (.slice none 0 0) 0 [] (wN _ _ _ _) a m c news q r y A C lR;rw[s] at d;cases d;exact .inr (World.ownsRow.lt H k D).1
 .subst O;by_cases N:n+m<=cap
  .obtain⟨I,d,_⟩:=run_append_fits w base t ty e i b x p φ g n cap xs f a m c news q r y N;rw[s] at d;cases d;exact .inl D
  .have L:∀ j u,xs[j]?=some u->w.cell? ((⟨g,0,none⟩:Addr).add j)=some u:=World.ownsRow.cells f rfl;obtain⟨T,I,d,H,_⟩:=run_append_arg_grows w t ty e i z b h x p F φ B G E ⟨g,0,none⟩ n cap xs f.1 L a m c news q r oM A C;rw[s] at d;cases d;exact .inr (World.ownsRow.lt H k D).1
theorem xP2(w)(base g:Nat)(v)(n:Nat)(xs:List Value)(u)(t e ty)(z)(l:prog.underlying t=some (.slice e))(a:(prog.info? e).map (λi=>(i.zero,i.size,i.bytes))=some (some z,1,8))(p:z.cells.size=1)
  (h:w.ownsRow base e 1 v n xs) (y:n<=1000000) (f:w.heap[g]?=some (.cells #[u] e)) (m:u.oneCell'=true) (d:base<=w.heap.size):
  ∃ b c,Sem.run prog (Builtin.append_ #[t,t] ty #[v,.slice (some ⟨g,0,none⟩) 1 1]) w=.ok b c/\c.ownsRow base e 1 b (n+1) (xs++[u])/\w.grownBy c v.ownBlock/\∀ k,b.ownBlock=some k->v.ownBlock=some k\/w.heap.size<=k:=by
 obtain⟨x,a,q,r,s⟩:=info_parts a;exact xP4 (P:=prog) w base t ty e x _ 1 8 l a q r s p dC v n _ h ⟨g,0,none⟩ 1 1 [u] sM (λj v o=>by
  rw[qH0,ξ f];simpa using o) (by simpa using m) (by unfold maxLen;omega) oM d
structure BgIn(w:World)(B A n C:Nat)(cache:Value)(calls writes:Int)(k:KF)(Db base:Nat)(tbs:List Nat)(fs:List (TF × Nat))(cb:Option Addr)(cl cc:Nat):Prop where
 hB:w.heap[B]?=some (kob k)
 po:k.po=false
 kA:k.A=A
 hA:∃ κ,w.heap[A]?=some (qA6 κ n C cache calls writes)
 kx:k.x=some ⟨Db,0,none⟩
 kc:k.c=.slice cb cl cc
 ts:TFs w k tbs fs
 row:w.ownsRow base 132 1 k.ts tbs.length (qQ2 tbs)
 bas:base≤w.heap.size
 len:tbs.length≤100000
 g0:w.cell? ⟨0,0,none⟩=some qF5
theorem zX4(B A n C:Nat)(cache)(ac au:Int)(k:KF)(Y base:Nat)(tbs)(b:List (TF × Nat))(cb)(cl cc:Nat)(a:Bool)(V:Option Int)(bb:V=some 4)(S)(R:Option Addr->World->Prop)(w)(q:BgIn w B A n C cache ac au k Y base tbs b cb cl cc)(hP:ProgS w S)(hx:∀ u w,R u w->u=none)(af:(a=true/\0<qE7 a b)\/(a=false/\qE7 a b=4))(ag:Calls prog 29 #[.pointer (some ⟨Y,0,none⟩),.bool a] w λe E=>∃ u v,e=.returned (.tuple #[.pointer u,v])/\ErrV E v V/\R u E/\Kp S w E):
  Calls prog 82 #[.pointer (some ⟨B,0,none⟩),.bool a] w λe E=>e=.returned (.bool true)/\qV3 (R none) S w E:=by
 have av:=zh af;have HX:=zh hx;clear af hx;have a6:=ζ q.hB;have a4:=ζ q.hA.choose_spec;have o:=zh q;have K:=zh hP;have Q:=q.hB;have ak:=q.kA;have al:=q.kx;have aw:=zh ag;have N:=ξ Q 0;have O:=ξ Q 7;simp only[kob,zG,zH,zI] at N O;rw[ak] at N;rw[al] at O;clear q hP Q ak ag al;go_enter func82,ntmps82;go_wp2_with fail;refine (qL8 A n C cache ac au w o.hA.choose_spec).mono ?_;rintro e w0 ⟨rfl,rfl⟩;go_wp2_with fail;refine (show Calls _ _ _ _ _ from aw).mono ?_;rintro e X ⟨u,v,rfl,J,t,y⟩;have ad:=K.out.stay y o.hB dC;have ae:=K.out.tfs y o.ts;have ai:=K.out.g0 y o.g0 oM;have x:=zh (n2 t y);clear N O t;go_wp2_with fail;refine (qL1 v V X ai J).mono ?_;rintro e w2 ⟨rfl,G⟩;have m:=G.hp ad;have H:=ae.keep0 G;obtain⟨p,c,U,ao⟩:=H.row;have a5:=ζ m;have b8:=ξ m 8;have b9:=ξ m 9;have aa:=ξ m 10;have ab:=ξ m 11;simp only[kob,zG,zH,zI] at b8 b9 aa ab;have a3:=ψ m 11;rw[o.out.po] at aa;rw[U] at ab;rw[o.out.kc] at b8;have a2:=zh U;have HT:=zh H;have ay:=zh ao;have ax:=zh H.len;have bc:=o.out.len;have a1:=zh m;have Z:=zh G;clear ad ae ai y G m J H ao U
 go_wp2_with (go_at_call 127;refine (qK1 _ _).mono ?_;rintro e w2 ⟨rfl,rfl⟩)
 go_loopw [10,11] (λs i wr=>∃ (j:Nat),j<=tbs.length/\i=.int .i64 j/\s=.int .i64 (qE7 a (b.take j):Nat)/\∃ d,wr=w2.drewN d) (λ_ i _=>tbs.length-(intOf i).toNat)
 case atStart=>exact⟨0,zL _,rfl,rfl,0,rfl⟩
 case round=>
  obtain⟨j,hj,rfl,rfl,d,rfl⟩:=hrel;have am:=ax.out;have ap:=zM1 a (b.take j);have aq:(b.take j).length=j:=sO
  rw[aq] at ap;clear aq;by_cases an:j<tbs.length
  .have az:(j:Int)<(tbs.length:Int):=oM
   have aj:j<b.length:=oM
   obtain⟨g,cur,rfl,t,ah⟩:=ay.out oM;obtain⟨r,vb,vc,J⟩:=HT.out.at_ j an aj;have I:qE7 a (b.take (j+1))=qE7 a (b.take j)+(if b[j].1.dn=false/\b[j].1.wr=a then 1 else 0):=by
    rw[tA aj,zM0];simp[qE7]
   obtain⟨⟨f,l⟩,hf⟩:∃ f,b[j]=f:=⟨_,rfl⟩;obtain⟨tb,ar⟩:=eY (tbs[j]);have T:=ah j an;rw[ar] at T r;rw[hf] at r I;simp only at r I;have L:=zh I;generalize z:qE7 a (b.take j)=M at *;have ba:=ζ t;have a7:=ζ r;have r0:=ξ t j;rw[T] at r0;have t2:=ξ r 2;have W:=ξ r 3;simp only[tob,zG,zH,zI] at t2 W;clear ah t r I hf ar T z J am
   cases hdn:f.dn with
   | true=>
    rw[hdn] at W;go_wp2;refine⟨⟨j+1,oM,by go_num,?_,_,rfl⟩,by simp[intOf];omega⟩;rw[L.out,hdn];simp
   | false=>
    rw[hdn] at W;by_cases D:f.wr=a
    .rw[D] at t2;go_wp2;refine⟨⟨j+1,oM,by go_num,?_,_,rfl⟩,by simp[intOf];omega⟩;rw[L.out,hdn,if_pos ⟨rfl,D⟩]
     go_num
    .have a8:(f.wr == a)=false:=by simpa using D
     have a9:=decide_eq_false D;go_wp2;refine⟨⟨j+1,oM,by go_num,?_,_,rfl⟩,by simp[intOf];omega⟩;rw[L.out,if_neg (λh=>D h.2)];simp
  have z:qE7 a (b.take j)=qE7 a b:=by rw[tL oM]
  have az:¬(j:Int)<(tbs.length:Int):=oM
  rw[z] at ap;rw[z];clear z am;have a0:=HX.out _ _ x.1;subst a0;rcases av with⟨P,F⟩|⟨P,F⟩
  .have h3:(0:Int)<(qE7 a b:Nat):=oM
   clear F;generalize qE7 a b=M at *;subst P;go_wp2;go_ret;exact⟨sM,X,x.1,x.2,Z.drewN _⟩
  .rw[F];clear F;generalize qE7 a b=M at *;subst P;go_wp2;go_ret;exact⟨sM,X,x.1,x.2,Z.drewN _⟩
theorem qG7{S}{w w'}{base n sz:Nat}{T}{v}{xs:List Value}(h:w.ownsRow base T sz v n xs)(hK:Kp S w w')(j:∀ k c t b,w.heap[k]?=some (.cells c t b)->k∈S->t≠T):w'.ownsRow base T sz v n xs:=by
 refine⟨h.1,?_⟩;rcases h.2 with d|⟨g,cap,cur,e,f,a,i⟩
 .exact .inl d
 .exact .inr ⟨g,cap,cur,e,f,hK.heap a (λl=>j g _ _ _ a l rfl),i⟩
theorem qR9{w:World}{base n sz:Nat}{T:TypeId}{v:Value}{xs:List Value}(h:w.ownsRow base T sz v n xs):∃ b c,v=.slice b n c:=by
 rcases h.2 with⟨d,a⟩|⟨g,cap,cur,a,e⟩
 .exact⟨none,0,by rw[d,a]⟩
 .exact⟨_,cap,a⟩
def TF.born(k:KF)(x:Nat)(cl:Nat)(wrt:Bool):TF:=⟨x,k.c,wrt,false,0,cl,k.com,0,.slice none 0 0⟩
def zV4(k:KF)(B base cl:Nat)(wrt:Bool)(tbs:List Nat)(R:Option Addr→World→Prop)(S:List Nat)(w w':World):Prop:=
 ∃ w1 x tb v' L,R (some ⟨x,0,none⟩) w1∧Kp S w w1∧w1.heap.size≤tb∧w'.heap[tb]?=some (tob (TF.born k x cl wrt))∧w'.heap[B]?=some (kob { k with ts:=v' })∧w'.ownsRow base 132 1 v' (tbs.length+1) (qQ2 (tbs++[tb]))∧Kp L w1 w'∧(∀ i∈L,i=B∨k.ts.ownBlock=some i)∧∀ i,v'.ownBlock=some i→k.ts.ownBlock=some i∨w1.heap.size≤i
theorem zX5(B A n C:Nat)(cache)(bc bs:Int)(k:KF)(Db base:Nat)(tbs)(q:List (TF × Nat))(cb)(m E:Nat)(o:Bool)(ko:Option Int)(ci:ko=none)(S)(R:Option Addr->World->Prop)(w)(L:BgIn w B A n C cache bc bs k Db base tbs q cb m E)(hP:ProgS w S)(hx:∀ xo w,R xo w->∃ x,xo=some ⟨x,0,none⟩)(bi:(o=true/\qE7 o q=0)\/(o=false/\qE7 o q<4))(bg:Calls prog 29 #[.pointer (some ⟨Db,0,none⟩),.bool o] w λe w'=>∃ xo v,e=.returned (.tuple #[.pointer xo,v])/\ErrV w' v ko/\R xo w'/\Kp S w w'):
  Calls prog 82 #[.pointer (some ⟨B,0,none⟩),.bool o] w λe w'=>e=.returned (.bool true)/\zV4 k B base m o tbs R S w w':=by
 have bb:=zh bi;have HX:=zh hx;have aj:=zh (n2 L.row L.bas);clear bi hx;have cd:=ζ L.hB;have b4:=ζ L.hA.choose_spec;have D:=zh L;have HP:=zh hP;have hB:=L.hB;have bl:=L.kA;have bm:=L.kx;have bu:=zh bg;have b0:=ξ hB 0;have b7:=ξ hB 7;simp only[kob,zG,zH,zI] at b0 b7;rw[bl] at b0;rw[bm] at b7;clear L hP hB bl bg bm;go_enter func82,ntmps82;go_wp2_with fail;refine (qL8 A n C cache bc bs w D.hA.choose_spec).mono ?_;rintro e w0 ⟨rfl,rfl⟩;go_wp2_with fail;refine (show Calls _ _ _ _ _ from bu).mono ?_;rintro e Q ⟨xo,v,rfl,hv,hR,ac⟩;have bd:=HP.out.stay ac D.hB dC;have bf:=HP.out.tfs ac D.ts;have bj:=HP.out.g0 ac D.g0 oM;have J:=zh (n2 hR ac);clear b0 b7 hR;go_wp2_with fail;refine (qL1 v ko Q bj hv).mono ?_;rintro e w2 ⟨rfl,an⟩;have P:=an.hp bd;have ao:=bf.keep0 an;obtain⟨p,c,a8,bp⟩:=ao.row;have b5:=ζ P;have b8:=ξ P 8;have b9:=ξ P 9;have al:=ξ P 10;have H:=ξ P 11;simp only[kob,zG,zH,zI] at b8 b9 al H;have am:=ψ P 11;rw[D.out.po] at al;rw[a8] at H;rw[D.out.kc] at b8;have ak:=zh a8;have HT:=zh ao;have bx:=zh bp;have bw:=zh ao.len;have cj:=D.out.len;have bt:=zh P;have bv:=zh an;clear bd bf bj ac an P hv ao bp a8
 go_wp2_with (go_at_call 127;refine (qK1 _ _).mono ?_;rintro e w2 ⟨rfl,rfl⟩)
 go_loopw [10,11] (λs i wr=>∃ (j:Nat),j<=tbs.length/\i=.int .i64 j/\s=.int .i64 (qE7 o (q.take j):Nat)/\∃ d,wr=w2.drewN d) (λ_ i _=>tbs.length-(intOf i).toNat)
 case atStart=>exact⟨0,zL _,rfl,rfl,0,rfl⟩
 case round=>
  obtain⟨j,hj,rfl,rfl,d,rfl⟩:=hrel;have bn:=bw.out;have aq:=zM1 o (q.take j);have bq:(q.take j).length=j:=sO
  rw[bq] at aq;clear bq;by_cases bo:j<tbs.length
  .have b2:(j:Int)<(tbs.length:Int):=oM
   have bk:j<q.length:=oM
   obtain⟨g,cur,rfl,hR,bh⟩:=bx.out oM;obtain⟨Y,vb,vc,hv⟩:=HT.out.at_ j bo bk;have ar:qE7 o (q.take (j+1))=qE7 o (q.take j)+(if q[j].1.dn=false/\q[j].1.wr=o then 1 else 0):=by
    rw[tA bk,zM0];simp[qE7]
   obtain⟨⟨f,l⟩,hf⟩:∃ f,q[j]=f:=⟨_,rfl⟩;obtain⟨tb,br⟩:=eY (tbs[j]);have a5:=bh j bo;rw[br] at a5 Y;rw[hf] at Y ar;simp only at Y ar;have a0:=zh ar;generalize hM:qE7 o (q.take j)=M at *;have ch:=ζ hR;have ce:=ζ Y;have r0:=ξ hR j;rw[a5] at r0;have t2:=ξ Y 2;have t3:=ξ Y 3;simp only[tob,zG,zH,zI] at t2 t3;clear bh hR Y ar hf br a5 hM hv bn
   cases hdn:f.dn with
   | true=>
    rw[hdn] at t3;go_wp2;refine⟨⟨j+1,oM,by go_num,?_,_,rfl⟩,by simp[intOf];omega⟩;rw[a0.out,hdn];simp
   | false=>
    rw[hdn] at t3;by_cases hc:f.wr=o
    .rw[hc] at t2;go_wp2;refine⟨⟨j+1,oM,by go_num,?_,_,rfl⟩,by simp[intOf];omega⟩;rw[a0.out,hdn,if_pos ⟨rfl,hc⟩]
     go_num
    .have cf:(f.wr == o)=false:=by simpa using hc
     have cg:=decide_eq_false hc;go_wp2;refine⟨⟨j+1,oM,by go_num,?_,_,rfl⟩,by simp[intOf];omega⟩;rw[a0.out,if_neg (λh=>hc h.2)];simp
  have hM:qE7 o (q.take j)=qE7 o q:=by rw[tL oM]
  have b2:¬(j:Int)<(tbs.length:Int):=oM
  rw[hM] at aq;rw[hM];clear hM bn;obtain⟨x,b3⟩:=HX.out _ _ J.1;subst b3;obtain⟨b,au,a1,be⟩:∃ b,b=w2.drewN d/\Ϙ b B (kob k)/\Kp [] Q b:=⟨_,rfl,bt,bv.drewN _⟩;have aa:=zh be;have ca:=ζ a1;clear be;have ap:(o=true->qE7 o q=0)/\(o=false->¬((qE7 o q:Nat):Int)=4):=by
   constructor
   .intro h;rcases bb with⟨_,I⟩|⟨y,_⟩
    .exact I
    .rw[h] at y;cases y
   .intro h;rcases bb with⟨y,_⟩|⟨_,I⟩
    .rw[h] at y;cases y
    .omega
  cases hwv:o with
  | true=>
   have hz:=ap.1 hwv;subst hwv;rw[hz];clear hz ap;go_wp2_with fail;rw[<-au];clear au b8 b9 al H am aq;have a:=a1;refine wp_region_held_drew (S:=λW=>Ϙ W B (kob k)) kR a (λ_=>?_);refine zP 0 x 0 a ?_;refine zP 1 B 0 a ?_;refine zP 2 B 0 a ?_;refine zP 3 B 8 a ?_;refine zV 4 (.agg #[.slice cb m E]) rfl (λW r=>by have c:=ξ r 8;simp only[kob,zG,zH,zI] at c;rw[D.out.kc] at c;clear r;go_simp) a ?_;refine zU 5 (.bool true) a ?_;refine zP 6 B 0 a ?_;refine zP 7 B 0 a ?_;refine zP 8 B 8 a ?_;refine zP 9 B 8 a ?_;refine zV 10 (.slice cb m E) rfl (λW r=>by have c:=ξ r 8;simp only[kob,zG,zH,zI] at c;rw[D.out.kc] at c;clear r;go_simp) a ?_;refine zU 11 (ϊ m) a ?_;refine zP 12 B 0 a ?_;refine zP 13 B 0 a ?_;refine zP 14 B 9 a ?_;refine zV 15 (ϊ k.com) rfl (λW r=>by have c:=ξ r 9;simp only[kob,zG,zH,zI] at c;clear r;go_simp) a ?_;refine zU 16 (.agg #[.slice cb m E,.bool true,.bool false,ϊ 0,ϊ m,ϊ k.com,ϊ 0]) a ?_;refine zU 17 (.agg #[ϖ x,.slice cb m E,.bool true,.bool false,ϊ 0,ϊ m,ϊ k.com,ϊ 0,.slice none 0 0]) a ?_;refine zq 18 λK hK=>?_;go_simp;obtain⟨u,ai,ad,F,X,a6⟩:∃ u,u=World.drew (b.alloc (.cells #[ϖ x,.slice cb m E,.bool true,.bool false,ϊ 0,ϊ m,ϊ k.com,ϊ 0,.slice none 0 0] 197))/\Ϙ u b.heap.size (tob (TF.born k x m true))/\Ϙ u B (kob k)/\Kp [] b u/\u.heap.size=b.heap.size+1:=
    ⟨_,rfl,by have e:=υ b (.cells #[ϖ x,.slice cb m E,.bool true,.bool false,ϊ 0,ϊ m,ϊ k.com,ϊ 0,.slice none 0 0] 197);rw[TF.born,tob,D.out.kc];exact e,ρ _ a,((Kp.refl _ b).alloc _).drew,show (b.alloc _).heap.size=_ by simp⟩
   rw[<-ai];refine hK.out _ _ F (λ_=>?_);clear hK K ai
   try simp only[zZ]
   refine zP 19 b.heap.size 0 F ?_;refine zd ?_;have O:=qG7 (qG7 aj.1 J.2 (λk' c t fr y I e=>absurd ((HP k' I).2 _ _ _ y) (by rw[e];decide))) (aa.tr X) (λ_ _ _ _ _ h=>by cases h);have a7:=J.out.2.size;have ah:=aa.out.size;have a4:=aj.out.2;obtain⟨v',w6,ag,Z,N,af⟩:=xP2 (u.alloc (.cells #[ϖ b.heap.size] 132)) base u.heap.size k.ts tbs.length (qQ2 tbs) (ϖ b.heap.size) 127 132 127 (.pointer none) underlying127 xF8 rfl (World.ownsRow.alloc O _) oM (υ _ _) rfl sO;have ae:=qP7 O N ad dC;have G:=qP7 O N F dC;obtain⟨U,V,a9⟩:=qR9 Z;subst a9;have ay:=zh Z;have av:=zh N;have ax:Hid (∀ i,oB (.slice U (tbs.length+1) V)=some i->k.ts.ownBlock=some i\/Q.heap.size<=i):=λi z=>(af i z).imp id (λh=>by simp at h;omega);have ab:=zh ae;have T:=zh G;have aw:=zh X;have az:=zh ah;have b1:=ζ G;have bz:=ζ F;rw[ak.out] at ag;have H:=ξ F 11;simp only[kob,zG,zH,zI] at H;rw[ak.out] at H;have am:=ψ G 11;have ba:=ξ G 11;simp only[kob,zG,zH,zI] at ba;clear a F G ad ae Z N O X a7 ah a4 a6 af
   go_wp2_with (at_builtin;(with_reducible refine qL9 ?_ ?_ ag ?_);rfl;rfl)
   go_ret;have a3:Kp (B::k.ts.ownBlock.toList) b w6:=(((aw.mono sM).alloc _).grown av (λi z=>Or.inl (by simp[z])));have a2:Kp (B::k.ts.ownBlock.toList) Q (w6.setCell ⟨B,11,none⟩ (.slice U (tbs.length+1) V)):=((aa.mono sM).trans a3 (λi z _=>z)).sc _;refine⟨sM,Q,x,b.heap.size,.slice U (tbs.length+1) V,_,J.1,J.2,az,?_,μ T 11 _,?_,a2,?_,ax⟩
   .exact (qB2 (qA1 ab T dC) _ _).trans ab
   .refine qG7 (S:=[B]) (by rw[qQ2,List.map_append];exact ay) (kF.sc _) (λi c t fr y I=>?_);rw[mS I,T.out] at y;cases y;decide
   .intro i z;simpa using z
  | false=>
   have hz:=ap.2 hwv;subst hwv;clear ap;generalize qE7 false q=M at *;go_wp2_with fail;rw[<-au];clear au b8 b9 al H am aq;have a:=a1;refine wp_region_held_drew (S:=λW=>Ϙ W B (kob k)) kR a (λ_=>?_);refine zP 0 x 0 a ?_;refine zP 1 B 0 a ?_;refine zP 2 B 0 a ?_;refine zP 3 B 8 a ?_;refine zV 4 (.agg #[.slice cb m E]) rfl (λW r=>by have c:=ξ r 8;simp only[kob,zG,zH,zI] at c;rw[D.out.kc] at c;clear r;go_simp) a ?_;refine zU 5 (.bool false) a ?_;refine zP 6 B 0 a ?_;refine zP 7 B 0 a ?_;refine zP 8 B 8 a ?_;refine zP 9 B 8 a ?_;refine zV 10 (.slice cb m E) rfl (λW r=>by have c:=ξ r 8;simp only[kob,zG,zH,zI] at c;rw[D.out.kc] at c;clear r;go_simp) a ?_;refine zU 11 (ϊ m) a ?_;refine zP 12 B 0 a ?_;refine zP 13 B 0 a ?_;refine zP 14 B 9 a ?_;refine zV 15 (ϊ k.com) rfl (λW r=>by have c:=ξ r 9;simp only[kob,zG,zH,zI] at c;clear r;go_simp) a ?_;refine zU 16 (.agg #[.slice cb m E,.bool false,.bool false,ϊ 0,ϊ m,ϊ k.com,ϊ 0]) a ?_;refine zU 17 (.agg #[ϖ x,.slice cb m E,.bool false,.bool false,ϊ 0,ϊ m,ϊ k.com,ϊ 0,.slice none 0 0]) a ?_;refine zq 18 λK hK=>?_;go_simp;obtain⟨u,ai,ad,F,X,a6⟩:∃ u,u=World.drew (b.alloc (.cells #[ϖ x,.slice cb m E,.bool false,.bool false,ϊ 0,ϊ m,ϊ k.com,ϊ 0,.slice none 0 0] 197))/\Ϙ u b.heap.size (tob (TF.born k x m false))/\Ϙ u B (kob k)/\Kp [] b u/\u.heap.size=b.heap.size+1:=
    ⟨_,rfl,by have e:=υ b (.cells #[ϖ x,.slice cb m E,.bool false,.bool false,ϊ 0,ϊ m,ϊ k.com,ϊ 0,.slice none 0 0] 197);rw[TF.born,tob,D.out.kc];exact e,ρ _ a,((Kp.refl _ b).alloc _).drew,show (b.alloc _).heap.size=_ by simp⟩
   rw[<-ai];refine hK.out _ _ F (λ_=>?_);clear hK K ai
   try simp only[zZ]
   refine zP 19 b.heap.size 0 F ?_;refine zd ?_;have O:=qG7 (qG7 aj.1 J.2 (λk' c t fr y I e=>absurd ((HP k' I).2 _ _ _ y) (by rw[e];decide))) (aa.tr X) (λ_ _ _ _ _ h=>by cases h);have a7:=J.out.2.size;have ah:=aa.out.size;have a4:=aj.out.2;obtain⟨v',w6,ag,Z,N,af⟩:=xP2 (u.alloc (.cells #[ϖ b.heap.size] 132)) base u.heap.size k.ts tbs.length (qQ2 tbs) (ϖ b.heap.size) 127 132 127 (.pointer none) underlying127 xF8 rfl (World.ownsRow.alloc O _) oM (υ _ _) rfl sO;have ae:=qP7 O N ad dC;have G:=qP7 O N F dC;obtain⟨U,V,a9⟩:=qR9 Z;subst a9;have ay:=zh Z;have av:=zh N;have ax:Hid (∀ i,oB (.slice U (tbs.length+1) V)=some i->k.ts.ownBlock=some i\/Q.heap.size<=i):=λi z=>(af i z).imp id (λh=>by simp at h;omega);have ab:=zh ae;have T:=zh G;have aw:=zh X;have az:=zh ah;have b1:=ζ G;have bz:=ζ F;rw[ak.out] at ag;have H:=ξ F 11;simp only[kob,zG,zH,zI] at H;rw[ak.out] at H;have am:=ψ G 11;have ba:=ξ G 11;simp only[kob,zG,zH,zI] at ba;clear a F G ad ae Z N O X a7 ah a4 a6 af
   go_wp2_with (at_builtin;(with_reducible refine qL9 ?_ ?_ ag ?_);rfl;rfl)
   go_ret;have a3:Kp (B::k.ts.ownBlock.toList) b w6:=(((aw.mono sM).alloc _).grown av (λi z=>Or.inl (by simp[z])));have a2:Kp (B::k.ts.ownBlock.toList) Q (w6.setCell ⟨B,11,none⟩ (.slice U (tbs.length+1) V)):=((aa.mono sM).trans a3 (λi z _=>z)).sc _;refine⟨sM,Q,x,b.heap.size,.slice U (tbs.length+1) V,_,J.1,J.2,az,?_,μ T 11 _,?_,a2,?_,ax⟩
   .exact (qB2 (qA1 ab T dC) _ _).trans ab
   .refine qG7 (S:=[B]) (by rw[qQ2,List.map_append];exact ay) (kF.sc _) (λi c t fr y I=>?_);rw[mS I,T.out] at y;cases y;decide
   .intro i z;simpa using z
theorem kE1{w}{g:Nat}{a b c d e:Int}{tg}(h:w.heap[g]?=some (.cells #[.int .u8 a,.int .u8 b,.int .u8 c,.int .u8 d,.int .u8 e] tg)):
  ∃ s,Sem.run prog (convert 118 9 (.slice (some ⟨g,0,none⟩) 5 5)) w=.ok (.string s) w:=by
 rw[run_convert_bytes_string w _ _ _ _ _ _ underlying118 underlying5 underlying9];have f:=zB6 (P:=prog) (o:=0) (n:=5) h sM;have e:qB0 #[.int .u8 a,.int .u8 b,.int .u8 c,.int .u8 d,.int .u8 e] 0 5=(([a,b,c,d,e]:List Int).map (.int .u8)).toArray:=by rfl
 rw[e] at f;exact⟨_,run_bytesToString w _ _ _ _ f⟩
theorem zQ3(n:Int)(w):
  Calls prog 244 #[.int .i64 n] w λe a=>∃ s,e=.returned (.string s)/\Kp [] w a:=by
 obtain⟨s,b⟩:=kE1 (υ w (.cells #[.int .u8 (n / 16777216 % 256),.int .u8 (n / 65536 % 256),.int .u8 (n / 256 % 256),.int .u8 (n % 256),.int .u8 33] 5));go_enter func244,ntmps244;go_wp2;go_ret;exact⟨_,rfl,kF.alloc _⟩
theorem kD7{P:Program}(w)(dT sT ty elem)(g dCap n:Nat)(a)(sCap:Nat)(cur)(t)(cs:List Value)
  (p:P.underlying dT=some (.slice elem)) (b:(P.info? elem).map (·.size)=some 2)
  (f:w.heap[g]?=some (.cells cur t (0,0))) (l:cs.length=n*2)
  (o:∀ j v,cs[j]?=some v->w.cell? (a.add j)=some v) (e:cs.length<=cur.size) (d:∀ v∈cs,v.oneCell'=true):
  (Builtin.copy_ #[dT,sT] ty #[.slice (some ⟨g,0,none⟩) n dCap,.slice (some a) n sCap]).run P w =
   .ok (goInt n) (w.setRow g (cs++cur.toList.drop cs.length).toArray):=by
 have k:=run_loadCells_list (P:=P) w a cs o;have c:=run_storeCells_at P g 0 t cs 0 cur w f (by simpa using e) d;have m:=l.symm;simp only[Nat.add_zero,Nat.zero_add,List.take_zero,nA] at c
 cases hq:P.info? elem with
 | none=>simp[hq] at b
 | some i=>
  have h:i.size=2:=by simpa [hq] using b
  simp[Builtin.copy_,run_underlying p,Builtin.lenOf,Builtin.firstCells,sizeOf,typeInfo,hq,h,m,k,c]
theorem kF3:(prog.info? 42).map (·.size)=some 2:=kR
theorem jN8:(prog.info? 29).map (λi=>(i.zero,i.size,i.bytes))=some (some (.slice none 0 0),1,24):=kR
theorem xP1(w)(base g:Nat)(v)(n:Nat)(xs:List Value)(u)(ty)
  (h:w.ownsRow base 29 1 v n xs) (q:n<=1000000) (d:w.heap[g]?=some (.cells #[u] 29)) (f:u.oneCell'=true) (c:base<=w.heap.size):
  ∃ a b,Sem.run prog (Builtin.append_ #[128,128] ty #[v,.slice (some ⟨g,0,none⟩) 1 1]) w=.ok a b/\b.ownsRow base 29 1 a (n+1) (xs++[u])/\w.grownBy b v.ownBlock/\∀ k,a.ownBlock=some k->v.ownBlock=some k\/w.heap.size<=k:=by
 obtain⟨p,e,l,m,o⟩:=info_parts jN8;exact xP4 (P:=prog) w base 128 ty 29 p _ 1 24 underlying128 e l m o rfl dC v n _ h ⟨g,0,none⟩ 1 1 [u] sM (λj v i=>by
  rw[qH0,ξ d];simpa using i) (by simpa using f) (by unfold maxLen;omega) oM c
theorem kD8{w}{l}{ps}{Z}(u:SPA w l ps)(o:Z.size=ps.length*2)(ty):
  ∃ d,Sem.run prog (Builtin.copy_ #[29,29] ty #[.slice (some ⟨w.heap.size,0,none⟩) ps.length ps.length,l]) (w.alloc (.cells Z 42))=.ok (.int .i64 ps.length) d/\d.heap[w.heap.size]?=some (.cells (qA4 ps).toArray 42)/\Kp [] w d:=by
 have h:=υ w (.cells Z 42);have x:=qR1 ps;have t:Z.toList.drop (qA4 ps).length=[]:=List.drop_eq_nil_of_le sO;have key:∀ (a:Addr) (c:Nat),l=.slice (some a) ps.length c->(∀ j v,(qA4 ps)[j]?=some v->(w.alloc (.cells Z 42)).cell? (a.add j)=some v)->∃ d,Sem.run prog (Builtin.copy_ #[29,29] ty #[.slice (some ⟨w.heap.size,0,none⟩) ps.length ps.length,l]) (w.alloc (.cells Z 42))=.ok (ϊ ps.length) d/\d.heap[w.heap.size]?=some (.cells (qA4 ps).toArray 42)/\Kp [] w d:=by
  intro a c e r;have f:=kD7 (P:=prog) (w.alloc (.cells Z 42)) 29 29 ty 42 w.heap.size ps.length ps.length a c Z 42 (qA4 ps) underlying29 kF3 h x r oM (xN4 ps);rw[t,aN] at f;refine⟨_,by rw[e];exact f,by rw[setRow_heap _ _ _ _ _ _ h],(kF.alloc _).setRow sM _⟩
 rcases u.val with⟨k,b,c,e,q⟩|⟨g,C,cap,cur,z,e,A,B,m,n⟩
 .have y:=List.length_eq_zero_iff.1 k;subst y
  cases b with
  | none=>
   have s:=q rfl;subst s;have f:=run_copy_nil prog (w.alloc (.cells Z 42)) 29 29 ty 42 ⟨w.heap.size,0,none⟩ 0 0 underlying29 kR;have p:=Array.size_eq_zero_iff.1 (by simpa using o);refine⟨_,by rw[e];exact f,by rw[h,p];rfl,kF.alloc _⟩
  | some a=>exact key a c e (λj v i=>by simp[qA4] at i)
 .refine key _ cap e (λj v i=>?_);rw[qH0,ξ (ρ _ m)];exact n j v i
structure HEnt where
 l:Value
 c:Value
 ps:List KV
structure Held(w:World)(base:Nat)(k:KF)(hs:List HEnt):Prop where
 li:w.ownsRow base 29 1 k.li hs.length (hs.map HEnt.l)
 wa:w.ownsRow base 29 1 k.wa hs.length (hs.map HEnt.c)
 two:∀ i,k.li.ownBlock=some i→k.wa.ownBlock≠some i
 eq:∀ x∈hs,SPA w x.l x.ps∧SPA w x.c x.ps
theorem qU5{w:World}{base n sz:Nat}{T:TypeId}{v:Value}{xs:List Value}(h:w.ownsRow base T sz v n xs):∀ i,v.ownBlock=some i->∃ c,w.heap[i]?=some (.cells c T):=by
 intro i a;rcases h.2 with⟨d,b⟩|⟨g,cap,cur,b,f,e,j⟩
 .rw[d] at a;cases a
 .rw[b] at a;simp[Value.ownBlock] at a;subst a;exact⟨_,e⟩
def zK9(k:KF)(B base:Nat)(hs:List HEnt)(l:Value)(ps:List KV)(w w':World):Prop:=
 ∃ li' wa' c' L,w'.heap[B]?=some (kob { k with li:=li',wa:=wa' })∧Held w' base { k with li:=li',wa:=wa' } (hs++[⟨l,c',ps⟩])∧Kp L w w'∧(∀ i∈L,i=B∨k.li.ownBlock=some i∨k.wa.ownBlock=some i)∧
  (∀ i,li'.ownBlock=some i→k.li.ownBlock=some i∨w.heap.size≤i)∧(∀ i,wa'.ownBlock=some i→k.wa.ownBlock=some i∨w.heap.size≤i)
theorem xF6(B base:Nat)(k:KF)(b:List HEnt)(l)(ps)(w)(W:w.heap[B]?=some (kob k))(hH:Held w base k b)(hl:SPA w l ps)(hn:ps.length<=1000000)(hk:b.length<=100000)(hb:base<=w.heap.size):
  Calls prog 245 #[.pointer (some ⟨B,0,none⟩),l] w λe w'=>e=.returned (.tuple #[])/\zK9 k B base b l ps w w':=by
 obtain⟨N,O,a4⟩:=hl.form;subst a4;have bh:=ζ W;have HB:=zh W;have d:=zh hH;have HL:=zh hl;clear W hH hl;go_enter func245,ntmps245
 go_wp2_with (refine xT7 (.agg #[.string ⟨#[]⟩,.string ⟨#[]⟩]) (.string ⟨#[]⟩) 2 32 underlying29 zO2 (by simp[Value.cells]) (by simp[Value.cells]) .i64 .i64 ps.length rfl rfl oM oM ?_;intro Z hZ a1)
 obtain⟨o,ao,Y,s⟩:=kD8 HL hZ 3;rw[ao];clear ao hZ a1;have C:=s.hp HB.out;have bj:=s.size;have bi:=ζ Y;have E:=qG7 d.li s (λ_ _ _ _ _ h=>by cases h);have M:=qG7 d.wa s (λ_ _ _ _ _ h=>by cases h);have a3:=World.ownsRow.lt d.li;have ar:=World.ownsRow.lt d.wa;obtain⟨pl,cl,al⟩:=qR9 E;obtain⟨pw,cw,am⟩:=qR9 M
 -- the lists
 obtain⟨v2,F,ap,ae,D,ac⟩:=xP1 (o.alloc (.cells #[.slice N ps.length O] 29)) base o.heap.size k.li b.length (b.map HEnt.l) (.slice N ps.length O) 128 (World.ownsRow.alloc E _) oM (υ _ _) rfl sO;have q:=qP7 E D C dC;have aq:=World.ownsRow.kept (World.ownsRow.alloc M _) D (by
  cases e:k.wa.ownBlock with
  | none=>exact .inl rfl
  | some i=>exact .inr (λh=>d.two i h.symm e))
 obtain⟨z,A,a7⟩:=qR9 ae;subst a7;have bk:o.heap.size+1<=F.heap.size:=by have:=((Kp.refl (k.li.ownBlock.toList) (o.alloc (.cells #[.slice N ps.length O] 29))).grown D (λi a=>Or.inl (by simp[a]))).size;simpa using this
 obtain⟨g,a9,G,I,a5⟩:∃ g,g=F.setCell ⟨B,12,none⟩ (.slice z (b.length+1) A)/\g.heap[B]?=some (kob { k with li:=.slice z (b.length+1) A })/\Kp [B] F g/\g.heap.size=F.heap.size:=⟨_,rfl,μ q 12 _,(Kp.refl _ _).sc _,by simp[World.setCell]⟩;have X:∀ i c t m,F.heap[i]?=some (.cells c t m)->i∈[B]->t≠29:=λi c t m f p=>by
  rw[List.mem_singleton.1 p,q] at f;cases f;decide
 have ab:=qG7 ae I X;have ag:=qG7 aq I X
 -- the copies
 obtain⟨v4,P,K,af,J,ad⟩:=xP1 (g.alloc (.cells #[.slice (some ⟨w.heap.size,0,none⟩) ps.length ps.length] 29)) base g.heap.size k.wa b.length (b.map HEnt.c) (.slice (some ⟨w.heap.size,0,none⟩) ps.length ps.length) 128 (World.ownsRow.alloc ag _) oM (υ _ _) rfl sO;have r:=qP7 ag J G dC;obtain⟨R,T,a8⟩:=qR9 af;subst a8;have HE:Hid (zK9 k B base b (.slice N ps.length O) ps w (P.setCell ⟨B,13,none⟩ (.slice R (b.length+1) T))):=by
  show zK9 _ _ _ _ _ _ _ _;obtain⟨Q,ba,ax,aa⟩:∃ Q,Q=P.setCell ⟨B,13,none⟩ (.slice R (b.length+1) T)/\Q.heap[B]?=some (kob { k with li:=.slice z (b.length+1) A,wa:=.slice R (b.length+1) T })/\Kp [B] P Q:=⟨_,rfl,μ r 13 _,(Kp.refl _ _).sc _⟩;rw[<-ba];obtain⟨L,a0⟩:=eX (B::(k.li.ownBlock.toList++k.wa.ownBlock.toList));have v:∀ i,i∈L↔i=B\/k.li.ownBlock=some i\/k.wa.ownBlock=some i:=λi=>by simp[a0]
  have ay:=((Kp.refl L o).alloc _).grown D (λi a=>Or.inl ((v i).2 (.inr (.inl a))));have az:=((Kp.refl L g).alloc _).grown J (λi a=>Or.inl ((v i).2 (.inr (.inr a))));have ai:=λi a=>(v i).2 (.inl (List.mem_singleton.1 a));have ak:=((ay.trans I (λi a _=>ai i a)).trans az (λi a _=>a)).trans aa (λi a _=>ai i a);have H:=(s.mono sM).trans ak (λi a _=>a);have aw:Apt o L [42]:=λi a c t m e=>by
   rcases (v i).1 a with h|h|h
   .rw[h,C] at e;cases e;decide
   .obtain⟨S,n⟩:=qU5 E i h;rw[n] at e;cases e;decide
   .obtain⟨S,n⟩:=qU5 M i h;rw[n] at e;cases e;decide
  have V:Apt w L [42]:=λi a c t m e=>by
   rcases (v i).1 a with h|h|h
   .rw[h,HB.out] at e;cases e;decide
   .obtain⟨S,n⟩:=qU5 d.li i h;rw[n] at e;cases e;decide
   .obtain⟨S,n⟩:=qU5 d.wa i h;rw[n] at e;cases e;decide
  have an:∀ i,Value.ownBlock (.slice z (b.length+1) A)=some i->k.wa.ownBlock≠some i:=λi h h'=>by
   rcases ac i h with f|f
   .exact d.two i f h'
   .have:=(ar i h').2;simp at f;omega
  have aj:∀ i c t m,P.heap[i]?=some (.cells c t m)->i∈[B]->t≠29:=λi c t m f p=>by
   rw[List.mem_singleton.1 p,r] at f;cases f;decide
  have a2:=World.ownsRow.kept (World.ownsRow.alloc ab (.cells #[.slice (some ⟨w.heap.size,0,none⟩) ps.length ps.length] 29)) J (by
   cases e:Value.ownBlock (.slice z (b.length+1) A) with
   | none=>exact .inl rfl
   | some i=>exact .inr (λh=>an i e h.symm))
  have a6:SPA o (.slice (some ⟨w.heap.size,0,none⟩) ps.length ps.length) ps:=by
   refine⟨qR1 ps,?_⟩;by_cases h0:ps.length=0
   .exact .inl ⟨h0,_,_,by rw[h0],λh=>by cases h⟩
   .exact .inr ⟨_,0,_,_,_,rfl,oM,Nat.le_refl _,Y,λj u hj=>by simpa using hj⟩
  refine⟨_,_,.slice (some ⟨w.heap.size,0,none⟩) ps.length ps.length,L,ax,⟨?_,?_,?_,?_⟩,H,λi a=>(v i).1 a,?_,?_⟩
  .have e:=qG7 a2 aa aj;simpa using e
  .have e:=qG7 af aa aj;simpa using e
  .intro i p h4;rcases ad i h4 with h|h
   .exact an i p h
   .have:=(World.ownsRow.lt ab i p).2;simp at h;omega
  .intro x y;rcases List.mem_append.1 y with y|y
   .exact⟨(d.eq x y).1.keep H V,(d.eq x y).2.keep H V⟩
   .rw[List.mem_singleton.1 y];exact⟨HL.keep H V,a6.keep ak aw⟩
  .intro i a;exact (ac i a).imp id (λh=>by simp at h;omega)
  .intro i a;exact (ad i a).imp id (λh=>by simp at h;omega)
 have bg:=ζ r;have bf:=ζ G;have be:=ζ q;have bd:=ζ C;have ah:=ξ C 12;simp only[kob,zG,zH,zI] at ah;have U:=ξ G 13;simp only[kob,zG,zH,zI] at U;have bb:=ψ q 12;have au:=ξ q 12;simp only[kob,zG,zH,zI] at au;have bc:=ψ r 13;have av:=ξ r 13;simp only[kob,zG,zH,zI] at av;rw[al] at ah ap;rw[am] at U K;rw[a5] at K;rw[a9] at U K;clear C q G r E M a3 ar ae D ac aq I X ab ag af J ad s Y al am
 go_wp2_with (at_builtin;first | ((with_reducible refine qL9 ?_ ?_ ap ?_);rfl;rfl) | ((with_reducible refine qL9 ?_ ?_ K ?_);rfl;rfl))
 go_end0
 exact⟨rfl,HE⟩
theorem Held.cellL{w}{base:Nat}{k:KF}{a:List HEnt}(h:Held w base k a){j:Nat}(i:j<a.length):∃ g c,k.li=.slice (some ⟨g,0,none⟩) a.length c/\a.length<=c/\g<w.heap.size/\w.cell? ⟨g,j,none⟩=some a[j].l:=by
 rcases h.li.2 with⟨l,b⟩|⟨g,cap,cur,b,m,d,f,n,o,p⟩
 .omega
 .refine⟨g,cap,b,f,ζ d,?_⟩;have e:=World.ownsRow.cells h.li (g:=g) (by rw[b];rfl) j a[j].l (by simp[i])
  rwa [qH0,Nat.zero_add] at e
theorem Held.cellW{w}{base:Nat}{k:KF}{a:List HEnt}(h:Held w base k a){j:Nat}(i:j<a.length):∃ g c,k.wa=.slice (some ⟨g,0,none⟩) a.length c/\a.length<=c/\g<w.heap.size/\w.cell? ⟨g,j,none⟩=some a[j].c:=by
 rcases h.wa.2 with⟨l,b⟩|⟨g,cap,cur,b,m,d,f,n,o,p⟩
 .omega
 .refine⟨g,cap,b,f,ζ d,?_⟩;have e:=World.ownsRow.cells h.wa (g:=g) (by rw[b];rfl) j a[j].c (by simp[i])
  rwa [qH0,Nat.zero_add] at e
theorem jT7(B base:Nat)(k:KF)(a:List HEnt)(w)(f:w.heap[B]?=some (kob k))(o:Held w base k a)(hn:a.length<=100000)(G:∀ x∈a,x.ps.length<=1000000):
  Calls prog 84 #[.pointer (some ⟨B,0,none⟩)] w λe Y=>e=.returned (.bool true)/\Kp [] w Y:=by
 obtain⟨pl,cl,r⟩:=qR9 o.li;have ag:=ζ f;have v:=ξ f 12;have y:=ξ f 13;simp only[kob,zG,zH,zI] at v y;rw[r] at v;have m:=zh o;have V:=zh r;have HL:=zh G;clear f o r G;go_enter func84,ntmps84;go_wp2_with fail
 go_loopw [3] (λi wr=>∃ (j:Nat),j<=a.length/\i=.int .i64 j/\∃ d,wr=w.drewN d) (λi _=>a.length-(intOf i).toNat)
 case atStart=>exact⟨0,zL _,rfl,0,rfl⟩
 case round=>
  obtain⟨j,hj,rfl,d,rfl⟩:=hrel;by_cases g:j<a.length
  .have W:(j:Int)<(a.length:Int):=oM
   obtain⟨g1,Z,n,ah,al,P⟩:=m.out.cellL g;obtain⟨g2,c2,A,ai,am,Q⟩:=m.out.cellW g;rw[V.out] at n;simp only[vJ,true_and] at n;obtain⟨rfl,rfl⟩:=n;rw[A] at y;obtain⟨b,c⟩:=m.out.eq a[j] (gM g);have H:=HL.out a[j] (gM g);obtain⟨⟨lv,cv,ps⟩,L⟩:∃ x,a[j]=x:=⟨_,rfl⟩;rw[L] at P Q b c H;simp only at P Q b c H;obtain⟨lb,lc,rfl⟩:=b.form;obtain⟨wb,wc,rfl⟩:=c.form;have s:=zh (n2 b c);clear b c L A;go_wp2_with fail
   go_loopw [4] (λq wr=>∃ (z:Nat),z<=ps.length/\q=.int .i64 z/\∃ d,wr=w.drewN d) (λq _=>ps.length-(intOf q).toNat)
   case atStart=>exact⟨0,zL _,rfl,d,rfl⟩
   case round=>
    obtain⟨z,hz,rfl,d',rfl⟩:=hrel;by_cases M:z<ps.length
    .have X:(z:Int)<(ps.length:Int):=oM
     obtain⟨g3,N,aa,ac,ae,J,aj,h,E⟩:=s.out.1.at oM;obtain⟨g4,O,ab,ad,af,K,ak,l,F⟩:=s.out.2.at oM;obtain⟨R,S⟩:=E z M;obtain⟨T,U⟩:=F z M;simp only[vJ,true_and] at J K;obtain⟨rfl,rfl⟩:=J;obtain⟨rfl,rfl⟩:=K;have t:=ξ h (N+z*2);rw[R] at t;have u:=ξ h (N+z*2+1);rw[S] at u;have C:=ξ l (O+z*2);rw[T] at C;have D:=ξ l (O+z*2+1);rw[U] at D;have an:=ζ h;have ao:=ζ l;obtain⟨p,I⟩:=eY (ps[z]);rw[I] at t u C D;clear E F R S T U h l I;go_wp2_with fail
     go_quiet (fail)
     go_wp2;exact⟨⟨z+1,oM,by go_num,_,rfl⟩,by simp[intOf];omega⟩
    .have X:¬(z:Int)<(ps.length:Int):=oM
     go_wp2;exact⟨⟨j+1,oM,by go_num,_,rfl⟩,by simp[intOf];omega⟩
  .have W:¬(j:Int)<(a.length:Int):=oM
   go_wp2;go_ret;exact⟨rfl,kF.drewN _⟩
theorem zS1(q)(qs):qA4 (q::qs)=.string q.k::.string q.v::qA4 qs:=by simp[qA4,pcs]
theorem xN5:∀ (a) (i:Nat) (p),((qA4 a).set (i*2) (.string p.k)).set (i*2+1) (.string p.v)=qA4 (a.set i p)
 | [],i,p=>by simp[qA4]
 | q::a,0,p=>by simp[zS1]
 | q::a,i+1,p=>by
  have h:=xN5 a i p;rw[show (i+1)*2=i*2+1+1 by omega,zC,zS1,zS1,zC,zC,zC,zC,h]
theorem Held.keep{w w'}{base:Nat}{k:KF}{f:List HEnt}{S}(h:Held w base k f)(a:ProgS w S)(hK:Kp S w w'):Held w' base k f:=
 ⟨qG7 h.li hK (λi c t j b d e=>absurd ((a i d).2 _ _ _ b) (by rw[e];decide)),qG7 h.wa hK (λi c t j b d e=>absurd ((a i d).2 _ _ _ b) (by rw[e];decide)),h.two,
  λx g=>⟨(h.eq x g).1.keep hK (a.apt dC),(h.eq x g).2.keep hK (a.apt dC)⟩⟩
theorem kE0(w)(base g:Nat)(l)(qs)(a b)(ty)(h:OPA w base l qs)(hn:qs.length<=1000000)(N:w.heap[g]?=some (.cells #[.string a.k,.string a.v,.string b.k,.string b.v] 42))(L:base<=w.heap.size):
  ∃ f c,Sem.run prog (Builtin.append_ #[29,29] ty #[l,.slice (some ⟨g,0,none⟩) 2 2]) w=.ok f c/\SPA c l qs/\OPA c base f (qs++[a,b])/\w.grownBy c l.ownBlock:=by
 obtain⟨r,m,B,q,C⟩:=info_parts zO2;have n:∀ j u,([.string a.k,.string a.v,.string b.k,.string b.v]:List Value)[j]?=some u->w.cell? ((⟨g,0,none⟩:Addr).add j)=some u:=λj v p=>by
  rw[qH0,ξ N];simpa using p
 have R:qA4 (qs++[a,b])=qA4 qs++[.string a.k,.string a.v,.string b.k,.string b.v]:=by simp[qA4,pcs]
 have x:∀ u∈([.string a.k,.string a.v,.string b.k,.string b.v]:List Value),u.oneCell'=true:=by simp[Value.oneCell']
 obtain⟨f,c,o,V,W,_⟩:=run_append_own (P:=prog) w base 29 ty 42 r _ 2 32 underlying29 m B q C rfl dC l qs.length _ h ⟨g,0,none⟩ 2 2 [.string a.k,.string a.v,.string b.k,.string b.v] rfl n x (by unfold maxLen;omega) oM L;have K:OPA c base f (qs++[a,b]):=by
  unfold OPA;rw[R,List.length_append];exact V
 refine⟨f,c,o,?_,K,W⟩;rcases h.2 with⟨I,Q⟩|⟨i,cap,cur,p,h2,h3,J,h5,h6,h7⟩
 .have S:=List.length_eq_zero_iff.1 Q;subst S;rw[I];exact SPA.nil _
 .subst p;by_cases T:qs.length+2<=cap
  .obtain⟨X,d,D,_⟩:=run_append_fits w base 29 ty 42 r 2 underlying29 m q i qs.length cap (qA4 qs) h ⟨g,0,none⟩ 2 2 [.string a.k,.string a.v,.string b.k,.string b.v] rfl n x T;rw[o] at d;cases d;rcases D.2 with⟨F,_⟩|⟨g',Y,E,s,Z,G,e4,e5,e6,H⟩
   .cases F
   .simp only[Value.slice.injEq,Option.some.injEq,Addr.mk.injEq,and_true,true_and] at s;obtain⟨rfl,rfl⟩:=s;refine⟨qR1 qs,?_⟩;by_cases A:qs.length=0
    .exact .inl ⟨A,_,_,by rw[A],λe=>by cases e⟩
    .refine .inr ⟨i,0,cap,E,_,rfl,oM,J,G,λj u y=>?_⟩;have z:=(List.getElem?_eq_some_iff.1 y).1;have t:(qA4 qs++[.string a.k,.string a.v,.string b.k,.string b.v])[j]?=some u:=by rw[List.getElem?_append_left z];exact y
     rw[<-H,List.getElem?_take_of_lt (by rw[qR1] at z;omega)] at t;simpa using t
  .have M:∀ j u,(qA4 qs)[j]?=some u->w.cell? ((⟨i,0,none⟩:Addr).add j)=some u:=World.ownsRow.cells h rfl;obtain⟨v2,X,d,D,U⟩:=run_append_arg_grows w 29 ty 42 r _ 2 32 underlying29 m B q C rfl dC ⟨i,0,none⟩ qs.length cap (qA4 qs) h.1 M ⟨g,0,none⟩ 2 2 [.string a.k,.string a.v,.string b.k,.string b.v] rfl n oM (by unfold maxLen;omega) oM;rw[o] at d;cases d;exact h.sp.keep0 ((Kp.refl [] w).grown U (λk O=>by cases O))
def zC8(k:KF)(B base n:Nat)(hs:List HEnt)(S:List Nat)(l:Value)(w0 w w':World):Prop:=
 ∃ li' wa' x y L,w'.heap[B]?=some (kob { k with li:=li',wa:=wa' })∧Held w' base { k with li:=li',wa:=wa' } (hs++[x,y])∧x.ps.length≤n+2∧y.ps.length≤n+2∧Kp L w0 w'∧(∀ i∈L,i∈S∨i=B∨k.li.ownBlock=some i∨k.wa.ownBlock=some i)∧
  (∀ i,li'.ownBlock=some i→k.li.ownBlock=some i∨w0.heap.size≤i)∧(∀ i,wa'.ownBlock=some i→k.wa.ownBlock=some i∨w0.heap.size≤i)∧
  ∃ L',Kp L' w w'∧∀ i∈L',l.ownBlock=some i∨i=B∨k.li.ownBlock=some i∨k.wa.ownBlock=some i
theorem Held.apt{w}{base B:Nat}{k:KF}{j:List HEnt}{L}(h:Held w base k j)(f:w.heap[B]?=some (kob k))(g:∀ i∈L,i=B\/k.li.ownBlock=some i\/k.wa.ownBlock=some i):Apt w L [42]:=λi hi c t fr e=>by
 rcases g i hi with a|a|a
 .rw[a,f] at e;cases e;decide
 .obtain⟨d,b⟩:=qU5 h.li i a;rw[b] at e;cases e;decide
 .obtain⟨d,b⟩:=qU5 h.wa i a;rw[b] at e;cases e;decide
theorem jQ5(B base:Nat)(k:KF)(q:List HEnt)(l)(ps)(S)(w0 w)(R:w0.heap[B]?=some (kob k))(U:Held w0 base k q)(Z:ProgS w0 S)(hK:Kp S w0 w)(hl:OPA w w0.heap.size l ps)(hn:ps.length<=99000)(hk:q.length<=90000)(hb:base<=w0.heap.size):
  Calls prog 202 #[.pointer (some ⟨B,0,none⟩),l] w λe w'=>e=.returned (.tuple #[])/\zC8 k B base ps.length q S l w0 w w':=by
 obtain⟨f,c,a9⟩:=hl.form;subst a9;have T:=Z.stay hK R dC;have bi:=ζ T;obtain⟨pl,cl,ar⟩:=qR9 U.li;have ae:=ξ T 12;simp only[kob,zG,zH,zI] at ae;rw[ar] at ae;have E:=zh (n4 R U Z hb);have HL:=zh (n2 hl hK);have br:wrap64 (100000*(q.length:Int))=100000*(q.length:Int):=by simp only[wrap64];omega
 obtain⟨n,ac⟩:=eY ps.length;rw[ac] at hn HL |-;clear R U Z hK hl hb T ar;have ay:=zh ac;clear ac;go_enter func202,ntmps202;go_wp2_with fail
 go_loopw [5,6] (λi m wr=>∃ (j:Nat) (b:List KV),j<=n/\i=.int .i64 j/\Hid (b.length=n)/\OPA wr w0.heap.size (.slice f n c) b/\Kp S w0 wr/\Kp (oB (.slice f n c)).toList w wr) (λi _ _=>n-(intOf i).toNat)
 case atStart=>exact⟨0,ps,zL _,rfl,ay,HL.1,HL.2,Kp.refl _ _⟩
 case round=>
  obtain⟨j,b,hj,rfl,v,Q,hK,N⟩:=hrel;by_cases av:j<n
  .have a6:(j:Int)<(n:Int):=oM
   go_wp2_with fail;refine (zQ3 _ _).mono ?_;rintro e C ⟨s,rfl,o⟩;have y:OPA C w0.heap.size (.slice f n c) b:=qG7 Q o (λ_ _ _ _ _ h=>by cases h);have aj:=hK.tr o;have ak:=N.tr o;rcases y.2 with⟨h0,bl⟩|⟨g,cap,cur,hv,h2,J,h4,h5,h6,h7⟩
   .have:=v.out;omega
   simp only[vJ] at hv;obtain⟨rfl,ba,rfl⟩:=hv;clear ba;have bk:=ζ J;have aq:j<b.length:=by have:=v.out;omega
   have aa:=λi u hu=>by
    have e:=World.ownsRow.cells y (g:=g) rfl i u hu
    rwa [qH0,Nat.zero_add] at e
   have a0:=aa _ _ (qR7 aq).1;have a1:=aa _ _ (qR7 aq).2;have f0:=ψ J (j*2);have f1:=ψ J (j*2+1);obtain⟨p,hp⟩:=eY (b[j]);rw[hp] at a0 a1;have F:Hid (OPA C w0.heap.size (.slice (some ⟨g,0,none⟩) n c) b/\Kp S w0 C/\w0.heap.size<=g/\Kp [g] w C):=⟨y,aj,h2,ak⟩;have bm:n<=c:=by have:=v.out;omega
   clear h2 J h4 h5 h6 h7 aa hp y aj o Q hK N ak;go_wp2;refine⟨⟨j+1,b.set j ⟨s,⟨#[]⟩⟩,oM,by go_num,?_,?_,?_,?_⟩,by simp[intOf];omega⟩
   .show (b.set j _).length=n;rw[List.length_set];exact v.out
   .have y:C.ownsRow w0.heap.size 42 2 (.slice (some ⟨g,0,none⟩) n c) n (qA4 b):=by have h:=F.out.1;unfold OPA at h;rw[v.out] at h;exact h
    have e2:=(World.ownsRow.stored (World.ownsRow.stored y (j*2) (.string s)).1 (j*2+1) (.string ⟨#[]⟩)).1;have e3:=xN5 b j ⟨s,⟨#[]⟩⟩;simp only at e3;rw[e3] at e2;unfold OPA;rw[List.length_set,v.out];exact e2
   .exact (F.2.1.setCell (p:=⟨g,_,none⟩) (Or.inr F.2.2.1) _).setCell (p:=⟨g,_,none⟩) (Or.inr F.2.2.1) _
   .exact (F.2.2.2.setCell (p:=⟨g,_,none⟩) sM _).setCell (p:=⟨g,_,none⟩) sM _
  .have a6:¬(j:Int)<(n:Int):=oM
   go_wp2_with fail;refine (zQ3 _ _).mono ?_;rintro e C ⟨G,rfl,o⟩;go_wp2_with fail;refine (zQ3 _ _).mono ?_;rintro e w2 ⟨H,rfl,M⟩;have V:=(hK.tr o).tr M;have Y:OPA w2 w0.heap.size (.slice f n c) b:=qG7 (qG7 Q o (λ_ _ _ _ _ h=>by cases h)) M (λ_ _ _ _ _ h=>by cases h);have bc:=V.size;have al:=(N.tr o).tr M;have bb:=v.out;obtain⟨v4,D,aw,ao,an,ab⟩:=kE0 (w2.alloc (.cells #[.string G,.string ⟨#[]⟩,.string H,.string ⟨#[]⟩] 42)) w0.heap.size w2.heap.size (.slice f n c) b ⟨G,⟨#[]⟩⟩ ⟨H,⟨#[]⟩⟩ 29 (Y.alloc _) oM (υ _ _) sO;have r:=(V.alloc _).grown ab (λi a=>Or.inr (Y.low i a));have am:=(al.alloc _).grown ab (λi a=>Or.inl (by simp[a]));have ad:=zh am;have K:=E.out.2.2.1.stay r E.1 dC;have L:=E.out.2.1.keep E.2.2.1 r;have bd:=r.size;have bj:=E.out.2.2.2;have I:Hid (Kp S w0 D/\Ϙ D B (kob k)/\Held D base k q/\SPA D v4 (b++[⟨G,⟨#[]⟩⟩,⟨H,⟨#[]⟩⟩])/\w0.heap.size<=D.heap.size/\b.length=n):=⟨r,K,L,an.sp,bd,bb⟩;clear ab an r Y V bc o M Q hK N al am
   go_wp2_with (at_builtin;(with_reducible refine qL9 ?_ ?_ aw ?_);rfl;rfl)
   refine (xF6 B base k q (.slice f n c) b D K L ao oM oM oM).mono ?_;rintro e w5 ⟨rfl,be,bg,c1,L1,af,ah,t,x,z,A⟩;have ap:=I.out.2.2.2.1.keep t (I.2.2.1.apt I.2.1 x);have bq:=t.size;have a7:(q++[HEnt.mk (.slice f n c) c1 b]).length<=100000:=sO
   have a8:(b++[KV.mk G ⟨#[]⟩,KV.mk H ⟨#[]⟩]).length<=1000000:=sO
   have HV:=zh (n4 t x z A);clear K L ao aw t x z A;go_wp2_with fail;refine (xF6 B base { k with li:=be,wa:=bg } _ v4 _ w5 af ah ap a8 a7 oM).mono ?_;rintro e w6 ⟨rfl,bf,bh,c2,L2,ag,ai,W,X,au,ax⟩;have HE:Hid (zC8 k B base n q S (.slice f n c) w0 w w6):=by
    show zC8 _ _ _ _ _ _ _ _ _ _;obtain⟨r,K,L,_,bo,bn⟩:=I.out;obtain⟨t,x,z,A⟩:=HV.out;obtain⟨LL,a4⟩:=eX (S++(B::(k.li.ownBlock.toList++k.wa.ownBlock.toList)));have O:∀ i,i∈LL↔i∈S\/i=B\/k.li.ownBlock=some i\/k.wa.ownBlock=some i:=λi=>by simp[a4]
    have az:=(r.mono (λi a _=>(O i).2 (.inl a))).trans t (λi a _=>(O i).2 (.inr (x i a)));have a2:=az.trans W (λi a av=>(O i).2 (by
     rcases X i a with h|h|h
     .exact .inr (.inl h)
     .rcases z i h with d|d
      .exact .inr (.inr (.inl d))
      .omega
     .rcases A i h with d|d
      .exact .inr (.inr (.inr d))
      .omega))
    refine⟨bf,bh,⟨.slice f n c,c1,b⟩,⟨v4,c2,b++[⟨G,⟨#[]⟩⟩,⟨H,⟨#[]⟩⟩]⟩,LL,ag,by simpa using ai,by show b.length<=n+2;omega,sO,a2,λi a=>(O i).1 a,?_,?_,?_⟩
    .intro i a;rcases au i a with h|h
     .exact (z i h).imp id (λh=>by omega)
     .exact .inr oM
    .intro i a;rcases ax i a with h|h
     .exact (A i h).imp id (λh=>by omega)
     .exact .inr oM
    .obtain⟨LM,a5⟩:=eX ((oB (.slice f n c)).toList++(B::(k.li.ownBlock.toList++k.wa.ownBlock.toList)));have P:∀ i,i∈LM↔oB (.slice f n c)=some i\/i=B\/k.li.ownBlock=some i\/k.wa.ownBlock=some i:=λi=>by simp[a5]
     have bp:=ad.out.size;have a3:=(ad.mono (λi a _=>(P i).2 (.inl (by simpa using a)))).trans t (λi a _=>(P i).2 (.inr (x i a)));refine⟨LM,a3.trans W (λi a av=>(P i).2 ?_),λi a=>(P i).1 a⟩;rcases X i a with h|h|h
     .exact .inr (.inl h)
     .rcases z i h with d|d
      .exact .inr (.inr (.inl d))
      .omega
     .rcases A i h with d|d
      .exact .inr (.inr (.inr d))
      .omega
   clear af ah ap ag ai W X au ax;go_wp2
   go_end0
   exact⟨rfl,HE⟩
variable {κ:Nat}
theorem xF5(N a rs:Int):(qB6 N a rs).take 32=toB (qG9 N a rs):=by
 have h:(toB (qG9 N a rs)).length=32:=by rw[qN9,zT5]
 rw[qB6,List.take_append_of_le_length oM,tL oM]
theorem zN9(N a rs:Int):qB6 N a rs=toB qJ6++(toB (qB5 2 a)++(toB (qB5 8 N)++(toB (qB5 8 rs)++(toB (qB5 8 (fnv (qJ2 N a rs)))++List.replicate 96 0)))):=by
 simp only[qB6,qG9]
 conv=>lhs;rw[qI0]
 simp only[qJ2,qI0,aA]
theorem xF3(N a rs:Int)(b:0<=N)(c:N<18446744073709551616):qG6 (qE3 (((qB6 N a rs).drop 8).take 8))=N:=by
 have e:((qB6 N a rs).drop 8).take 8=toB (qB5 8 N):=by
  rw[zN9,<-aA (toB qJ6)];exact zM7 _ _ _ 8 8 (by simp[qN9,qH9,qJ6]) (by simp[qN9,qH9])
 rw[e,qM8 _ (qK9 8 N),qP1 8 N dC b];have:(256:Int) ^ 8=18446744073709551616:=dC
 omega
theorem xF2(N a rs:Int)(b:0<=a)(c:a<=1000):qG6 (qE3 (((qB6 N a rs).drop 6).take 2))=a:=by
 have e:((qB6 N a rs).drop 6).take 2=toB (qB5 2 a):=by
  rw[zN9];exact zM7 _ _ _ 6 2 (by simp[qN9,qJ6]) (by simp[qN9,qH9])
 rw[e,qM8 _ (qK9 2 a),qP1 2 a dC b];have:(256:Int) ^ 2=65536:=dC
 omega
theorem xF4(N a rs:Int)(b:0<=rs)(c:rs<18446744073709551616):qG6 (qE3 (((qB6 N a rs).drop 16).take 8))=rs:=by
 have e:((qB6 N a rs).drop 16).take 8=toB (qB5 8 rs):=by
  rw[zN9,<-aA (toB qJ6),<-aA (toB qJ6++toB (qB5 2 a))];exact zM7 _ _ _ 16 8 (by simp[qN9,qH9,qJ6]) (by simp[qN9,qH9])
 rw[e,qM8 _ (qK9 8 rs),qP1 8 rs dC b];have:(256:Int) ^ 8=18446744073709551616:=dC
 omega
structure HeadOk(i:Nat)(N rb rs:Int):Prop where
 place:N % 2=(i:Int)
 n0:0≤N
 n1:N<18446744073709551616
 b0:0≤rb
 b1:rb≤1000
 s0:0≤rs
 s1:rs<18446744073709551616
theorem qR5(l)(h:l.length<=8):0<=qG6 (qE3 l)/\qG6 (qE3 l)<(256:Int) ^ l.length:=by
 have a:=zD7 l;rw[zH9 _ a (by rw[qV4];exact h)];have:=zR0 _ a
 rwa [qV4] at this
def Valid(l:List UInt8)(i:Nat)(N rb rs:Int):Prop:=qG6 (qE3 (((ω l i).drop 8).take 8))=N∧qG6 (qE3 (((ω l i).drop 6).take 2))=rb∧qG6 (qE3 (((ω l i).drop 16).take 8))=rs∧N % 2=(i:Int)∧toB (qG9 N rb rs)=(ω l i).take 32
theorem qN8(x:List UInt8)(a b:Nat)(h:a+b<=32):(x.drop a).take b=((x.take 32).drop a).take b:=by rw[List.drop_take,List.take_take,Nat.min_eq_left oM]
theorem Valid.sec{l l2}{i:Nat}{N e rs:Int}(h:Valid l i N e rs)(a:(ω l2 i).take 32=(ω l i).take 32):Valid l2 i N e rs:=by
 obtain⟨b,c,d,f,g⟩:=h;rw[qN8 _ 8 8 oM,<-a,<-qN8 _ 8 8 oM] at b;rw[qN8 _ 6 2 oM,<-a,<-qN8 _ 6 2 oM] at c;rw[qN8 _ 16 8 oM,<-a,<-qN8 _ 16 8 oM] at d;exact⟨b,c,d,f,g.trans a.symm⟩
theorem Valid.laid{l}{i:Nat}{N b rs:Int}(c:(ω l i).take 32=(qB6 N b rs).take 32)(a:HeadOk i N b rs):Valid l i N b rs:=by
 refine⟨?_,?_,?_,a.place,?_⟩
 .rw[qN8 _ 8 8 oM,c,<-qN8 _ 8 8 oM];exact xF3 N b rs a.n0 a.n1
 .rw[qN8 _ 6 2 oM,c,<-qN8 _ 6 2 oM];exact xF2 N b rs a.b0 a.b1
 .rw[qN8 _ 16 8 oM,c,<-qN8 _ 16 8 oM];exact xF4 N b rs a.s0 a.s1
 .rw[c,xF5]
theorem Valid.bnd{l}{i:Nat}{N d rs:Int}(h:Valid l i N d rs)(e:(ω l i).length=128):0<=N/\N<18446744073709551616/\0<=d/\0<=rs:=by
 have b:=qR5 (((ω l i).drop 8).take 8) (by rw[lK];omega);have a:=qR5 (((ω l i).drop 6).take 2) (by rw[lK];omega);have c:=qR5 (((ω l i).drop 16).take 8) (by rw[lK];omega);rw[lK,lD,e,h.1] at b;rw[h.2.1] at a;rw[h.2.2.1] at c;exact⟨b.1,b.2,a.1,c.1⟩
def IsHd(l:List UInt8)(i:Nat):Option (Int × Int × Int)→Prop
 | some h=>Valid l i h.1 h.2.1 h.2.2
 | none=>∀ N rb rs,¬Valid l i N rb rs
def qN1:Option (Int × Int × Int)→Value
 | some h=>qI6 h.1 h.2.1 h.2.2
 | none=>qI6 0 0 0
theorem IsHd.is(l)(i:Nat):∃ h,IsHd l i h:=by
 by_cases h:∃ N a rs,Valid l i N a rs
 .obtain⟨N,a,rs,h⟩:=h;exact⟨some (N,a,rs),h⟩
 .exact⟨none,λN a rs b=>h ⟨N,a,rs,b⟩⟩
theorem IsHd.sec{l l2}{i:Nat}{h:Option (Int × Int × Int)}(a:IsHd l i h)(b:(ω l2 i).take 32=(ω l i).take 32):IsHd l2 i h:=by
 cases h with
 | some h=>exact Valid.sec a b
 | none=>exact λN d rs c=>a N d rs (c.sec b.symm)
def qU3(N N':Int):Bool:=decide (0<wrap64 (IntKind.u64.wrap (N-N')))
theorem jV3{N a:Int}(h:N=upN a)(b:0<=a)(c:a<18446744073709551616):qU3 N a=true/\qU3 a N=false:=by
 unfold qU3;rw[h];unfold upN;refine⟨?_,?_⟩<;>simp only[wrap64,IntKind.wrap_u64,decide_eq_true_eq,decide_eq_false_iff_not]<;>omega
theorem jV4(N f a b c d:Int)(w):
  Calls prog 206 #[.agg #[.int .u64 N,.int .i64 a,.int .u64 b],.agg #[.int .u64 f,.int .i64 c,.int .u64 d]] w λe g=>e=.returned (.bool (qU3 N f))/\Below w.heap.size w g:=by
 go_enter func206,ntmps206;go_wp2;go_ret;exact⟨rfl,((Below.refl _ _).alloc lR _).alloc sM _⟩
def qI3:Option (Int × Int × Int)→Option (Int × Int × Int)→Option (Int × Int × Int)
 | a,none=>a
 | none,some b=>some b
 | some a,some b=>if qU3 b.1 a.1 then some b else some a
def Heads(l:List UInt8)(N rb rs:Int):Prop:=∃ d0 d1,IsHd l 0 d0∧IsHd l 1 d1∧qI3 d0 d1=some (N,rb,rs)
theorem Heads.same{l l2}{N b rs:Int}(h:Heads l N b rs)(a:∀ k,k<2->(ω l2 k).take 32=(ω l k).take 32):Heads l2 N b rs:=by
 obtain⟨c,d,e,f,g⟩:=h;exact⟨c,d,e.sec (a 0 oM),f.sec (a 1 oM),g⟩
theorem Heads.valid{l}{N g rs:Int}(h:Heads l N g rs):∃ i:Nat,i<2/\N % 2=(i:Int)/\Valid l i N g rs:=by
 obtain⟨j,f,d,e,c⟩:=h
 cases j with
 | none=>
  cases f with
  | none=>cases c
  | some b=>cases c;exact⟨1,oM,e.2.2.2.1,e⟩
 | some a=>
  cases f with
  | none=>cases c;exact⟨0,oM,d.2.2.2.1,d⟩
  | some b=>
   simp only[qI3] at c;split at c
   .cases c;exact⟨1,oM,e.2.2.2.1,e⟩
   .cases c;exact⟨0,oM,d.2.2.2.1,d⟩
theorem Heads.next{l}{i j:Nat}{N a f rs c d:Int}(b:Valid l i N f rs)(e:Valid l j a c d)(m:a=upN N)(p:i<2)(q:j<2)(g:(ω l i).length=128):Heads l a c d:=by
 have n:=b.2.2.2.1;have o:=e.2.2.2.1;have r:=zC1 N;have h:=jV3 m (b.bnd g).1 (b.bnd g).2.1;have k:(i=0/\j=1)\/(i=1/\j=0):=oM
 rcases k with⟨rfl,rfl⟩|⟨rfl,rfl⟩
 .exact⟨some (N,f,rs),some (a,c,d),b,e,by simp[qI3,h.1]⟩
 .exact⟨some (a,c,d),some (N,f,rs),e,b,by simp[qI3,h.2]⟩
theorem Heads.made{l}{i j:Nat}{N d rs a b:Int}(c:ω l i=qB6 (upN N) d rs)(e:ω l j=qB6 (upN (upN N)) a b)(f:i<2)(g:j<2)(h:HeadOk i (upN N) d rs)(k:HeadOk j (upN (upN N)) a b):Heads l (upN (upN N)) a b:=
 Heads.next (Valid.laid (by rw[c]) h) (Valid.laid (by rw[e]) k) rfl f g (by rw[c,qI7])
theorem xK1:∀ xs:List Int,(∀ x∈xs,0<=x/\x<256)->qB5 xs.length (qL6 xs)=xs
 | [],_=>rfl
 | x::xs,h=>by
  have c:=h x sM;have b:=xK1 xs (λy a=>h y (by simp[a]));simp only[lC,qL6,qB5];rw[show (x+256*qL6 xs) % 256=x by omega,show (x+256*qL6 xs) / 256=qL6 xs by omega,b]
theorem xK0(l)(h:l.length<=8):qB5 l.length (qG6 (qE3 l))=qE3 l:=by
 have a:=zD7 l;rw[zH9 _ a (by rw[qV4];exact h)];have:=xK1 _ a
 rwa [qV4] at this
theorem xS1(l):toB (qE3 l)=l:=by
 unfold toB qE3;rw[List.map_map];refine Eq.trans (List.map_congr_left (g:=id) λb _=>?_) (List.map_id _);simp only[Function.comp,Int.toNat_natCast,id];exact UInt8.ofNat_toNat
theorem qS3(l:List UInt8):(ByteArray.mk l.toArray).size=l.length:=by simp[ByteArray.size]
theorem qV0{α:Type}(l:List α)(a b:Nat):l.take (a+b)=l.take a++(l.drop a).take b:=List.take_add
theorem kA2(b:List UInt8)(c a d:Nat)(m:c+(1+a+d)<=b.length)(x:UInt8)(l:b[c]?=some x)(n:x.toNat=a*16+d)(i:1<=a)(j:a<=8)(k:d<=12):
  ∃ p,qC3 p/\θ p=1+a+d/\(b.drop c).take (θ p)=toB (qD7 p):=by
 have e:((b.drop (c+1)).take a).length=a:=sO
 have f:((b.drop (c+1+a)).take d).length=d:=sO
 have g:θ ⟨⟨((b.drop (c+1)).take a).toArray⟩,⟨((b.drop (c+1+a)).take d).toArray⟩⟩=1+a+d:=by
  simp only[θ,qS3,e,f]
 refine⟨⟨⟨((b.drop (c+1)).take a).toArray⟩,⟨((b.drop (c+1+a)).take d).toArray⟩⟩,⟨?_,?_,?_⟩,g,?_⟩
 .show 1<=(ByteArray.mk ((b.drop (c+1)).take a).toArray).size;rw[qS3,e];exact i
 .show (ByteArray.mk ((b.drop (c+1)).take a).toArray).size<=8;rw[qS3,e];exact j
 .show (ByteArray.mk ((b.drop (c+1+a)).take d).toArray).size<=12;rw[qS3,f];exact k
 .have h:toB [((a:Nat):Int)*16+((d:Nat):Int)]=[x]:=by
   simp only[toB,List.map_cons,List.map_nil];rw[show (((a:Nat):Int)*16+((d:Nat):Int)).toNat=x.toNat by omega,UInt8.ofNat_toNat]
  rw[g,qD7,qI0,qI0,qS8,qS8];simp only[qS3,e,f,h];rw[Nat.add_assoc,qV0,qV0,List.drop_drop,List.drop_drop,aA]
  congr 1
  rw[List.take_one,List.head?_drop,l];rfl
theorem jT6(b:List UInt8)(a c:Nat)(o:a+(11+c)<=b.length)(x:UInt8)(l:b[a+10]?=some x)(p:x.toNat=c)(k:c<=8):
  ∃ h:HL,h.p=none/\h.key.size<=8/\0<=h.b/\h.b<65536/\0<=h.s/\h.s<18446744073709551616/\φ h=11+c/\(b.drop a).take (φ h)=toB (qD9 h):=by
 have g:((b.drop a).take 2).length=2:=sO
 have ls:((b.drop (a+2)).take 8).length=8:=sO
 have f:((b.drop (a+11)).take c).length=c:=sO
 have d:=qR5 ((b.drop a).take 2) oM;have e:=qR5 ((b.drop (a+2)).take 8) oM;rw[g] at d;rw[ls] at e;have m:(256:Int) ^ 2=65536:=dC
 have n:(256:Int) ^ 8=18446744073709551616:=dC
 have n2:=xK0 ((b.drop a).take 2) oM;have i:=xK0 ((b.drop (a+2)).take 8) oM;rw[g] at n2;rw[ls] at i;refine⟨⟨⟨((b.drop (a+11)).take c).toArray⟩,qG6 (qE3 ((b.drop a).take 2)),qG6 (qE3 ((b.drop (a+2)).take 8)),none⟩,rfl,by show (ByteArray.mk _).size<=8;rw[qS3,f];exact k,d.1,by rw[<-m];exact d.2,e.1,by rw[<-n];exact e.2,by simp only[φ,qS3,f],?_⟩;have j:toB [((c:Nat):Int)]=[x]:=by
  simp only[toB,List.map_cons,List.map_nil];rw[show (((c:Nat):Int)).toNat=x.toNat by omega,UInt8.ofNat_toNat]
 simp only[φ,qD9,qS3,f];rw[qI0,qI0,qI0,qS8,n2,i,xS1,xS1,j];rw[show 11+c=2+(8+(1+c)) by omega,qV0,qV0,qV0,List.drop_drop,List.drop_drop,List.drop_drop,aA,aA,show a+2+8=a+10 by omega,show a+10+1=a+11 by omega]
 congr 2
 rw[List.take_one,List.head?_drop,l];rfl
theorem qY4{w:World}{B b:Nat}{a:List UInt8}{t:TypeId}{x:UInt8}(c:w.heap[B]?=some (.cells (enc a) t))(d:a[b]?=some x):w.cell? ⟨B,b,none⟩=some (.int .u8 ((x.toNat:Nat):Int)):=by
 rw[ξ c];unfold enc qC0;rw[zG,List.getElem?_map,d];rfl
theorem kB5(B b o:Nat)(bl)(v)(w)(d:w.heap[B]?=some (.cells (enc bl) 288))(s:bl.length=128)(n:b<=128)(i:b<128->o=b)
  (h:∀ p,qC3 p->b+θ p<=128->(bl.drop b).take (θ p)≠toB (qD7 p)):
  Calls prog 274 #[v,.slice (some ⟨B,o,none⟩) (128-b) (128-b)] w λe D=>e=.returned (.tuple #[.slice none 0 0,.slice none 0 0,.bool false])/\∃ m,D=w.drewN m:=by
 by_cases g:b=128
 .rw[g,show 128-128=0 from rfl];clear i h d g n;go_enter func274,ntmps274;go_wp2
  go_ret3
  exact⟨rfl,0,rfl⟩
 .have k:b<128:=oM
  rw[i k];obtain⟨x,j⟩:∃ x,bl[b]?=some x:=⟨_,gQ oM⟩;have C:=x.toNat_lt;obtain⟨m,l⟩:=eX (128-b);obtain⟨y,q⟩:∃ y:Int,y=((x.toNat:Nat):Int):=⟨_,rfl⟩;obtain⟨a,u⟩:∃ a:Nat,a=x.toNat / 16:=⟨_,rfl⟩;obtain⟨c,A⟩:∃ c:Nat,c=x.toNat % 16:=⟨_,rfl⟩;have M:y / 16=(a:Int):=oM
  have R:y % 16=(c:Int):=oM
  have r:=qY4 d j;rw[<-q] at r;have J:(a:Int)<1\/(8:Int)<(a:Int)\/(12:Int)<(c:Int)\/(m:Int)<1+(a:Int)+(c:Int):=by
   refine Classical.byContradiction λK=>?_;have f:1<=a/\a<=8/\c<=12/\1+a+c<=m:=oM
   obtain⟨p,z,P,t⟩:=kA2 bl b a c oM x j oM f.1 f.2.1 f.2.2.1;exact h p z oM t
  have O:(0:Int)<(m:Int):=oM
  have N:((m:Int) == 0)=false:=sO
  have I:=ζ d;have Q:c<16:=oM
  have L:a<16:=oM
  rw[<-l];clear h i j C u A q l d n k g s;go_enter func274,ntmps274;by_cases E:(a:Int)<1
  .skip
   go_wp2_with fail
   go_quiet (fail)
   go_wp2
   go_ret3
   exact⟨rfl,_,rfl⟩
  .by_cases F:(8:Int)<(a:Int)
   .skip
    go_wp2_with fail
    go_quiet (fail)
    go_wp2
    go_ret3
    exact⟨rfl,_,rfl⟩
   .by_cases G:(12:Int)<(c:Int)
    .skip
     go_wp2_with fail
     go_quiet (fail)
     go_wp2
     go_ret3
     exact⟨rfl,_,rfl⟩
    .have H:(m:Int)<1+(a:Int)+(c:Int):=oM
     go_wp2_with fail
     go_quiet (fail)
     go_wp2
     go_ret3
     exact⟨rfl,_,rfl⟩
theorem kB4(B a o:Nat)(bl)(v)(w)(d:w.heap[B]?=some (.cells (enc bl) 288))(A:bl.length=128)(n:a<=128)(j:a<128->o=a)
  (i:∀ h:HL,h.p=none/\h.key.size<=8/\0<=h.b/\h.b<65536/\0<=h.s/\h.s<18446744073709551616->a+φ h<=128->(bl.drop a).take (φ h)≠toB (qD9 h)):
  Calls prog 275 #[v,.slice (some ⟨B,o,none⟩) (128-a) (128-a)] w λe F=>e=.returned (.tuple #[.slice none 0 0,.slice none 0 0,.bool false])/\∃ m,F=w.drewN m:=by
 by_cases f:128-a<11
 .obtain⟨m,c⟩:=eX (128-a);rw[<-c] at f |-;have D:(m:Int)<11:=oM
  clear j i d f n c;go_enter func275,ntmps275;go_wp2
  go_ret3
  exact⟨rfl,0,rfl⟩
 .have l:a<128:=oM
  rw[j l];obtain⟨x,k⟩:∃ x,bl[a+10]?=some x:=⟨_,gQ oM⟩;have E:=x.toNat_lt;obtain⟨m,c⟩:=eX (128-a);obtain⟨b,g⟩:∃ b:Nat,b=x.toNat:=⟨_,rfl⟩;have y:=qY4 d k;rw[<-g] at y;have J:(8:Int)<(b:Int)\/(m:Int)<11+(b:Int):=by
   refine Classical.byContradiction λK=>?_;have z:b<=8/\11+b<=m:=oM
   obtain⟨h,p,q,r,s,t,u,N,C⟩:=jT6 bl a b oM x k g.symm z.1;exact i h ⟨p,q,r,s,t,u⟩ oM C
  have D:¬(m:Int)<11:=oM
  have M:(10:Int)<(m:Int):=oM
  have I:=ζ d;have L:b<256:=oM
  rw[<-c];clear i j k E g c d n l f A;go_enter func275,ntmps275;by_cases G:(8:Int)<(b:Int)
  .go_wp2
   go_ret3
   exact⟨rfl,0,rfl⟩
  .have H:(m:Int)<11+(b:Int):=oM
   go_wp2
   go_ret3
   exact⟨rfl,0,rfl⟩
open Go.ChangeMaps
theorem kC7(E:SEnv)(hO:∀ (n b:Nat) (s:Int) (t:Tn n),E.O n b s t->b<=1000000)(A N:Nat)(h:HL)(rt:Root)(v:Value)(a:List HL)(rs:List Root)(w:World)(hd:E.Dev w)(hv:Slc w 89 5 v a.length (qM5 E.V a))(hl:a.length=rs.length)(hr:∀ i (d:i<a.length) (q:i<rs.length),RR E.toEnv w a[i] rs[i]/\(∀ n l,rs[i]=.at n l->l.key=⟨#[]⟩))(a2:RR E.toEnv w h rt)(aw:∀ n l,rt=.at n l->l.key=⟨#[]⟩)(hc:qD2 rt+meas qD2 rs<1000000)(hn:a.length<=1000)
  (hV:∀ W,E.Dev W->W.heap[E.V]?=some (qE4 A N)) (be:2<=N) (hN:N<=1000)
  (ay:∀ W,E.Dev W->RR E.toEnv W h rt->Calls prog 76 #[τ E.V h] W λe z=>e=.returned (.int .i64 (rt.news:Int))/\Kp [] W z) (bj:rt.news<=1000000):
  Calls prog 112 #[τ E.V h,v] w λe z=>((∃ vf,e=.returned (.tuple #[vf,.int .i64 (((qA7 [] rt).length+rt.news:Nat):Int)])/\rt.news<=(qC4 N (rs.foldl qA7 (qA7 [] rt))).length/\Slc z 3 1 vf (qC4 N (rs.foldl qA7 (qA7 [] rt))).length (qH6 (qC4 N (rs.foldl qA7 (qA7 [] rt)))))\/(e=qB7 (some 3)/\(qC4 N (rs.foldl qA7 (qA7 [] rt))).length<rt.news))/\E.Dev z/\Kp E.S w z:=by
 obtain⟨bs,cp,rfl⟩:=qK2 hv;obtain⟨ln,ac⟩:=eX a.length;have HV:=zh hv;rw[<-ac];have a5:=zh ac;have HR:=zh hr;have B:=zh hd;have S:=zh (n2 a2 aw);have ah:=zh ay;clear hv ac hr hd a2 aw ay;rw[τ];go_enter func112,ntmps112;have bi:=@run_makeMap prog;go_wp2_with fail;obtain⟨W,Z,X,bd,ak,D,bn⟩:=qY0 w (.cells (ϟ E.V h) 89) (.map #[] 0) (.cells (ϟ E.V h) 89);have L:BS W (w.heap.size+1) 0 []:=by
  have d:=(BS.made (w.alloc (.cells (ϟ E.V h) 89))).kp ((Kp.refl [] _).alloc (.cells (ϟ E.V h) 89)) sM;rw[<-Z] at d;simpa using d
 rw[<-Z];clear Z bi;have C:=(Env.To.of0 B D).dev;have ae:=RR.kp S.1 D (Apt.nil _ _);refine (zX1 E hO (w.heap.size+1) 0 [] (.slice (some ⟨w.heap.size+1+1,0,none⟩) 1 1) [h] [rt] W C ⟨rfl,Or.inr ⟨w.heap.size+1+1,0,1,_,_,rfl,lR,lR,ak,λj u hu=>by simpa [qM5,tcs] using hu⟩⟩ rfl (λi d q=>by have e:=(by simpa using d);subst e;exact⟨ae,S.2⟩) L (by simp[qC2,qD1];omega) sM).mono ?_;rintro e w1 ⟨rfl,y,al,F⟩;simp only[List.foldl_cons,List.foldl_nil,qC2,qD1,Nat.zero_add,Nat.add_zero] at y;have av:=zD5 E C L;have J:=F.heap X (qQ9 E C L X dC);have az:=RR.kp ae F av;have ax:=y.len 3;have bg:=y.card;have t:=ξ J;have bk:=ζ J;obtain⟨k1,ab⟩:=eX ((qA7 [] rt).length);rw[<-ab] at ax bg;obtain⟨nw,ad⟩:=eX rt.news;have o:=zh (n2 ab ad);have a6:=zh y;have af:=zh al;have bc:Hid (Kp E.S w w1):=(D.mono sM).trans F (λi g bh=>by rcases List.mem_cons.1 g with rfl | g;omega;exact g);have bb:=zh J;have a7:=zh az;clear y al F J az ab av ae C L D X bd ak;rw[<-ad] at bj;clear ad;go_wp2_with fail;refine (show Calls _ _ _ _ _ from ah w1 af a7).mono ?_;rintro e w2 ⟨rfl,r⟩;rw[<-o.out.2];have ap:=a6.out.kp r sM;have am:=(Env.To.of0 af r).dev;have ar:=r.hp bb.out;have I:=bc.out.tr r;have au:Apt w E.S [89]:=λk hk c t fr e hm=>E.nin B e (by rw[mS hm];decide) hk;have a3:=HV.out.keep I au;have a9:Hid (∀ i (d:i<a.length) (q:i<rs.length),RR E.toEnv w2 a[i] rs[i]/\(∀ n l,rs[i]=.at n l->l.key=⟨#[]⟩)):=λi d q=>⟨RR.kp (HR i d q).1 I (E.apt w B),(HR i d q).2⟩;have R:=zh ap;have P:=zh am;have aj:=zh I;have ai:=zh ar;have ba:=zh a3;clear ap am ar I a3 r au t ax;go_wp2_with fail;refine (show Calls _ _ _ _ _ from (by rw[a5.out];exact zX1 E hO (w.heap.size+1) (qD2 rt) (qA7 [] rt) (.slice bs a.length cp) a rs w2 P ba hl a9 R hc hn:Ω 170 #[.map (some (w.heap.size+1)),.slice bs ln cp] w2 _)).mono ?_;rintro e w3 ⟨rfl,aq,V,G⟩;have K:=G.heap ai (qQ9 E P R ai dC);have a0:=RR.kp (RR.kp S.1 aj (E.apt w B)) G (zD5 E P R);have ao:=aj.out.trans G (λi g bh=>by rcases List.mem_cons.1 g with rfl | g;omega;exact g);have t:=ξ K;have bf:=ζ K;go_wp2_with fail;refine (jY3 (w.heap.size+1) _ E.V A N _ w3 aq (hV w3 V) be hN).mono ?_;rintro e w4 ⟨vf,rfl,O,x⟩;obtain⟨f,aa⟩:=eX (qC4 N (rs.foldl qA7 (qA7 [] rt)));rw[<-aa] at O;obtain⟨T,U,rfl⟩:=qK2 O;obtain⟨p,M⟩:=eX f.length;have Y:=x.hp K;have t4:=ξ Y;have bl:=ζ Y;have an:=(Env.To.of0 V x).dev;have a1:=RR.kp a0 x (Apt.nil _ _);have m:Hid (Slc w4 3 1 (.slice T p U) f.length (qH6 f)/\p=f.length/\f=qC4 N (rs.foldl qA7 (qA7 [] rt))):=⟨by rw[M];exact O,M,aa⟩;rw[<-M];have ag:=zh an;have a4:=zh (ao.tr x);have a8:=zh a1;clear t K aq V G a0 ao O x Y an a1 aa M bf;go_wp2_with fail;refine (show Calls _ _ _ _ _ from ah w4 ag a8).mono ?_;rintro e w5 ⟨rfl,H⟩;rw[<-o.out.2];have Q:=hid (show Slc w5 3 1 (.slice T p U) f.length (qH6 f)/\E.Dev w5/\Kp E.S w w5 from⟨m.1.keep0 H,(Env.To.of0 ag H).dev,a4.tr H⟩);clear H t4;by_cases bm:(p:Int)<(nw:Int)
 .go_wp2;exact⟨rfl,rfl,.inr ⟨rfl,by rw[<-m.out.2.2,<-m.out.2.1,<-o.out.2];omega⟩,Q.2⟩
 .go_wp2
  go_ret2
  refine⟨.inl ⟨.slice T p U,?_,?_,?_⟩,Q.2⟩
  .rw[<-o.out.1,<-o.out.2,Int.natCast_add];rfl
  .rw[<-m.out.2.2,<-m.out.2.1,<-o.out.2];omega
  .rw[<-m.out.2.2];exact Q.1
end Go.Proofs.YtdohpenfkdckiaaGreatDoor
