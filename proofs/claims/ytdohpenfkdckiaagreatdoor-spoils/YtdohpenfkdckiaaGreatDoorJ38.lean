import Derived.Test.YtdohpenfkdckiaaGreatDoorJ36
import Derived.Test.YtdohpenfkdckiaaGreatDoorJ37
set_option linter.all false
set_option maxRecDepth 100000
set_option maxHeartbeats 20000000
namespace Go.Proofs.YtdohpenfkdckiaaGreatDoor
open Go.Proofs.Tryz
open Go.RowKit
def zD0(B A C n kk:Nat)(xk:List Value)(l:List UInt8)(wr N:Int)(q:Option Root)(k:KF)(w w':World):Prop:=(w'.heap[B]?=some (kob k.shut)∧Dvx A n C l wr w'∧Kp [B,A,C] w w')∨
 ∃ r V M St db rb rs w2,q=some r∧w.heap.size≤V∧w.heap.size≤M∧w.heap.size≤St∧w.heap.size≤db∧Kp [B,A,C] w w2∧zK8 B db St A C n kk xk ⟨V,M,N,rb,rs,qD2 r,false,0,0⟩ l wr r k.shut w2 w'
theorem jX9(B A n C:Nat)(k:KF)(l)(wr N:Int)(q:Option Root)(w)(H:w.heap[B]?=some (kob k))(bc:k.A=A)(bd:k.n=n)(g:Dvx A n C l wr w)(hs:n*128<=l.length)(hl:8<=n->n<=400->Lies n l N q)(hg:w.cell? ⟨0,0,none⟩=some qF5)(h0:0<B/\0<A/\0<C)
  (base m cm i cw:Nat) (pm pw) (I:List (List KV)) (y:List Value) (a0:k.may=.slice pm m cm) (a2:k.were=.slice pw i cw) (hm:RowC w base (.slice pm m cm) I) (Y:RowM w base (.slice pw i cw) i y) (Z:m=I.length) (ay:m<=5000000000) (az:∀ q∈I,q.length<=100000) (aw:i<=100000) (a1:k.wild=true\/((∀ r,q=some r->r.cont∈I)/\(q=none->k.emp=true\/m=0))):
  Calls prog 81 #[.pointer (some ⟨B,0,none⟩)] w λe w'=>e=.returned (.bool true)/\zD0 B A C n i y l wr N q k w w':=by
 have bb:=ζ H;obtain⟨cA,p,κ,U,_⟩:=g.hA;have HB:=hid H;have K:=hid (show B≠A/\B≠C from⟨qA1 H U dC,qA1 H g.hC dC⟩);have F:=hid (And.intro g (And.intro hs hl));have o:=hid (And.intro a0 (And.intro a2 (And.intro hm (And.intro Y (And.intro Z (And.intro ay (And.intro az aw)))))));have HG:=hid (And.intro hg h0);have HE:=hid a1;subst bd bc;clear H g hs hl a0 a2 hm Y Z ay az aw a1 hg h0 U;go_enter func81,ntmps81;go_wp2_with fail;refine (zE3 B k w HB).mono ?_;rintro e w1 ⟨rfl,W,ab⟩;have ah:=F.out.1.kp ab (by simpa using K.1.symm) (by simpa using K.2.symm);obtain⟨be,p1,bh,an,_⟩:=ah.hA;have bf:=ζ W;have b0:=ξ W 0;simp only[kob,KF.shut,zG,zH,zI] at b0;have a3:=hid W;have al:=hid ab;have ak:=hid (show Ω 43 #[ϖ k.A] w1 _ from jX8 ah F.2.1 F.2.2);clear W ab ah;go_wp2_with fail;refine (xS2 k.A w1 an).mono ?_;rintro e w1 ⟨rfl,rfl⟩;clear an;go_wp2_with fail;refine (show Calls _ _ _ _ _ from ak).mono ?_;rintro e w2 ⟨v,ko,xo,rfl,hv,ac,ax⟩;have a6:=hid (show B ∉ [k.A,C] from by simp[K.out.1,K.out.2]);have ao:=ac.heap a3 a6.out;have af:Kp [B,k.A,C] w w2:=(al.mono sM).trans ac (by simp +contextual);have av:=(af.cell (a:=⟨0,0,none⟩) (Nat.lt_of_le_of_lt (zL B) bb) (by have h:=HG.out.2;simp;omega)).trans HG.1;have HR:=hid af;have L:=hid al.size;have a8:=hid ax;have a4:=hid ao;clear ax ac af b0 ao ak;go_wp2_with fail;refine (qL1 v ko w2 av hv).mono ?_;rintro e w3 ⟨rfl,ad⟩;have s:=ad.hp a4.out;have ba:=ζ s;have O:=ξ s 1;have G:=ξ s 2;have z:=ξ s 3;have P:=ξ s 4;have D:=ξ s 5;have Q:=ξ s 6;simp only[kob,KF.shut,zG,zH,zI] at O G z P D Q;have a5:=hid s;have a7:=hid ad;clear ad av hv s
 go_wp2_with (go_at_call 127;refine (qK1 _ _).mono ?_;rintro e w3 ⟨rfl,rfl⟩)
 refine (xD3 _ _ k.n _ _ _ w3).mono ?_;rintro e x ⟨rfl,ae⟩;have d:=ae.hp a5.out;have bg:=ζ d;have j:=hid (show Kp [] w2 x from a7.tr ae);have aa:=hid d;clear ae O G z P D Q ba;rcases a8 with⟨rfl,r,V,M,St,R,rb,rs,f,rfl,hV,hM,aq,ar,b⟩|⟨rfl,f,u,rfl,g⟩|⟨rfl,u,rfl,g⟩
 .have u:=n2 b.N8 b.N4;rw[decide_eq_true u];simp only[Option.getD_none];have X:=HR.out.tr j.out;have ag:∀ q c t S,w.heap[q]?=some (.cells c t S)->q∈[B,k.A,C]->t≠126/\t≠284:=λq c t S e f=>by
   simp only[mC,lN,or_false] at f;obtain⟨c0,_,_,U,_⟩:=F.out.1.hA;rcases f with rfl|rfl|rfl
   .rw[HB.out] at e;cases e;decide
   .rw[U] at e;cases e;decide
   .rw[F.out.1.hC] at e;cases e;decide
  have ap:=b.turn j sM (qD0 b.dev j (by intro k Y;cases Y)) ⟨rfl,rfl,rfl,rfl,rfl,rfl⟩ (j.hp b.hSt) (b.hM.kp j sM) b.m4 b.n1 b.bg0 b.kb b.rd;have au:=jL4 B R St k.A C k.n ⟨V,M,N,rb,rs,qD2 r,false,0,0⟩ l wr r k.shut x aa rfl ap rfl base m cm i cw pm pw I y o.1 o.2.1 (o.2.2.1.kp X ag) (o.2.2.2.1.kp X λq c t S e f=>(ag q c t S e f).1) o.2.2.2.2.1 o.2.2.2.2.2.1 o.2.2.2.2.2.2.1 o.2.2.2.2.2.2.2 (HE.imp id λh=>h.1 r f);have HF:=hid (show Ω 131 #[ϖ B,ϖ R] x _ from au);have am:=hid (show ∀ J,zK8 B R St k.A C k.n i y ⟨V,M,N,rb,rs,qD2 r,false,0,0⟩ l wr r k.shut x J->zD0 B k.A C k.n i y l wr N q k w J from λJ T=>.inr ⟨r,V,M,St,R,rb,rs,x,f,lT L hV,lT L hM,lT L aq,lT L ar,X,T⟩);clear au ag X ap b f hV hM aq ar u d;go_wp2_with fail;refine (show Calls _ _ _ _ _ from HF).mono ?_;rintro e J ⟨rfl,T⟩;have H5:=hid (am J T);clear T HF am;go_wp2;go_ret;exact⟨rfl,H5⟩
 .rw[decide_eq_true u];simp only[Option.getD_some];have E:=hid (show zD0 B k.A C k.n i y l wr N q k w x from .inl ⟨aa,g.kp j sM sM,HR.tr j⟩);have O:=ξ d 1;have G:=ξ d 2;have z:=ξ d 3;have P:=ξ d 4;have D:=ξ d 5;have Q:=ξ d 6;simp only[kob,KF.shut,zG,zH,zI] at O G z P D Q;have a9:=hid (HE.imp id λh=>h.2 f);rw[o.out.1] at G;clear u f g d;by_cases ai:k.emp=true
  .rw[ai] at z;go_wp2;go_ret;exact⟨rfl,E⟩
  .rw[show k.emp=false by simpa using ai] at z;by_cases aj:k.wild=true
   .rw[aj] at D;go_wp2;go_ret;exact⟨rfl,E⟩
   .rw[show k.wild=false by simpa using aj] at D;have Z:=(a9.resolve_left aj).resolve_left ai;subst Z;go_wp2;go_ret;exact⟨rfl,E⟩
 .rw[decide_eq_false u];simp only[Option.getD_some];have E:=hid (show zD0 B k.A C k.n i y l wr N q k w x from .inl ⟨aa,g.kp j sM sM,HR.tr j⟩);clear u g d;go_wp2;go_ret;exact⟨rfl,E⟩
end Go.Proofs.YtdohpenfkdckiaaGreatDoor
namespace Go.Proofs.YtdohpenfkdckiaaGreatDoor.Gs
open Go.Proofs.Tryz
open Go.RowKit
open Go.ChangeMaps
open Gw (TK Books qN4 qO3 Muts MutC DInv qS0 DStep)
structure YG where
 tb:Nat
 f:TF
 t:Tx
 r:Root
 ps:List KV
def qG3(y:YG):List Nat:=[y.tb,y.f.x]
structure SG where
 Db:Nat
 St:Nat
 nM:Nat
 s:Sto
 D:DataW Unit
structure Lv(w:World)(N:Nat)(com:Int)(E:SEnv)(l:List UInt8)(q:SG)(y:YG):Prop where
 on:y.t.on=some ⟨q.s.V,0,none⟩
 rr:RR E.toEnv w y.t.h y.r
 good:RGood y.r
 cont:y.r.cont=y.ps
 wrt:y.t.wrt=true→(∃ c:Nat,y.f.chg=c∧qM0 c y.r)∧y.r.lf≤1400
 red:y.t.wrt=false→y.t.h.p=none∧Lie N l y.t.h.b y.t.h.s y.r∧(∀ zd,q.D.atKey (ι y.t.nr) zd=qG2 y.t.h)∧(y.f.com<com∨(y.t.h.b=q.s.rb∧y.t.h.s=q.s.rs))
structure YOk(base:Nat)(T:Int)(w:World)(N:Nat)(com:Int)(E:SEnv)(l:List UInt8)(q:SG)(y:YG):Prop where
 bT:base≤y.tb
 bX:base≤y.f.x
 hT:w.heap[y.tb]?=some (tob y.f)
 hx:w.heap[y.f.x]?=some (qA5 y.t)
 st:y.t.St=q.St
 sp:SPR w y.f.v y.ps
 m0:(y.ps.length:Int)≤y.f.most
 m1:y.f.most≤T
 c0:0≤y.f.chg
 c1:y.f.chg≤T
 cm:y.f.com≤com
 wr:y.f.wr=y.t.wrt
 dn:y.f.dn=y.t.over
 ch0:0≤y.t.ch
 ch1:y.t.ch≤T
 stp:y.f.stp=y.t.ch
 live:y.t.over=false→Lv w N com E l q y
def kOf(y:YG):TK:=⟨y.t.over,y.t.wrt,y.t.nr⟩
def qH2(ys:List YG):List (TF × Nat):=ys.map fun y=>(y.f,y.ps.length)
structure SOk(base:Nat)(T:Int)(w:World)(A C n:Nat)(l:List UInt8)(wr com:Int)(r:Root)(q:SG)(ys:List YG):Prop where
 bSt:base≤q.St
 bM:base≤q.s.M
 sh:Sh w q.Db q.St A C n q.nM q.s q.D l wr r
 bg1:q.s.bg≤T
 nM:(q.nM:Int)≤T
 bk:Books q.s q.D (ys.map kOf)
 ys:∀ y∈ys,YOk base T w n com sh.E l q y
structure TG where
 B:Nat
 C:Nat
 k:KF
 l:List UInt8
 wr:Int
 q:Option Root
 mays:List (List KV)
 weres:List (List KV)
 so:Option SG
 ys:List YG
 hs:List HEnt
abbrev TG.A(g:TG):Nat:=g.k.A
abbrev TG.n(g:TG):Nat:=g.k.n
def qF3(g:TG):List Nat:=g.ys.map YG.tb
def qJ8:Option SG→List Nat
 | none=>[]
 | some q=>[q.St,q.s.M]
def qU1(g:TG):List Nat:=[g.B,g.A,g.C]++g.k.ts.ownBlock.toList++g.k.li.ownBlock.toList++g.k.wa.ownBlock.toList++qJ8 g.so++g.ys.flatMap qG3
structure DOk(base:Nat)(T:Int)(w:World)(g:TG):Prop where
 bB:base≤g.B
 bA:base≤g.A
 bC:base≤g.C
 hB:w.heap[g.B]?=some (kob g.k)
 n1:g.n<1000
 po:g.k.po=false
 dev:Dvx g.A g.n g.C g.l g.wr w
 len:g.n*128≤g.l.length
 lies:8≤g.n→g.n≤400→∃ N,Lies g.n g.l N g.q
 wr0:0≤g.wr
 wr1:g.wr≤15002*(T-26000)
 may:RowC w base g.k.may g.mays
 were:RowC w base g.k.were g.weres
 mlen:(g.mays.length:Int)≤60000*T
 wlen:(g.weres.length:Int)≤T
 mms:∀ m∈g.mays++g.weres,(m.length:Int)≤T
 qlen:∀ r,g.q=some r→(r.cont.length:Int)≤T
 kn:Kn g.k.wild g.k.emp g.k.bit g.n g.l g.q g.mays g.weres
 com0:0≤g.k.com
 com1:g.k.com≤T
structure TOk(base:Nat)(T:Int)(w:World)(g:TG):Prop where
 d:DOk base T w g
 held:Held w base g.k g.hs
 hlen:(g.hs.length:Int)≤T
 hps:∀ x∈g.hs,(x.ps.length:Int)≤T+2
 row:w.ownsRow base 132 1 g.k.ts (qF3 g).length (qQ2 (qF3 g))
 ylen:(g.ys.length:Int)≤T
 so:(g.k.x=none∧g.so=none∧g.ys=[])∨∃ q r,g.so=some q∧g.q=some r∧g.k.x=some ⟨q.Db,0,none⟩∧r.cont∈g.weres∧SPR w g.k.c r.cont∧SOk base T w g.A g.C g.n g.l g.wr g.k.com r q g.ys
 sep:g.ys.Pairwise fun a b=>∀ i∈qG3 a,i ∉ qG3 b
theorem qD4{g:TG}{i:Nat}:i∈qU1 g↔(i=g.B\/i=g.A\/i=g.C)\/g.k.ts.ownBlock=some i\/g.k.li.ownBlock=some i\/g.k.wa.ownBlock=some i\/i∈qJ8 g.so\/∃ y∈g.ys,i∈qG3 y:=by
 simp only[qU1,List.mem_append,mC,lN,or_false,Option.mem_toList,or_assoc,Option.mem_def,List.mem_flatMap]
theorem qO9{y:YG}{i:Nat}:i∈qG3 y↔i=y.tb\/i=y.f.x:=by simp[qG3]
section
variable {base N A C n:Nat} {T T' wr com:Int} {w w':World} {E:SEnv} {l:List UInt8} {q:SG} {y:YG} {L:List Nat} {g:TG} {ys:List YG} {r:Root}
theorem YOk.sz(h:YOk base T w N com E l q y):(y.ps.length:Int)<=T:=Int.le_trans h.m0 h.m1
theorem YOk.kp(h:YOk base T w N com E l q y)(hK:Kp L w w')(hT:T<=T')(f:∀ i∈qG3 y,i ∉ L)(j:Apt w L (284::qF1)):YOk base T' w' N com E l q y:=
 { h with
  hT:=hK.heap h.hT (f _ (qO9.2 (.inl rfl))),hx:=hK.heap h.hx (f _ (qO9.2 (.inr rfl))),sp:=h.sp.keep hK (λk d c t b e a=>j k d c t b e (by simp at a;simp[a])),m1:=Int.le_trans h.m1 hT,c1:=Int.le_trans h.c1 hT,ch1:=Int.le_trans h.ch1 hT
  live:=λm=>{ h.live m with rr:=(h.live m).rr.keepT hK (λk d c t b e a=>j k d c t b e (mM _ a)) } }
theorem YOk.move{q':SG}(h:YOk base T w N com E l q y)(e:q'.St=q.St/\q'.s.V=q.s.V/\q'.s.rb=q.s.rb/\q'.s.rs=q.s.rs)(p:y.t.over=false->y.t.wrt=false->∀ zd,q'.D.atKey (ι y.t.nr) zd=q.D.atKey (ι y.t.nr) zd):YOk base T w N com E l q' y:=by
 obtain⟨j,k,m,o⟩:=e;exact { h with st:=by rw[j];exact h.st,live:=λf=>{ h.live f with on:=by rw[k];exact (h.live f).on,red:=λi=>by rw[m,o];obtain⟨a,b,c,d⟩:=(h.live f).red i;exact⟨a,b,λzd=>(p f i zd).trans (c zd),d⟩ } }
theorem Sh.kp{b St d:Nat}{s}{D}(h:Sh w b St A C n d s D l wr r)(hK:Kp L w w')(a:∀ i∈[b,St,s.M,s.V,A,C],i ∉ L):Sh w' b St A C n d s D l wr r:=by
 obtain⟨c,e⟩:=h.hA;exact { h with hDb:=hK.heap h.hDb (a _ sM),hSt:=hK.heap h.hSt (a _ sM),hM:=h.hM.kp hK (a _ sM),dev:=⟨hK.heap h.dev.hV (a _ sM),⟨c,hK.heap e (a _ sM)⟩,hK.heap h.dev.hC (a _ sM)⟩ }
theorem SOk.kp(h:SOk base T w A C n l wr com r q ys)(hK:Kp L w w')(f:T<=T')(b:∀ i∈[q.St,q.s.M,A,C],i ∉ L)(m:∀ y∈ys,∀ i∈qG3 y,i ∉ L)(d:Apt w L ([102,263,284]++qF1)):SOk base T' w' A C n l wr com r q ys:=
 ⟨h.bSt,h.bM,Sh.kp h.sh hK (by
  simp only[mC,lN,or_false] at b |-;rintro i (rfl|rfl|rfl|rfl|rfl|rfl)
  .exact λa=>d _ a _ _ _ h.sh.hDb sM
  .exact b _ sM
  .exact b _ sM
  .exact λa=>d _ a _ _ _ h.sh.dev.hV sM
  .exact b _ sM
  .exact b _ sM),Int.le_trans h.bg1 f,Int.le_trans h.nM f,h.bk,λy j=>(h.ys y j).kp hK f (m y j) (λk hk c t fr e a=>d k hk c t fr e (by
   simp only[mC,List.mem_append,lN,or_false] at a |-;rcases a with a|a<;>simp[a]))⟩
theorem DOk.turnK(h:DOk base T w g)(ts li wa)(so:Option SG)(ys:List YG)(hs:List HEnt)(hK:Kp L w w')(a:T<=T')(hB:w'.heap[g.B]?=some (kob { g.k with ts:=ts,li:=li,wa:=wa }))(j:Dvx g.A g.n g.C g.l g.wr w')(f:Apt w L [126,284]):DOk base T' w' { g with k:={ g.k with ts:=ts,li:=li,wa:=wa },so:=so,ys:=ys,hs:=hs }:=by
 have d:∀ i c t b,Ϙ w i (.cells c t b)->i∈L->t≠126/\t≠284:=λi c t b e hi=>by have:=f i hi c t b e;simpa using this
 exact { bB:=h.bB,bA:=h.bA,bC:=h.bC,n1:=h.n1,po:=h.po,len:=h.len,lies:=h.lies,wr0:=h.wr0,com0:=h.com0,hB:=hB,dev:=j,wr1:=by have:=h.wr1;show g.wr<=_;omega,may:=h.may.kp hK d,were:=h.were.kp hK d,mlen:=by have:=h.mlen;show ((g.mays.length:Nat):Int)<=_;omega,wlen:=Int.le_trans h.wlen a,mms:=λm o=>Int.le_trans (h.mms m o) a,qlen:=λr e=>Int.le_trans (h.qlen r e) a,kn:=h.kn,com1:=Int.le_trans h.com1 a }
theorem DOk.turn(h:DOk base T w g)(hK:Kp L w w')(c:T<=T')(a:w'.heap[g.B]?=some (kob g.k))(d:Dvx g.A g.n g.C g.l g.wr w')(b:Apt w L [126,284]):DOk base T' w' g:=h.turnK g.k.ts g.k.li g.k.wa g.so g.ys g.hs hK c a d b
theorem DOk.ne(h:DOk base T w g):g.A≠g.B/\g.C≠g.B:=by
 obtain⟨c,_,_,a,_⟩:=h.dev.hA;exact⟨qA1 a h.hB dC,qA1 h.dev.hC h.hB dC⟩
theorem TOk.keep(h:TOk base T w g)(hK:Kp L w w')(c:Muts base (qN4++qO3) w L)(s:∀ i∈L,i ∉ qU1 g)(d:T<=T'):TOk base T' w' g:=by
 have b:∀ i,i∈qU1 g->i ∉ L:=λi a hm=>s i hm a;refine⟨h.d.turn hK d (hK.heap h.d.hB (b _ (qD4.2 sM))) (h.d.dev.kp hK (b _ (qD4.2 sM)) (b _ (qD4.2 sM))) (c.apt dC),Gw.Held.kp h.held hK (λi a=>b i (qD4.2 (by simp[a]))) (λi a=>b i (qD4.2 (by simp[a]))) (c.apt dC),Int.le_trans h.hlen d,λx hx=>by have:=h.hps x hx;omega,qS0 h.row hK (λi a=>b i (qD4.2 (by simp[a]))),Int.le_trans h.ylen d,?_,h.sep⟩;rcases h.so with o|⟨q,r,e,f,j,k,m,p⟩
 .exact .inl o
 .refine .inr ⟨q,r,e,f,j,k,m.keep hK (c.apt dC),p.kp hK d ?_ (λy t i a=>b i (qD4.2 (.inr (.inr (.inr (.inr (.inr ⟨y,t,a⟩))))))) (c.apt dC)⟩;simp only[mC,lN,or_false];rintro i (rfl|rfl|rfl|rfl)<;>exact b _ (qD4.2 (by simp[e,qJ8]))
theorem RM.obj{V M n:Nat}{D}(h:RM w V M n D):∃ a c,w.heap[M]?=some (.map a c):=by
 obtain⟨a,c,b,_⟩:=h;exact⟨a,c,b⟩
theorem TOk.muts(h:TOk base T w g):Muts base qO3 w (qU1 g):=by
 intro k a;rcases qD4.1 a with (rfl|rfl|rfl)|a|a|a|a|⟨y,m,a⟩
 .exact⟨h.d.bB,_,h.d.hB,λc t b e=>by cases e;decide⟩
 .obtain⟨c,_,_,s,_⟩:=h.d.dev.hA;exact⟨h.d.bA,_,s,λc t b e=>by cases e;decide⟩
 .exact⟨h.d.bC,_,h.d.dev.hC,λc t b e=>by cases e;decide⟩
 .obtain⟨f,c,i⟩:=qJ1 h.row k (by simp[a]);exact⟨f,_,i,λc t b e=>by cases e;decide⟩
 .obtain⟨f,c,i⟩:=qJ1 h.held.li k (by simp[a]);exact⟨f,_,i,λc t b e=>by cases e;decide⟩
 .obtain⟨f,c,i⟩:=qJ1 h.held.wa k (by simp[a]);exact⟨f,_,i,λc t b e=>by cases e;decide⟩
 .rcases h.so with⟨_,e,_⟩|⟨q,r,o,_,_,_,_,d⟩
  .rw[e] at a;cases a
  .rw[o] at a;simp only[qJ8,mC,lN,or_false] at a;rcases a with rfl|rfl
   .exact⟨d.bSt,_,d.sh.hSt,λc t b e=>by cases e;decide⟩
   .obtain⟨u,c,p⟩:=RM.obj d.sh.hM;exact⟨d.bM,_,p,λc t b e=>by cases e⟩
 .rcases h.so with⟨_,_,e⟩|⟨q,r,o,_,_,_,_,d⟩
  .rw[e] at m;cases m
  .have j:=d.ys y m;rcases qO9.1 a with rfl|rfl
   .exact⟨j.bT,_,j.hT,λc t b e=>by cases e;decide⟩
   .exact⟨j.bX,_,j.hx,λc t b e=>by cases e;decide⟩
end
def TG.bare(b C:Nat)(k:KF)(l:List UInt8)(wr:Int)(q:Option Root)(ms ws:List (List KV))(hs:List HEnt):TG:=⟨b,C,k,l,wr,q,ms,ws,none,[],hs⟩
theorem TG.bare_mut{b C:Nat}{k:KF}{l}{wr:Int}{q:Option Root}{c d:List (List KV)}{a:List HEnt}(f:k.ts=.slice none 0 0){i:Nat}(e:i∈qU1 (TG.bare b C k l wr q c d a)):(i=b\/i=k.A\/i=C)\/k.li.ownBlock=some i\/k.wa.ownBlock=some i:=by
 rcases qD4.1 e with h|h|h|h|h|⟨y,j,_⟩
 .exact .inl h
 .rw[show (TG.bare b C k l wr q c d a).k.ts=_ from f] at h;cases h
 .exact .inr (.inl h)
 .exact .inr (.inr h)
 .cases h
 .cases j
theorem TOk.bare{base:Nat}{T:Int}{w}{b C:Nat}{k:KF}{l}{wr:Int}{q:Option Root}{c d:List (List KV)}{a:List HEnt}(e:0<=T)(h:DOk base T w (TG.bare b C k l wr q c d a))(f:Held w base k a)(i:(a.length:Int)<=T)(j:∀ x∈a,(x.ps.length:Int)<=T+2)(m:k.ts=.slice none 0 0)(o:k.x=none):TOk base T w (TG.bare b C k l wr q c d a):=
 ⟨h,f,i,j,by rw[show (TG.bare b C k l wr q c d a).k.ts=_ from m];exact wN _ _ _ _,e,.inl ⟨o,rfl,rfl⟩,List.Pairwise.nil⟩
theorem zB4{w}{base b:Nat}{v}{m}{a:Nat}(h:w.ownsRow b 126 1 (.slice (some ⟨a,0,none⟩) 1 1) 1 [v])(j:base<=b)(d:SPR w v m):RowC w base (.slice (some ⟨a,0,none⟩) 1 1) [m]:=
 ⟨[v],⟨λu k=>by rw[mS k];obtain⟨p,c,e⟩:=d.form;exact⟨p,_,c,e⟩,qL0 h j⟩,rfl,λi f o=>by
  have e:i=0:=by simp at f;omega
  subst e;exact d⟩
def qF4:DInv where
 G:=TG
 kf:=fun g=>g.k
 B:=fun g=>g.B
 tbs:=qF3
 tur:=qU1
 ok:=TOk
 kob_:=fun h=>h.d.hB
 row:=fun h=>PRow.of h.row
 tlen:=fun h=>by have:=h.ylen;simp only[qF3,List.length_map];exact this
 inB:=fun g=>qD4.2 (by simp)
 muts:=fun h=>h.muts
 keep:=fun h hK hM hL hT=>h.keep hK hM hL hT
 fresh:=fun base T w b A C m wl l hb hA hC hT hm hl hl0 h1 h2 h3=>by
  obtain⟨q,hq1,hq2,hq3⟩:∃ q,(8≤m→m≤400→∃ N,Lies m l N q)∧(∀ r,q=some r→r.cont.length≤25200)∧(wl=false→q=none):=by
   cases wl with
   | true=>obtain⟨q,a,b,_⟩:=xJ7 m l;exact⟨q,a,b,fun e=>by cases e⟩
   | false=>exact⟨none,fun h8 _=>⟨0,by rw[hl0 rfl];exact jT3 m h8⟩,fun r e=>(by cases e),fun _=>rfl⟩
  have hle:l.length / 128=m:=by rw[hl];simp
  have hd:DOk base T w (TG.bare b C ⟨A,m,.slice none 0 0,false,.slice none 0 0,wl,false,none,.slice none 0 0,0,false,.slice none 0 0,.slice none 0 0,.slice none 0 0⟩ l 0 q [] [] []):=⟨hb,hA,hC,h1,hm,rfl,Dvl.x ⟨⟨0,by simp only[TG.bare,TG.A,TG.n];rw[hle];exact h2⟩,h3⟩,Nat.le_of_eq hl.symm,hq1,Int.le_refl _,by show (0:Int)≤15002*(T-26000);omega,RowC.nil _ _,RowC.nil _ _,by show ((0:Nat):Int)≤60000*T;omega,by show ((0:Nat):Int)≤T;omega,fun m hm=>(by cases hm),fun r e=>by have:=hq2 r e;omega,by
   show Kn wl false false m l q [] []
   cases wl with
   | true=>exact .inl rfl
   | false=>
    have e:=hq3 rfl;refine .inr ⟨fun r e'=>(by rw[e] at e';cases e'),fun _=>.inr rfl,fun _ h8 _=>.inl fun i hi=>?_⟩;rw[hl0 rfl];exact zV0 (by omega),Int.le_refl _,by show (0:Int)≤T;omega⟩
  refine⟨_,TOk.bare (by omega) hd ⟨World.ownsRow_nil _ _ _ _,World.ownsRow_nil _ _ _ _,fun i hi=>(by cases hi),fun x hx=>(by cases hx)⟩ (by simp;omega) (fun x hx=>(by cases hx)) rfl rfl,rfl,fun i hi=>?_⟩;rcases TG.bare_mut rfl hi with h|h|h
  ·exact h
  ·cases h
  ·cases h
 copy:=fun {base T w g} h=>by
  have hlen:=h.d.len;refine⟨g.C,g.l,g.wr,h.d.n1,h.d.dev,hlen,fun T' w' b A' C' hT hT0 hK hb hA' hC' h1 h2 h3=>?_⟩;have ha:∀ i c t fr,w.heap[i]?=some (.cells c t fr)→i∈([]:List Nat)→t≠126∧t≠284:=fun i c t fr e hi=>by cases hi
  have hl2:(g.l.take (g.n*128)).length=g.n*128:=by rw[List.length_take];exact Nat.min_eq_left hlen
  have hle:(g.l.take (g.n*128)).length / 128=g.n:=by rw[hl2];simp
  have hbl:∀ k,k<g.n→ω (g.l.take (g.n*128)) k=ω g.l k:=fun k hk=>kL4 hlen hk;have hd:DOk base T' w' (TG.bare b C' ⟨A',g.k.n,g.k.may,g.k.emp,g.k.were,g.k.wild,g.k.bit,none,.slice none 0 0,0,false,.slice none 0 0,.slice none 0 0,.slice none 0 0⟩ (g.l.take (g.n*128)) 0 g.q g.mays g.weres []):=⟨hb,hA',hC',h1,h.d.n1,rfl,Dvl.x ⟨⟨0,by simp only[TG.bare,TG.A,TG.n] at hle ⊢;rw[hle];exact h2⟩,h3⟩,Nat.le_of_eq hl2.symm,fun a b=>(h.d.lies a b).imp fun N h=>h.move (by have:8≤g.n:=a;omega) hbl,Int.le_refl _,by show (0:Int)≤15002*(T'-26000);omega,h.d.may.kp hK ha,h.d.were.kp hK ha,by have:=h.d.mlen;show ((g.mays.length:Nat):Int)≤_;omega,Int.le_trans h.d.wlen hT,fun m hm=>Int.le_trans (h.d.mms m hm) hT,fun r e=>Int.le_trans (h.d.qlen r e) hT,h.d.kn.move hbl,Int.le_refl _,by show (0:Int)≤T';omega⟩;refine⟨_,TOk.bare (by omega) hd ⟨World.ownsRow_nil _ _ _ _,World.ownsRow_nil _ _ _ _,fun i hi=>(by cases hi),fun x hx=>(by cases hx)⟩ (by simp;omega) (fun x hx=>(by cases hx)) rfl rfl,rfl,fun i hi=>?_⟩;rcases TG.bare_mut rfl hi with h|h|h
  ·exact h
  ·cases h
  ·cases h
theorem xQ6{a:Type}(f:YG->a){l:List YG}{i:Nat}(d:i<l.length){y:YG}(h:f y=f l[i]):(l.set i y).map f=l.map f:=by
 rw[List.map_set,h];exact List.ext_getElem sM (λj b c=>by
  rw[List.getElem_set];split
  .rename_i e;subst e;simp
  .rfl)
def yTs:List TypeId:=[197,99]
section
variable {base N A C n i:Nat} {T T' wr com:Int} {w w':World} {E:SEnv} {l:List UInt8} {q q':SG} {y y':YG} {L:List Nat} {g g':TG} {ys:List YG} {r:Root}
theorem YOk.yMut(h:YOk base T w N com E l q y):MutC base yTs w (qG3 y):=λk a=>by
 rcases qO9.1 a with rfl|rfl
 .exact⟨h.bT,_,_,_,h.hT,dC⟩
 .exact⟨h.bX,_,_,_,h.hx,dC⟩
theorem SOk.off(h:SOk base T w A C n l wr com r q ys){B:Nat}{k:KF}(e:w.heap[B]?=some (kob k)):∀ y∈ys,∀ j∈qG3 y,j ∉ [B,A,C,q.St,q.s.M]:=λy hy j hj=>by
 obtain⟨_,c,t,f,a,b⟩:=(h.ys y hy).yMut j hj;obtain⟨cA,d⟩:=h.sh.hA;simp only[mC,lN,or_false,not_or];refine⟨?_,?_,?_,?_,qD3 a h.sh.hM⟩<;>rintro rfl
 .rw[e] at a;cases a;revert b;decide
 .rw[d] at a;cases a;revert b;decide
 .rw[h.sh.dev.hC] at a;cases a;revert b;decide
 .rw[h.sh.hSt] at a;cases a;revert b;decide
theorem SOk.hold(h:SOk base T w A C n l wr com r q ys)(hK:Kp L w w')(a:T<=T')(e:Sh w' q.Db q.St A C n q.nM q.s q.D l wr r)(c:∀ y∈ys,∀ i∈qG3 y,i ∉ L)(d:Apt w L (284::qF1)):SOk base T' w' A C n l wr com r q ys:=
 ⟨h.bSt,h.bM,e,Int.le_trans h.bg1 a,Int.le_trans h.nM a,h.bk,λy b=>(h.ys y b).kp hK a (c y b) d⟩
theorem SOk.set(h:SOk base T w A C n l wr com r q ys)(s:i<ys.length)(X:ys.Pairwise λa b=>∀ i∈qG3 a,i ∉ qG3 b)(hK:Kp L w w')(x:∀ k∈L,k∈[A,C,q.St,q.s.M]\/k∈qG3 ys[i])(M:T<=T')(F:Sh w' q'.Db q'.St A C n q'.nM q'.s q'.D l wr r)
  (e:q'.St=q.St/\q'.s.V=q.s.V/\q'.s.rb=q.s.rb/\q'.s.rs=q.s.rs) (I:q'.s.M=q.s.M) (P:q'.s.bg<=T') (S:(q'.nM:Int)<=T') (H:Books q'.s q'.D ((ys.set i y').map kOf)) (J:∀ j (o:j<ys.length),j≠i->ys[j].t.over=false->ys[j].t.wrt=false->∀ zd,q'.D.atKey (ι ys[j].t.nr) zd=q.D.atKey (ι ys[j].t.nr) zd) (U:YOk base T' w' n com h.sh.E l q' y'):SOk base T' w' A C n l wr com r q' (ys.set i y'):=by
 obtain⟨cA,v⟩:=h.sh.hA;have V:=h.ys _ (gM s);have O:Apt w L (284::qF1):=λk d c t u e=>by
  rcases x k d with d|d
  .simp only[mC,lN,or_false] at d;rcases d with rfl|rfl|rfl|rfl
   .rw[v] at e;cases e;decide
   .rw[h.sh.dev.hC] at e;cases e;decide
   .rw[h.sh.hSt] at e;cases e;decide
   .exact absurd rfl (qD3 e h.sh.hM)
  .exact (V.yMut.muts.apt (Us:=284::qF1) dC) k d c t u e
 have D:=pG X;have K:F.E=h.sh.E:=by
  have Y:=e.2.1;show EL q'.s.V _ _ _ _ _ _ _ _ _=EL q.s.V _ _ _ _ _ _ _ _ _
  congr 1
 refine⟨by rw[e.1];exact h.bSt,by rw[I];exact h.bM,F,P,S,H,λz W=>?_⟩;obtain⟨j,o,rfl⟩:=gO W;simp only[List.length_set] at o;rw[List.getElem_set,K];split
 .exact U
 .rename_i B;have G:=h.ys _ (gM o);refine (G.kp hK M (λk d m=>?_) O).move e (J j o (λe=>B e.symm));rcases x k m with m|m
  .obtain⟨_,c,t,u,f,p⟩:=G.yMut k d;simp only[mC,lN,or_false] at m;rcases m with rfl|rfl|rfl|rfl
   .rw[v] at f;cases f;revert p;decide
   .rw[h.sh.dev.hC] at f;cases f;revert p;decide
   .rw[h.sh.hSt] at f;cases f;revert p;decide
   .exact absurd rfl (qD3 f h.sh.hM)
  .rcases Nat.lt_or_gt_of_ne B with R|Q
   .exact D i j s o R k m d
   .exact D j i o s Q k d m
theorem TOk.store(h:TOk base T w g)(a:g.k.x≠none):∃ q r,g.so=some q/\g.q=some r/\g.k.x=some ⟨q.Db,0,none⟩/\r.cont∈g.weres/\SPR w g.k.c r.cont/\SOk base T w g.A g.C g.n g.l g.wr g.k.com r q g.ys:=by
 rcases h.so with⟨e,_⟩|h
 .exact absurd e a
 .exact h
theorem TOk.txn(h:TOk base T w g)(M:g.so=some q)(m:SOk base T w g.A g.C g.n g.l g.wr g.k.com r q g.ys)(s:i<g.ys.length)(hK:Kp L w w')(S:∀ k∈L,k∈[g.B,g.A,g.C,q.St,q.s.M]\/k∈qG3 g.ys[i])(U:T<=T')
  (eg:g'.B=g.B/\g'.A=g.A/\g'.C=g.C/\g'.hs=g.hs/\g'.so=some q'/\g'.ys=g.ys.set i y') (ek:g'.k.ts=g.k.ts/\g'.k.li=g.k.li/\g'.k.wa=g.k.wa) (et:y'.tb=g.ys[i].tb) (O:∀ k∈qG3 y',k∈qG3 g.ys[i]\/w.heap.size<=k) (R:q'.St=q.St/\q'.s.M=q.s.M)
  (hd:DOk base T' w' g') (ac:∃ r,g'.q=some r/\g'.k.x=some ⟨q'.Db,0,none⟩/\r.cont∈g'.weres/\SPR w' g'.k.c r.cont/\SOk base T' w' g'.A g'.C g'.n g'.l g'.wr g'.k.com r q' g'.ys):DStep qF4 base T' w w' g:=by
 obtain⟨z,I,J,K,Q,B⟩:=eg;obtain⟨X,Y,Z⟩:=ek;obtain⟨r',c1,c2,c3,c4,c5⟩:=ac;have ae:=m.ys _ (gM s);have ag:=m.off h.d.hB;obtain⟨cA,hA⟩:=m.sh.hA;have D:Muts base ([130,114,115,169]++yTs) w L:=λk d=>by
  rcases S k d with d|d
  .simp only[mC,lN,or_false] at d;rcases d with rfl|rfl|rfl|rfl|rfl
   .exact⟨h.d.bB,_,h.d.hB,λc t u e=>by cases e;decide⟩
   .exact⟨h.d.bA,_,hA,λc t u e=>by cases e;decide⟩
   .exact⟨h.d.bC,_,m.sh.dev.hC,λc t u e=>by cases e;decide⟩
   .exact⟨m.bSt,_,m.sh.hSt,λc t u e=>by cases e;decide⟩
   .obtain⟨es,mc,hM⟩:=RM.obj m.sh.hM;exact⟨m.bM,_,hM,λc t u e=>by cases e⟩
  .obtain⟨z,c,t,u,I,J⟩:=ae.yMut k d;exact⟨z,_,I,λc' t' af e=>by cases e;exact List.mem_append_right _ J⟩
 have P:=pG h.sep;have V:∀ j (o:j<g.ys.length),i≠j->∀ k∈qG3 g.ys[i],k ∉ qG3 g.ys[j]:=λj o v k d f=>by
  rcases Nat.lt_or_gt_of_ne v with H|ab
  .exact P i j s o H k d f
  .exact P j i o s ab k f d
 have H:∀ j (o:j<g.ys.length),∀ k∈qG3 g.ys[j],k<w.heap.size:=λj o k d=>(m.ys _ (gM o)).yMut.muts.lt d;have ad:qF3 g'=qF3 g:=by rw[qF3,B];exact xQ6 YG.tb s et
 refine⟨g',L,⟨hd,?_,by rw[K];exact Int.le_trans h.hlen U,by rw[K];exact λx hx=>by have:=h.hps x hx;omega,?_,by rw[B,List.length_set];exact Int.le_trans h.ylen U,.inr ⟨q',r',Q,c1,c2,c3,c4,c5⟩,?_⟩,z,λk d=>?_,hK,λk d=>?_⟩
 .rw[K];refine Gw.Held.cast (Gw.Held.kp h.held hK (λk d=>?_) (λk d=>?_) (D.apt dC)) Y Z
  .obtain⟨_,c,p⟩:=qJ1 h.held.li k (by simpa using d);exact D.not p dC
  .obtain⟨_,c,p⟩:=qJ1 h.held.wa k (by simpa using d);exact D.not p dC
 .rw[ad,X];refine qS0 h.row hK (λk d=>?_);obtain⟨_,c,p⟩:=qJ1 h.row k (by simp[d]);exact D.not p dC
 .rw[B,List.pairwise_iff_getElem];intro a b F G aa;simp only[List.length_set] at F G;rw[List.getElem_set,List.getElem_set];split
  .rename_i h1;subst h1;split
   .omega
   .rename_i v;intro k d f;rcases O k d with d|d
    .exact V b G v k d f
    .have:=H b G k f;omega
  .split
   .rename_i v p;subst p;intro k d f;rcases O k f with f|f
    .exact V a F (λe=>v e) k f d
    .have:=H a F k d;omega
   .exact P a b F G aa
 .rcases qD4.1 d with d|d|d|d|d|⟨y,W,d⟩
  .rw[z,I,J] at d;exact .inl (qD4.2 (.inl d))
  .rw[X] at d;exact .inl (qD4.2 (.inr (.inl d)))
  .rw[Y] at d;exact .inl (qD4.2 (.inr (.inr (.inl d))))
  .rw[Z] at d;exact .inl (qD4.2 (.inr (.inr (.inr (.inl d)))))
  .refine .inl (qD4.2 (.inr (.inr (.inr (.inr (.inl ?_))))));rw[Q] at d;rw[M];simp only[qJ8,R.1,R.2] at d |-;exact d
  .rw[B] at W;obtain⟨j,o,rfl⟩:=gO W;simp only[List.length_set] at o;rw[List.getElem_set] at d;split at d
   .rcases O k d with d|d
    .exact .inl (qD4.2 (.inr (.inr (.inr (.inr (.inr ⟨_,gM s,d⟩))))))
    .exact .inr d
   .exact .inl (qD4.2 (.inr (.inr (.inr (.inr (.inr ⟨_,gM o,d⟩))))))
 .refine qD4.2 ?_;rcases S k d with d|d
  .simp only[mC,lN,or_false] at d;rcases d with h|h|h|h|h
   .exact .inl (.inl h)
   .exact .inl (.inr (.inl h))
   .exact .inl (.inr (.inr h))
   .exact .inr (.inr (.inr (.inr (.inl (by rw[M];simp[qJ8,h])))))
   .exact .inr (.inr (.inr (.inr (.inl (by rw[M];simp[qJ8,h])))))
  .exact .inr (.inr (.inr (.inr (.inr ⟨_,gM s,d⟩))))
end
structure At(base:Nat)(T:Int)(w:World)(g:TG)(q:SG)(r:Root)(i:Nat)(y:YG):Prop where
 ok:TOk base T w g
 T0:26000≤T
 T1:T≤60000
 hb:0<base
 hbs:base≤w.heap.size
 g0:w.cell? ⟨0,0,none⟩=some qF5
 e1:g.so=some q
 e2:g.q=some r
 ex:g.k.x=some ⟨q.Db,0,none⟩
 ew:r.cont∈g.weres
 ec:SPR w g.k.c r.cont
 S:SOk base T w g.A g.C g.n g.l g.wr g.k.com r q g.ys
 hi:i<g.ys.length
 hy:g.ys[i]=y
def Qt(g:TG)(q:SG)(w:World):Prop:=w.heap[q.St]?=some (ν 0 q.s)∧Devl q.s.V g.A g.n g.C g.l g.wr w
section
variable {base i:Nat} {T:Int} {w w' w1:World} {q:SG} {y:YG} {g:TG} {r:Root}
theorem At.yy(h:At base T w g q r i y):YOk base T w g.n g.k.com h.S.sh.E g.l q y:=by
 have:=h.S.ys _ (gM h.hi);rw[h.hy] at this;exact this
theorem At.hA(h:At base T w g q r i y):∃ c,w.heap[g.A]?=some (qA6 (g.l.length / 128) g.n g.C (.slice none 0 0) c g.wr):=h.S.sh.hA
theorem At.live(h:At base T w g q r i y)(d:y.t.over=false):LiveT h.S.sh.E w y.f.x g.A g.n y.t q.s y.r:=
 have a:=h.S.sh;have b:=h.yy;have c:=b.live d;have e:=h.T1
 { hx:=b.hx,over:=d,on:=c.on,hSt:=by rw[b.st];exact a.hSt,po:=a.po,sV:=rfl,hV:=a.dev.hV,n1:=a.N1,bl0:=a.bl0,bl1:=by have:=a.bl1;have:=h.ok.d.qlen r h.e2;omega,dev:=a.dev,vS:=by show q.s.V ∉ [g.A];simpa using a.VA,rr:=c.rr,good:=c.good,sz:=by rw[c.cont];have:=b.sz;omega,ch0:=b.ch0,ch1:=by have:=b.ch1;omega }
theorem At.hStt(h:At base T w g q r i y):w.heap[y.t.St]?=some (ν 0 q.s):=by
 rw[h.yy.st];exact h.S.sh.hSt
theorem At.xS(h:At base T w g q r i y):y.f.x≠y.t.St:=qA1 h.yy.hx h.hStt dC
theorem At.prog(h:At base T w g q r i y):ProgS w [q.St,g.A,g.C,y.f.x,q.s.M]:=λk b=>by
 have f:=h.hb;obtain⟨cA,d⟩:=h.hA;simp only[mC,lN,or_false] at b;rcases b with rfl|rfl|rfl|rfl|rfl
 .exact⟨by have:=h.S.bSt;omega,λc t a e=>by rw[h.S.sh.hSt] at e;cases e;decide⟩
 .exact⟨by have:=h.ok.d.bA;omega,λc t a e=>by rw[d] at e;cases e;decide⟩
 .exact⟨by have:=h.ok.d.bC;omega,λc t a e=>by rw[h.S.sh.dev.hC] at e;cases e;decide⟩
 .exact⟨by have:=h.yy.bX;omega,λc t a e=>by rw[h.yy.hx] at e;cases e;decide⟩
 .exact⟨by have:=h.S.bM;omega,λc t a e=>absurd rfl (qD3 e h.S.sh.hM)⟩
theorem At.progs(h:At base T w g q r i y){S}(a:∀ k∈S,k∈[q.St,g.A,g.C,y.f.x,q.s.M]):ProgS w S:=λk hk=>h.prog k (a k hk)
theorem At.look(h:At base T w g q r i y){c:Int}{b:Nat}(a:w.heap[g.A]?=some (qA6 b g.n g.C (.slice none 0 0) c g.wr)):LkIn w g.B y.tb g.A g.n g.C (.slice none 0 0) c g.wr g.k y.f y.ps:=
 ⟨h.ok.d.hB,h.ok.d.po,rfl,⟨_,a⟩,h.yy.hT,h.yy.sp,by have:=h.yy.sz;have:=h.T1;omega,h.g0⟩
theorem At.same(h:At base T w g q r i y)(hK:Kp [] w w'):At base T w' g q r i y:=
 ⟨h.ok.keep hK (Muts.nil _ _ _) sM (iR _),h.T0,h.T1,h.hb,lT h.hbs hK.size,zF6 h.g0 hK h.hb h.hbs sM,h.e1,h.e2,h.ex,h.ew,h.ec.keep hK (Apt.nil _ _),h.S.kp hK (iR _) sM sM (Apt.nil _ _),h.hi,h.hy⟩
theorem At.disk(h:At base T w g q r i y){L}(hK:Kp L w w')(c:∀ k∈L,k∈[g.A,g.C,q.St,q.s.M]\/k∈qG3 y)(d:Devl q.s.V g.A g.n g.C g.l g.wr w'):DOk base (T+2) w' g:=by
 have b:=h.ok.muts.mono (λt f=>f) λk a=>by
  rcases c k a with a|a
  .simp only[mC,lN,or_false] at a;exact qD4.2 (by rw[h.e1];simp only[qJ8,mC,lN,or_false];rcases a with e | e | e | e<;>simp[e])
  .exact qD4.2 (.inr (.inr (.inr (.inr (.inr ⟨_,gM h.hi,by rw[h.hy];exact a⟩)))))
 refine h.ok.d.turn hK oM (hK.heap h.ok.d.hB λb=>?_) (Dvl.x ⟨d.hA,d.hC⟩) (b.apt dC);rcases c _ b with a|a
 .obtain⟨cA,j⟩:=h.hA;simp only[mC,lN,or_false] at a;rcases a with e|e|e|e
  .exact h.ok.d.ne.1 e.symm
  .exact h.ok.d.ne.2 e.symm
  .exact qA1 h.ok.d.hB h.S.sh.hSt dC e
  .exact qD3 h.ok.d.hB h.S.sh.hM e
 .exact h.S.off h.ok.d.hB y (by have:=gM h.hi;rw[h.hy] at this;exact this) _ a sM
theorem At.step(h:At base T w g q r i y){L}{q':SG}{y':YG}(hK:Kp L w w')(b:∀ k∈L,k∈[g.A,g.C,q.St,q.s.M]\/k∈qG3 y)(B:y'.tb=y.tb)(d:∀ k∈qG3 y',k∈qG3 y\/w.heap.size<=k)(m:Sh w' q'.Db q'.St g.A g.C g.n q'.nM q'.s q'.D g.l g.wr r)
  (e:q'.St=q.St/\q'.s.V=q.s.V/\q'.s.rb=q.s.rb/\q'.s.rs=q.s.rs) (u:q'.s.M=q.s.M/\q'.Db=q.Db/\q'.s.bg=q.s.bg/\q'.nM=q.nM) (s:Books q'.s q'.D ((g.ys.set i y').map kOf)) (D:∀ j (M:j<g.ys.length),j≠i->g.ys[j].t.over=false->g.ys[j].t.wrt=false->∀ zd,q'.D.atKey (ι g.ys[j].t.nr) zd=q.D.atKey (ι g.ys[j].t.nr) zd) (H:YOk base (T+2) w' g.n g.k.com h.S.sh.E g.l q' y'):DStep qF4 base (T+2) w w' g:=by
 obtain⟨f,v,x,z⟩:=u;have K:=h.S.bg1;have O:=h.S.nM;have F:Devl q.s.V g.A g.n g.C g.l g.wr w':=by rw[<-e.2.1];exact m.dev
 refine h.ok.txn (g':={ g with so:=some q',ys:=g.ys.set i y' }) h.e1 h.S h.hi hK (λk a=>?_) oM ⟨rfl,rfl,rfl,rfl,rfl,rfl⟩ ⟨rfl,rfl,rfl⟩ (by rw[h.hy];exact B) (by rw[h.hy];exact d) ⟨e.1,f⟩ ?_ ⟨r,h.e2,by rw[v];exact h.ex,h.ew,?_,h.S.set h.hi h.ok.sep hK (by rw[h.hy];exact b) oM m e f (by rw[x];omega) (by rw[z];omega) s D H⟩
 .rw[h.hy];rcases b k a with a|a
  .simp only[mC,lN,or_false] at a;left;rcases a with e|e|e|e<;>simp[e]
  .exact .inr a
 .exact { h.disk hK b F with }
 .refine h.ec.keep hK λk a c t J e d=>?_;have G:=h.ok.muts;obtain⟨_,o,p,I⟩:=G k (by
   rcases b k a with a|a
   .simp only[mC,lN,or_false] at a;exact qD4.2 (by rw[h.e1];simp only[qJ8,mC,lN,or_false];rcases a with e | e | e | e<;>simp[e])
   .exact qD4.2 (.inr (.inr (.inr (.inr (.inr ⟨_,gM h.hi,by rw[h.hy];exact a⟩))))))
  rw[e] at p;cases p;have:=I _ _ _ rfl;rw[mS d] at this
  revert this;decide
theorem At.quiet(h:At base T w g q r i y)(d:Qt g q w1)(hK:Kp [q.St,g.A] w w1)(b:Kp [] w1 w'):DStep qF4 base (T+2) w w' g:=by
 have c:=hK.tr b;have m:=qD0 d.2 b (by intro k a;cases a);have f:=h.yy;have p:=h.S.sh.quiet f.hx (c.mono (by simp +contextual)) m (b.hp d.1);have o:y∈g.ys:=by have:=gM h.hi;rw[h.hy] at this;exact this
 obtain⟨cA,j⟩:=h.hA;refine h.step (q':=q) (y':=y) c (λk a=>.inl (by simp at a |-;rcases a with e | e<;>simp[e])) rfl (λk a=>.inl a) p ⟨rfl,rfl,rfl,rfl⟩ ⟨rfl,rfl,rfl,rfl⟩ (by rw[<-h.hy];simpa using h.S.bk) (λ_ _ _ _ _ _=>rfl) (f.kp c oM (λk a hm=>?_) ((Apt.one h.S.sh.hSt dC).cons (Apt.one j dC)));exact h.S.off h.ok.d.hB y o k a (by simp at hm |-;rcases hm with e | e<;>simp[e])
theorem At.bad(h:At base T w g q r i y)(a:BadT h.S.sh.E w w' y.t q.s):Qt g q w'/\Kp [q.St,g.A] w w':=by
 have b:=a.hSt;have c:=a.kp;rw[h.yy.st] at b c;exact⟨⟨b,a.dev⟩,c⟩
theorem At.over(h:At base T w g q r i y)(b:w'.heap[y.t.St]?=some (ν 0 q.s))(a:Kp [y.t.St] w w'):Qt g q w'/\Kp [q.St,g.A] w w':=by
 rw[h.yy.st] at b a;exact⟨⟨b,qD0 h.S.sh.dev a (OffD.one h.S.sh.hSt dC)⟩,a.mono (by simp +contextual)⟩
end
section
variable {base N A C n i:Nat} {T wr com:Int} {w w':World} {E:SEnv} {l:List UInt8} {q:SG} {y y':YG} {L:List Nat} {g:TG} {r:Root}
theorem Sh.one{e St f k:Nat}{s}{D}(h:Sh w e St A C n f s D l wr r)(hK:Kp [k] w w'){c}{t}{fr}(a:w.heap[k]?=some (.cells c t fr))(b:t ∉ [102,169,263,114,115]):Sh w' e St A C n f s D l wr r:=by
 obtain⟨cA,j⟩:=h.hA;simp only[mC,lN,or_false,not_or] at b;refine Sh.kp h hK λi d m=>?_;rw[mS m] at d;simp only[mC,lN,or_false] at d;rcases d with rfl|rfl|rfl|rfl|rfl|rfl
 .exact qA1 a h.hDb b.1 rfl
 .exact qA1 a h.hSt b.2.1 rfl
 .exact qD3 a h.hM rfl
 .exact qA1 a h.dev.hV b.2.2.1 rfl
 .exact qA1 a j b.2.2.2.1 rfl
 .exact qA1 a h.dev.hC b.2.2.2.2 rfl
theorem At.chg(h:At base T w g q r i y){c:Int}{e:Nat}(d:w.heap[g.A]?=some (qA6 e g.n g.C (.slice none 0 0) c g.wr))(tbs)(b:List (TF × Nat)):ChIn w g.B y.tb g.A g.n g.C (.slice none 0 0) c g.wr g.k y.f tbs b y.ps:=
 have f:=h.T1;have a:=h.yy
 ⟨h.ok.d.hB,h.ok.d.po,rfl,⟨_,d⟩,a.hT,a.sp,by have:=a.sz;omega,h.g0,by have:=a.m0;omega,by have:=a.m1;omega,a.c0,by have:=a.c1;omega,by rw[a.stp];exact a.ch0,by rw[a.stp];have:=a.ch1;omega⟩
theorem At.tfs(h:At base T w g q r i y):TFs w g.k (qF3 g) (qH2 g.ys):=
 ⟨PRow.of h.ok.row,by simp[qF3,qH2],λj d k=>by
  have f:j<g.ys.length:=by simpa [qF3] using d
  have a:=h.S.ys _ (gM f);obtain⟨b,c,e⟩:=a.sp.form;exact⟨by simpa [qF3,qH2] using a.hT,b,c,by simpa [qH2] using e⟩⟩
theorem At.ne(h:At base T w g q r i y):y.tb≠q.St/\y.tb≠y.f.x/\y.tb≠g.A/\y.f.x≠q.St/\y.f.x≠g.A/\y.tb≠q.s.M/\y.f.x≠q.s.M:=by
 obtain⟨c,b⟩:=h.hA;have a:=h.yy;exact⟨qA1 a.hT h.S.sh.hSt dC,qA1 a.hT a.hx dC,qA1 a.hT b dC,qA1 a.hx h.S.sh.hSt dC,qA1 a.hx b dC,qD3 a.hT h.S.sh.hM,qD3 a.hx h.S.sh.hM⟩
theorem At.apt(h:At base T w g q r i y){Ts:List TypeId}(a:∀ t∈[169,99,197,114],t ∉ Ts):Apt w [q.St,y.f.x,g.A,q.s.M,y.tb] Ts:=λk hk c t fr e=>by
 obtain⟨cA,d⟩:=h.hA;have b:=h.yy;simp only[mC,lN,or_false] at hk;rcases hk with rfl|rfl|rfl|rfl|rfl
 .rw[h.S.sh.hSt] at e;cases e;exact a _ sM
 .rw[b.hx] at e;cases e;exact a _ sM
 .rw[d] at e;cases e;exact a _ sM
 .exact absurd rfl (qD3 e h.S.sh.hM)
 .rw[b.hT] at e;cases e;exact a _ sM
theorem At.own(h:At base T w g q r i y):∀ k∈[q.St,y.f.x,g.A,q.s.M,y.tb],k∈[g.A,g.C,q.St,q.s.M]\/k∈qG3 y:=λk hk=>by
 simp only[mC,lN,or_false] at hk;rcases hk with e|e|e|e|e
 .exact .inl (by simp[e])
 .exact .inr (qO9.2 (.inr e))
 .exact .inl (by simp[e])
 .exact .inl (by simp[e])
 .exact .inr (qO9.2 (.inl e))
theorem At.changed{r'}{qs}(h:At base T w g q r i y)(F:y.t.over=false)(d:y.t.wrt=true)(B:RGood r')(s:r'.cont=qs)(O:qs.length<=y.ps.length+1)(z:∀ c,qM0 c y.r->qM0 (c+1) r')(D:r'.lf<=1400)
  (x:zK7 y.f y.tb (λf=>∃ h',FineT h.S.sh.E w f y.f.x y.t q.s r' h') [q.St,y.f.x,g.A] qs w w'):DStep qF4 base (T+2) w w' g:=by
 obtain⟨f,v',⟨h',hF⟩,hK1,hK2,hT',hsp⟩:=x;have a:=h.yy;have m:=a.live F;obtain⟨⟨c,u,v⟩,_⟩:=m.wrt d;obtain⟨I,n2,n3,n4,n5,n6,Q⟩:=h.ne;have o:Kp [q.St,y.f.x,g.A,q.s.M,y.tb] w w':=(hK1.mono (λk b _=>by simp at b |-;rcases b with h | h | h<;>simp[h])).trans hK2 (λk b _=>by simp at b |-;simp[b]);have j:=hK1.heap a.hT (by simp[I,n2,n3]);have H:=hK2.heap hF.hx (by simpa using n2.symm);have p:Ϙ f q.St (ν 0 q.s):=by have:=hF.hSt;rw[a.st] at this;exact this
 have G:=Sh.one (h.S.sh.quiet a.hx hK1 hF.dev p) hK2 j dC;have P:((qs.length:Nat):Int)<=T+1:=by have:=a.sz;omega
 have m0:=a.m0;have m1:=a.m1;have c0:=a.c0;have c1:=a.c1;have J:=a.ch0;have K:=a.ch1;refine h.step (q':=q) (y':=⟨y.tb,y.f.step v' qs.length,{ y.t with h:=h',ch:=y.t.ch+1 },r',qs⟩) o h.own rfl (λk b=>.inl b) G ⟨rfl,rfl,rfl,rfl⟩ ⟨rfl,rfl,rfl,rfl⟩ (by rw[xQ6 kOf h.hi (by rw[h.hy];rfl)];exact h.S.bk) (λ_ _ _ _ _ _=>rfl) ?_;refine { bT:=a.bT,bX:=a.bX,hT:=hT',hx:=H,st:=a.st,sp:=hsp,m0:=?_,m1:=?_,c0:=by show 0<=y.f.chg+1;omega,c1:=by show y.f.chg+1<=T+2;omega,cm:=a.cm,wr:=a.wr,dn:=a.dn,ch0:=by show 0<=y.t.ch+1;omega,ch1:=by show y.t.ch+1<=T+2;omega,stp:=by show y.f.stp+1=y.t.ch+1;rw[a.stp],live:=λ_=>⟨m.on,?_,B,s,λ_=>⟨⟨c+1,by show y.f.chg+1=_;rw[u];rfl,z c v⟩,D⟩,λe=>by rw[show y.t.wrt=false from e] at d;cases d⟩ }
 .show ((qs.length:Nat):Int)<=(if y.f.most<(qs.length:Nat) then ((qs.length:Nat):Int) else y.f.most);split<;>omega
 .show (if y.f.most<(qs.length:Nat) then ((qs.length:Nat):Int) else y.f.most)<=T+2;split<;>omega
 .exact hF.rr.keepT hK2 (λk b c t M e=>by simp at b;subst b;rw[j] at e;cases e;decide)
end
theorem kP7{y:YG}{key val}{a:Bool}(f:y.t.over=false)(j:y.f.wr=y.t.wrt)(e:y.f.dn=y.t.over)(h:qH7 y.f.wr y.f.dn key val≠0):qW9 y.t ⟨key,val⟩ a=some (qH7 y.f.wr y.f.dn key val):=by
 rw[j,e,f] at h |-;simp only[qH7,qW9,Bool.false_eq_true,if_false] at h |-;split
 .rfl
 .split
  .rfl
  .split
   .rfl
   .rename_i b c d;rw[if_neg b,if_neg c,if_neg d] at h;exact absurd rfl h
theorem xT2{y:YG}{key val}(d:y.t.over=false)(e:y.f.wr=y.t.wrt)(c:y.f.dn=y.t.over)(h:qH7 y.f.wr y.f.dn key val=0):y.t.wrt=true/\qH4 key=true/\val.size<=12:=by
 rw[e,c,d] at h;simp only[qH7,Bool.false_eq_true,if_false] at h;split at h
 .simp at h
 .split at h
  .simp at h
  .split at h
   .simp at h
   .rename_i a b f;exact⟨by simpa using a,by simpa using b,oM⟩
theorem jF8{y:YG}{key}(e:y.t.over=false)(f:y.f.wr=y.t.wrt)(d:y.f.dn=y.t.over)(h:qH7 y.f.wr y.f.dn key ⟨#[]⟩≠0):qY7 y.t key=some (qH7 y.f.wr y.f.dn key ⟨#[]⟩):=by
 rw[f,d,e] at h |-;have a:¬12<(⟨#[]⟩:ByteArray).size:=dC
 simp only[qH7,qY7,Bool.false_eq_true,if_false,if_neg a] at h |-;split
 .rfl
 .split
  .rfl
  .rename_i b c;rw[if_neg b,if_neg c] at h;exact absurd rfl h
def CSt(base:Nat)(T:Int)(w:World)(g:TG)(F:Nat)(vs:Array Value):Prop:=Calls prog F vs w fun e w'=>e=.returned (.bool true)∧DStep qF4 base (T+2) w w' g
section
variable {base i:Nat} {T:Int} {w:World} {q:SG} {y:YG} {g:TG} {r:Root}
theorem kC0(h:At base T w g q r i y)(key val):CSt base T w g 132 #[.pointer (some ⟨g.B,0,none⟩),.pointer (some ⟨y.tb,0,none⟩),.string key,.string val,.bool false]:=by
 have f:=h.yy;obtain⟨cA,G⟩:=h.hA;have P:ProgS w [q.St,g.A]:=h.progs (by simp +contextual);have Q:∀ j,qH7 y.f.wr y.f.dn key val=j->j≠0->(Ω 34 #[ϖ y.f.x,.string key,.string val] w λe w'=>∃ v,e=ϱ v/\ErrV w' v (some j)/\Qt g q w'/\Kp [q.St,g.A] w w')->CSt base T w g 132 #[ϖ g.B,ϖ y.tb,.string key,.string val,.bool false]:=λj hj hj0 I=>
  (jD3 g.B y.tb g.A g.n g.C (.slice none 0 0) cA g.wr g.k y.f [] [] y.ps key val j (some j) rfl [q.St,g.A] (Qt g q) w (h.chg G _ _) P hj hj0 I).mono λe w' ⟨a,u,b,c,d⟩=>⟨a,h.quiet b c d⟩
 cases ho:y.t.over with
 | true=>
  refine Q 5 (by rw[f.dn,ho];rfl) dC ((kC1 y.f.x y.t q.s ⟨key,val⟩ w f.hx ho h.hStt h.S.sh.po h.xS).mono ?_);rintro e w' ⟨v,a,b,c,d⟩;obtain⟨m,o⟩:=h.over c d;exact⟨v,a,b,m,o⟩
 | false=>
  have H:=h.live ho;by_cases t:qH7 y.f.wr y.f.dn key val=0
  .obtain⟨B,F,X⟩:=xT2 ho f.wr f.dn t;have J:qC3 ⟨key,val⟩:=⟨((qV9 key).1 F).1,((qV9 key).1 F).2,X⟩;have k:=f.live ho;obtain⟨D,O⟩:=zS4 k.good J;have Z:=zO4 ⟨key,val⟩ y.ps;rw[k.cont] at O;have U:=zJ0 k.rr;by_cases hr:((y.r.put ⟨key,val⟩).news:Int)<=(g.n:Int)-2-q.s.bl
   .refine (jD4 g.B y.tb g.A g.n g.C (.slice none 0 0) cA g.wr g.k y.f [] [] y.ps key val none rfl [q.St,y.f.x,g.A] (λu=>∃ p,FineT h.S.sh.E w u y.f.x y.t q.s (y.r.put ⟨key,val⟩) p/\qL2 g.n g.l (y.r.put ⟨key,val⟩)) w (h.chg G _ _) (h.progs (by simp +contextual)) t ((kB9 h.S.sh.E y.f.x g.A g.n y.t q.s y.r ⟨key,val⟩ w H B J hr).mono ?_)).mono λe w' ⟨a,u,v',⟨p,s,hO⟩,b⟩=>⟨a,?_⟩
    .rintro e w' ⟨rfl,p,s⟩;have R:=s.kp;rw[f.st] at R;exact⟨_,rfl,rfl,⟨p,s,zJ0 s.rr⟩,R⟩
    .have ad:=xJ3 hO D;have Y:=h.S.sh.N4;have S:(y.r.put ⟨key,val⟩).lf<=1400:=by have:=h.S.sh.bl0;omega
     exact h.changed ho B D O Z (λc I=>jH7 k.good (zR3 U) J I (zH0 k.good (k.wrt B).2) (zR5 U) (zH0 D S)) S ⟨u,v',⟨p,s⟩,b⟩
   .have hT:=h.T1;have Y:=h.S.sh.N4;have ag:=f.sz;have ae:=h.ok.d.qlen r h.e2;obtain⟨V,W,aa⟩:=h.ec.form;refine (jD5 g.B y.tb g.A g.n g.C (.slice none 0 0) cA g.wr g.k y.f (qF3 g) (qH2 g.ys) y.ps key val (some 3) rfl [q.St,g.A] (Qt g q) w (h.chg G _ _) P t ((xO2 h.S.sh.E y.f.x g.A g.n y.t q.s y.r ⟨key,val⟩ 3 w H ?_).mono ?_) h.tfs ?_ ?_ V r.cont.length W aa oM (by show g.n<=100000;omega) oM ?_).mono λe w' ⟨a,u,b,c,d⟩=>⟨a,h.quiet b c d⟩
    .have hv:¬12<val.size:=oM
     simp only[qW9,B,F,hv,if_false,Bool.true_eq_false];rw[if_pos sO]
    .rintro e w' ⟨v,rfl,a,b⟩;obtain⟨m,o⟩:=h.bad b;exact⟨v,rfl,a,m,o⟩
    .have:=h.ok.ylen;simp[qF3];omega
    .intro x K;obtain⟨z,M,rfl⟩:=List.mem_map.1 K;have:=(h.S.ys z M).sz;simp only;omega
    .have af:=(zJ4 g.k.com (qH2 g.ys) (λx K=>by
      obtain⟨z,M,rfl⟩:=List.mem_map.1 K;have:=(h.S.ys z M).sz;simp only;omega)).1
     rw[qR8];have ab:=qX1 D;rw[O] at ab;have ac:=h.S.sh.bl1;have:¬(3*(max (max y.f.most ((ins ⟨key,val⟩ y.ps).length:Nat)) ((r.cont.length:Nat):Int))+12+qG0 g.k.com (qH2 g.ys)<=(g.k.n:Int)):=by
      show ¬(_<=(g.n:Int));omega
     rw[decide_eq_false this];rfl
  .refine Q _ rfl t ((xO2 h.S.sh.E y.f.x g.A g.n y.t q.s y.r ⟨key,val⟩ _ w H (kP7 ho f.wr f.dn t)).mono ?_);rintro e w' ⟨v,rfl,a,b⟩;obtain⟨m,o⟩:=h.bad b;exact⟨v,rfl,a,m,o⟩
theorem jF5(h:At base T w g q r i y)(key val):CSt base T w g 132 #[.pointer (some ⟨g.B,0,none⟩),.pointer (some ⟨y.tb,0,none⟩),.string key,.string val,.bool true]:=by
 have f:=h.yy;obtain⟨cA,D⟩:=h.hA;have O:ProgS w [q.St,g.A]:=h.progs (by simp +contextual);have H:∀ j,qH7 y.f.wr y.f.dn key ⟨#[]⟩=j->j≠0->(Ω 28 #[ϖ y.f.x,.string key] w λe w'=>∃ v,e=ϱ v/\ErrV w' v (some j)/\Qt g q w'/\Kp [q.St,g.A] w w')->CSt base T w g 132 #[ϖ g.B,ϖ y.tb,.string key,.string val,.bool true]:=λj hj hj0 z=>
  (jD1 g.B y.tb g.A g.n g.C (.slice none 0 0) cA g.wr g.k y.f [] [] y.ps key val j (some j) rfl [q.St,g.A] (Qt g q) w (h.chg D _ _) O hj hj0 z).mono λe w' ⟨a,K,b,c,d⟩=>⟨a,h.quiet b c d⟩
 cases ho:y.t.over with
 | true=>
  refine H 5 (by rw[f.dn,ho];rfl) dC ((jF6 y.f.x y.t q.s key w f.hx ho h.hStt h.S.sh.po h.xS).mono ?_);rintro e w' ⟨v,a,b,c,d⟩;obtain⟨t,u⟩:=h.over c d;exact⟨v,a,b,t,u⟩
 | false=>
  have G:=h.live ho;by_cases s:qH7 y.f.wr y.f.dn key ⟨#[]⟩=0
  .obtain⟨o,M,S⟩:=xT2 ho f.wr f.dn s;have m:=f.live ho;obtain⟨R,J⟩:=xB4 (k:=key) m.good;have Q:(del key y.ps).length<=y.ps.length+1:=Nat.le_succ_of_le (List.length_filter_le _ _);rw[m.cont] at J;have p:=zJ0 m.rr;have B:=(m.wrt o).2;refine (jD2 g.B y.tb g.A g.n g.C (.slice none 0 0) cA g.wr g.k y.f [] [] y.ps key val none rfl [q.St,y.f.x,g.A] (λK=>∃ x,FineT h.S.sh.E w K y.f.x y.t q.s (y.r.del key) x) w (h.chg D _ _) (h.progs (by simp +contextual)) s ((jF2 h.S.sh.E y.f.x g.A g.n y.t q.s y.r key w G o M).mono ?_)).mono λe w' ⟨a,b⟩=>⟨a,?_⟩
   .rintro e w' ⟨rfl,x,F⟩;have I:=F.kp;rw[f.st] at I;exact⟨_,rfl,rfl,⟨x,F⟩,I⟩
   .obtain⟨⟨c0,_,P⟩,_⟩:=m.wrt o;exact h.changed ho o R J Q (λc z=>(xC8 m.good (zR3 p) z B (zR5 p)).1) (lT (xC8 m.good (zR3 p) P B (zR5 p)).2 B) b
  .refine H _ rfl s ((jF1 h.S.sh.E y.f.x g.A g.n y.t q.s y.r key _ w G (jF8 ho f.wr f.dn s)).mono ?_);rintro e w' ⟨v,rfl,a,b⟩;obtain⟨t,u⟩:=h.bad b;exact⟨v,rfl,a,t,u⟩
end
theorem zA9{c:Int}(a:0<=c)(b:c<=2000000000):nx c=c+1:=by simp only[nx,wrap64];omega
theorem xL5{c:Int}(a:0<=c)(b:c<=1000000000):∀ k:Nat,k<=500000000->nk c k=c+k
 | 0,_=>by simp[nk]
 | k+1,h=>by
  rw[nk,xL5 a b k oM,zA9 oM oM];omega
section
variable {base i:Nat} {T:Int} {w w':World} {q q':SG} {y:YG} {g:TG} {r:Root}
theorem qZ5(h:At base T w g q r i y)(key):CSt base T w g 133 #[.pointer (some ⟨g.B,0,none⟩),.pointer (some ⟨y.tb,0,none⟩),.string key]:=by
 have k:=h.yy;obtain⟨cA,l⟩:=h.hA;have m:ProgS w [q.St,g.A]:=h.progs (by simp +contextual);have n:∀ w',qV3 (Qt g q) [q.St,g.A] w w'->DStep qF4 base (T+2) w w' g:=λw' ⟨w1,b,c,d⟩=>h.quiet b c d
 cases ho:y.t.over with
 | true=>
  refine (xF1 g.B y.tb g.A g.n g.C (.slice none 0 0) cA g.wr g.k y.f y.ps key (qN0 y.ps key) (qH4 key) (qF7 y.ps key).isSome 5 (some 5) rfl [q.St,g.A] (Qt g q) w (h.look l) m rfl (.inl ⟨by rw[k.dn,ho],rfl⟩) rfl ((kM8 y.f.x y.t q.s key w k.hx ho h.hStt h.S.sh.po h.xS).mono ?_)).mono λe w' ⟨a,b⟩=>⟨a,n w' b⟩;rintro e w' ⟨v,a,b,c,d⟩;obtain⟨f,j⟩:=h.over c d;exact⟨v,a,b,f,j⟩
 | false=>
  have o:=h.live ho;have p:=(k.live ho).cont
  cases hk:qH4 key with
  | true=>
   refine (jM9 g.B y.tb g.A g.n g.C (.slice none 0 0) cA g.wr g.k y.f y.ps key (qN0 y.ps key) (qF7 y.ps key).isSome none rfl [q.St,g.A] (Qt g q) w (h.look l) m hk (by rw[k.dn,ho]) rfl ((kM6 h.S.sh.E y.f.x g.A g.n y.t q.s y.r key w o hk).mono ?_)).mono λe w' ⟨a,b⟩=>⟨a,n w' b⟩;rintro e w' ⟨rfl,b⟩;obtain⟨f,j⟩:=h.bad b;rw[p];exact⟨_,rfl,rfl,f,j⟩
  | false=>
   refine (xF1 g.B y.tb g.A g.n g.C (.slice none 0 0) cA g.wr g.k y.f y.ps key (qN0 y.ps key) false (qF7 y.ps key).isSome 1 (some 1) rfl [q.St,g.A] (Qt g q) w (h.look l) m hk (.inr ⟨by rw[k.dn,ho],rfl,rfl⟩) rfl ((kM7 h.S.sh.E y.f.x g.A g.n y.t q.s y.r key w o hk).mono ?_)).mono λe w' ⟨a,b⟩=>⟨a,n w' b⟩;rintro e w' ⟨v,rfl,a,b⟩;obtain⟨f,j⟩:=h.bad b;exact⟨v,rfl,a,f,j⟩
theorem At.num(h:At base T w g q r i y):(g.ys.map kOf)[i]?=some (kOf y)/\1<=y.t.nr/\y.t.nr<=1000000000:=by
 have a:(g.ys.map kOf)[i]?=some (kOf y):=by simp[h.hi,h.hy]
 obtain⟨b,c⟩:=h.S.bk.nrs i (kOf y) a;have d:y.t.nr<=q.s.bg:=c;have:=h.S.bg1;have:=h.T1;exact⟨a,b,oM⟩
theorem At.others(h:At base T w g q r i y)(j:Nat)(a:j<g.ys.length)(c:j≠i):ι g.ys[j].t.nr≠ι y.t.nr:=λe=>by
 have b:(g.ys.map kOf)[j]?=some (kOf g.ys[j]):=by simp[a]
 exact c (h.S.bk.dist j i _ _ b h.num.1 (Gw.zG3 e))
theorem At.overY(h:At base T w g q r i y){L}{q':SG}{N:Nat}{b:Int}{E}{l}(hK:Kp L w w')(m:Apt w L [284])(o:g.k.com<=b)(hT:w'.heap[y.tb]?=some (tob { y.f with dn:=true }))(hx:w'.heap[y.f.x]?=some (qA5 y.t.ended))(f:q'.St=q.St):YOk base (T+2) w' N b E l q' ⟨y.tb,{ y.f with dn:=true },y.t.ended,y.r,y.ps⟩:=
 have a:=h.yy
 { bT:=a.bT,bX:=a.bX,hT:=hT,hx:=hx,st:=by rw[f];exact a.st,sp:=a.sp.keep hK (λk p c t j e d=>m k p c t j e (by simp at d;simp[d])),m0:=a.m0,m1:=by have:=a.m1;show y.f.most<=T+2;omega,c0:=a.c0,c1:=by have:=a.c1;show y.f.chg<=T+2;omega,cm:=Int.le_trans a.cm o,wr:=a.wr,dn:=rfl,ch0:=a.ch0,ch1:=by have:=a.ch1;show y.t.ch<=T+2;omega,stp:=a.stp,live:=λn=>by cases n }
theorem At.left(h:At base T w g q r i y)(n:y.t.over=false)(f:zV6 y.f y.tb (λb=>b.heap[y.f.x]?=some (qA5 y.t.ended)/\Sh b q.Db q.St g.A g.C g.n q.nM (q.s.left y.t.nr) (q.D.del (ι y.t.nr)) g.l g.wr r) [q.St,y.f.x,q.s.M] w w'):DStep qF4 base (T+2) w w' g:=by
 obtain⟨b,⟨r1,r2⟩,hK1,hK2,hT'⟩:=f;have p:=h.yy;obtain⟨t,n2,n3,n4,n5,n6,u⟩:=h.ne;have c:Kp [q.St,y.f.x,g.A,q.s.M,y.tb] w w':=(hK1.mono (λk a _=>by simp at a |-;rcases a with h | h | h<;>simp[h])).trans hK2 (λk a _=>by simp at a |-;simp[a]);have d:=hK1.heap p.hT (by simp[t,n2,n6]);have o:=Sh.one r2 hK2 d dC;have e:=h.S.bk.left (World.ownsMap.tidy h.S.sh.hM qM3) h.num.1 n;refine h.step (q':={ q with s:=q.s.left y.t.nr,D:=q.D.del (ι y.t.nr) }) (y':=⟨y.tb,{ y.f with dn:=true },y.t.ended,y.r,y.ps⟩) c h.own rfl (λk a=>.inl a) o ⟨rfl,rfl,rfl,rfl⟩ ⟨rfl,rfl,rfl,rfl⟩ (by rw[List.map_set];exact e) (λj l m _ _ zd=>Maps.atKey_del_other (h.others j l m) zd) (h.overY c (h.apt dC) (iR _) hT' (hK2.heap r1 (by simpa using n2.symm)) rfl)
theorem qV6(h:At base T w g q r i y)(j:Bool)(p:j=true->y.t.over=false->y.t.wrt=false):CSt base T w g 135 #[.pointer (some ⟨g.B,0,none⟩),.pointer (some ⟨y.tb,0,none⟩),.bool j]:=by
 have f:=h.yy;obtain⟨cA,l⟩:=h.hA;obtain⟨C,n2,n3,n4,n5,n6,D⟩:=h.ne;obtain⟨A,B,s⟩:=h.num;have z:=qD3 l h.S.sh.hM;have n:=qA1 l h.S.sh.hSt dC
 cases ho:y.t.over with
 | true=>
  refine (xC3 j g.B y.tb g.A g.n g.C (.slice none 0 0) cA g.wr g.k y.f y.ps (some 5) [q.St] (Qt g q) w (h.look l) (h.progs (by simp +contextual)) (by simpa using n) (.inl ⟨by rw[f.dn,ho],rfl⟩) ?_).mono λe w' ⟨a,b⟩=>⟨a,?_⟩
  .have k:∀ e w',(∃ v,e=Ending.returned v/\ErrV w' v (some 5)/\Ϙ w' y.t.St (ν 0 q.s)/\Kp [y.t.St] w w')->∃ v,e=Ending.returned v/\ErrV w' v (some 5)/\Qt g q w'/\Kp [q.St] w w':=λe w' ⟨v,a,b,c,d⟩=>⟨v,a,b,(h.over c d).1,by rw[<-f.st];exact d⟩
   cases j with
   | true=>exact (kM0 y.f.x y.t q.s w f.hx ho h.hStt h.S.sh.po h.xS).mono k
   | false=>exact (xU6 y.f.x y.t q.s w f.hx ho h.hStt h.S.sh.po h.xS).mono k
  .rcases b with⟨_,m,t,u,x⟩|⟨b,_⟩
   .exact h.quiet t (u.mono (by simp +contextual)) x
   .rw[f.dn,ho] at b;cases b
 | false=>
  have o:=h.live ho;refine (xC3 j g.B y.tb g.A g.n g.C (.slice none 0 0) cA g.wr g.k y.f y.ps none [q.St,y.f.x,q.s.M] (λm=>Ϙ m y.f.x (qA5 y.t.ended)/\Sh m q.Db q.St g.A g.C g.n q.nM (q.s.left y.t.nr) (q.D.del (ι y.t.nr)) g.l g.wr r) w (h.look l) (h.progs (by simp +contextual)) (by simp[n,n5.symm,z]) (.inr ⟨by rw[f.dn,ho],rfl,?_⟩) ?_).mono λe w' ⟨a,b⟩=>⟨a,?_⟩
  .cases j with
   | true=>exact .inr (by rw[f.wr];exact p rfl ho)
   | false=>exact .inl rfl
  .have k:∀ e w',(e=Ending.returned Value.nilIface/\Ϙ w' y.f.x (qA5 y.t.ended)/\Sh w' q.Db q.St g.A g.C g.n q.nM (q.s.left y.t.nr) (q.D.del (ι y.t.nr)) g.l g.wr r/\Kp [q.St,y.f.x,q.s.M] w w')->∃ v,e=Ending.returned v/\ErrV w' v none/\(Ϙ w' y.f.x (qA5 y.t.ended)/\Sh w' q.Db q.St g.A g.C g.n q.nM (q.s.left y.t.nr) (q.D.del (ι y.t.nr)) g.l g.wr r)/\Kp [q.St,y.f.x,q.s.M] w w':=λe w' ⟨a,b,c,d⟩=>⟨_,a,rfl,⟨b,c⟩,d⟩
   cases j with
   | true=>exact (h.S.sh.commitR o f.st oM s (p rfl ho)).mono k
   | false=>exact (h.S.sh.abort o f.st oM s).mono k
  .rcases b with⟨b,_⟩|⟨_,b⟩
   .rw[f.dn,ho] at b;cases b
   .exact h.left ho b
end
section
variable {base:Nat} {T:Int} {w w':World} {q q':SG} {y:YG} {g g':TG} {r:Root}
theorem TOk.anew(h:TOk base T w g)(G:26000<=T)(hK:Kp [g.B,g.A,g.C] w w')(e:g'.B=g.B/\(g'.A=g.A\/w.heap.size<=g'.A)/\(g'.C=g.C\/w.heap.size<=g'.C)/\g'.hs=g.hs/\g'.ys=[])(C:g'.k.li=g.k.li/\g'.k.wa=g.k.wa/\g'.k.ts=.slice none 0 0)(F:∀ k∈qJ8 g'.so,w.heap.size<=k)(E:DOk base (T+2) w' g')
  (m:(g'.k.x=none/\g'.so=none)\/∃ q r,g'.so=some q/\g'.q=some r/\g'.k.x=some ⟨q.Db,0,none⟩/\r.cont∈g'.weres/\SPR w' g'.k.c r.cont/\SOk base (T+2) w' g'.A g'.C g'.n g'.l g'.wr g'.k.com r q []):DStep qF4 base (T+2) w w' g:=by
 obtain⟨n,A,B,i,f⟩:=e;obtain⟨u,v,z⟩:=C;obtain⟨cA,_,_,D,_⟩:=h.d.dev.hA;have l:Muts base [130,114,115] w [g.B,g.A,g.C]:=λk d=>by
  simp only[mC,lN,or_false] at d;rcases d with rfl|rfl|rfl
  .exact⟨h.d.bB,_,h.d.hB,λc t o e=>by cases e;decide⟩
  .exact⟨h.d.bA,_,D,λc t o e=>by cases e;decide⟩
  .exact⟨h.d.bC,_,h.d.dev.hC,λc t o e=>by cases e;decide⟩
 refine⟨g',[g.B,g.A,g.C],⟨E,?_,by have:=h.hlen;rw[i];omega,λx p=>by rw[i] at p;have:=h.hps x p;omega,?_,by rw[f];show ((0:Nat):Int)<=T+2;omega,?_,by rw[f];exact List.Pairwise.nil⟩,n,λk d=>?_,hK,λk d=>qD4.2 (.inl (by simpa using d))⟩
 .rw[i];refine Gw.Held.cast (Gw.Held.kp h.held hK (λk d=>?_) (λk d=>?_) (l.apt dC)) u v
  .obtain⟨_,c,j⟩:=qJ1 h.held.li k (by simp[d]);exact l.not j dC
  .obtain⟨_,c,j⟩:=qJ1 h.held.wa k (by simp[d]);exact l.not j dC
 .rw[qF3,f,z];exact wN _ _ _ _
 .rw[f];rcases m with⟨a,b⟩|m
  .exact .inl ⟨a,b,rfl⟩
  .exact .inr m
 .rcases qD4.1 d with d|d|d|d|d|⟨y,s,d⟩
  .rcases d with d|d|d
   .rw[n] at d;exact .inl (qD4.2 (.inl (.inl d)))
   .rcases A with e|e
    .rw[e] at d;exact .inl (qD4.2 (.inl (.inr (.inl d))))
    .exact .inr oM
   .rcases B with e|e
    .rw[e] at d;exact .inl (qD4.2 (.inl (.inr (.inr d))))
    .exact .inr oM
  .rw[z] at d;cases d
  .rw[u] at d;exact .inl (qD4.2 (.inr (.inr (.inl d))))
  .rw[v] at d;exact .inl (qD4.2 (.inr (.inr (.inr (.inl d)))))
  .exact .inr (F k d)
  .rw[f] at s;cases s
theorem DOk.shut(h:DOk base T w g)(hK:Kp [g.B,g.A,g.C] w w')(j:w'.heap[g.B]?=some (kob g.k.shut))(k:Dvx g.A g.n g.C g.l g.wr w'):DOk base (T+2) w' (TG.bare g.B g.C g.k.shut g.l g.wr g.q g.mays g.weres g.hs):=by
 obtain⟨cA,_,_,f,_⟩:=h.dev.hA;have b:∀ i c t a,w.heap[i]?=some (.cells c t a)->i∈[g.B,g.A,g.C]->t≠126/\t≠284:=λi c t a e hi=>by
  simp only[mC,lN,or_false] at hi;rcases hi with rfl|rfl|rfl
  .rw[h.hB] at e;cases e;decide
  .rw[f] at e;cases e;decide
  .rw[h.dev.hC] at e;cases e;decide
 have o:=h.wr1;have l:=h.com1;have d:=h.mlen;have n:=h.wlen;exact⟨h.bB,h.bA,h.bC,j,h.n1,rfl,k,h.len,h.lies,h.wr0,by show g.wr<=15002*(T+2-26000);omega,h.may.kp hK b,h.were.kp hK b,by show ((g.mays.length:Nat):Int)<=_;omega,by show ((g.weres.length:Nat):Int)<=T+2;omega,λm d=>by have:=h.mms m d;omega,λr e=>by have:=h.qlen r e;omega,h.kn,h.com0,by show g.k.com<=T+2;omega⟩
theorem jK3(h:TOk base T w g)(I:26000<=T)(hT:T<=60000)(hb:0<base)(aa:base<=w.heap.size)(U:w.cell? ⟨0,0,none⟩=some qF5):CSt base T w g 80 #[.pointer (some ⟨g.B,0,none⟩)]:=by
 have d:=h.d;obtain⟨cA,p,κ,H,_⟩:=d.dev.hA;obtain⟨xk,B,F⟩:=d.were;obtain⟨Y,Q,E⟩:=B.form;rw[E] at B;obtain⟨xm,C,f6⟩:=d.may;obtain⟨X,P,G⟩:=C.form;rw[G] at C;have ad:=d.wlen;have ab:=d.mlen;have bB:=d.bB;have bA:=d.bA;have bC:=d.bC;have V:=d.wr0;have ae:=d.wr1;refine (jL2 g.B g.A g.n g.C (.slice none 0 0) cA g.wr g.k g.l (λs u=>(s=none/\∃ f N,Dvx g.A g.n g.C f (g.wr+2) u/\f.length=g.l.length/\Lies g.n f N (some .none)/\Hd2 g.n f [] [])\/(s=some 10/\Dvx g.A g.n g.C g.l g.wr u)) w d.hB rfl rfl H d.dev.hC U oM base g.mays.length P g.weres.length Q X Y G E C B oM oM (λW hK=>?_)).mono ?_
 .refine (jL1 (d.dev.kp hK (by simpa using d.ne.1) (by simpa using d.ne.2)) d.len).mono ?_;rintro e u ⟨v,s,rfl,hv,hK1,⟨rfl,hf,f,N,k,x,z,A⟩|⟨rfl,hf,k⟩⟩
  .rw[zA9 V oM,zA9 oM oM,show g.wr+1+1=g.wr+2 by omega] at k;exact⟨v,none,rfl,hv,.inl ⟨rfl,f,N,k,x,z,A⟩,hK1,.inl ⟨rfl,hf⟩⟩
  .exact⟨v,some 10,rfl,hv,.inr ⟨rfl,k⟩,hK1,.inr ⟨rfl,hf⟩⟩
 .rintro e w' ⟨rfl,s,u,hR,hK1,⟨rfl,hK2,hB'⟩|⟨rfl,hK2,gm,gw,cw',hB',hmay,hwere⟩⟩
  .rcases hR with⟨D,_⟩|⟨_,S⟩
   .cases D
   have n:=hK1.tr hK2;exact⟨rfl,h.anew (g':=TG.bare g.B g.C g.k.shut g.l g.wr g.q g.mays g.weres g.hs) I n ⟨rfl,.inl rfl,.inl rfl,rfl,rfl⟩ ⟨rfl,rfl,rfl⟩ (by simp[TG.bare,qJ8]) (d.shut n hB' (S.kp hK2 sM sM)) (.inl ⟨rfl,rfl⟩)⟩
  .rcases hR with⟨_,f,N,k,x,z,A⟩|⟨D,_⟩
   rotate_left
   .cases D
   have n:=hK1.trans hK2 (by simp +contextual);have ac:=hK1.size;have hc:=d.com1;have R:∀ i c t o,w.heap[i]?=some (.cells c t o)->i∈[g.B,g.A,g.C]->t≠284:=λi c t o e hi=>by
    simp only[mC,lN,or_false] at hi;rcases hi with rfl|rfl|rfl
    .rw[d.hB] at e;cases e;decide
    .rw[H] at e;cases e;decide
    .rw[d.dev.hC] at e;cases e;decide
   refine⟨rfl,h.anew (g':=TG.bare g.B g.C { g.k.shut.only gm gw g.weres.length cw' with wild:=false,bit:=false } f (g.wr+2) (some .none) [[]] (g.weres++[[]]) g.hs) I n ⟨rfl,.inl rfl,.inl rfl,rfl,rfl⟩ ⟨rfl,rfl,rfl⟩ (by simp[TG.bare,qJ8]) ?_ (.inl ⟨rfl,rfl⟩)⟩;refine⟨d.bB,d.bA,d.bC,hB',d.n1,rfl,k.kp hK2 (by simpa using d.ne.1) (by simpa using d.ne.2),by show g.n*128<=f.length;rw[x];exact d.len,λ_ _=>⟨N,z⟩,by show 0<=g.wr+2;omega,by show g.wr+2<=15002*(T+2-26000);omega,zB4 hmay oM (SPR.nil _),⟨_,by show RowM w' base _ (g.weres++[[]]).length _;rw[lA];exact hwere.le oM,Both.snoc ⟨F.1,λi a b=>(F.2 i a b).keep n λq hq c t o e l=>R q c t o e hq (mS l)⟩ (SPR.nil _)⟩,by show ((1:Nat):Int)<=60000*(T+2);omega,by show (((g.weres++[[]]).length:Nat):Int)<=T+2;rw[lA];simp only[lC,List.length_nil];omega,λm l=>?_,λr e=>by cases e;show ((0:Nat):Int)<=T+2;omega,?_,d.com0,by show g.k.com<=T+2;omega⟩
   .simp only[TG.bare,List.mem_append,List.mem_singleton] at l;rcases l with rfl|l|rfl
    .show ((0:Nat):Int)<=T+2;omega
    .have:=d.mms m (List.mem_append_right _ l);omega
    .show ((0:Nat):Int)<=T+2;omega
   .refine .inr ⟨λr e=>(by cases e;exact List.mem_singleton.2 rfl),λe=>(by cases e),λ_ _ _=>.inr λj hj=>?_⟩;obtain⟨M,rb,rs,Z,J,K,L,O⟩:=A j hj;exact⟨M,rb,rs,Z,J,K,L,by rcases O with e | e<;>rw[e]<;>exact List.mem_append_right _ (List.mem_singleton.2 rfl)⟩
theorem jY0(h:TOk base T w g)(C:26000<=T)(S:T<=60000)(U:0<base)(W:base<=w.heap.size)(H:w.cell? ⟨0,0,none⟩=some qF5):CSt base T w g 81 #[.pointer (some ⟨g.B,0,none⟩)]:=by
 have d:=h.d;obtain⟨O,n,s⟩:=d.were;obtain⟨L,E,p⟩:=n.form;rw[p] at n;obtain⟨K,D,u⟩:=d.may.form;have z:=d.may;rw[u] at z;have ab:=d.wlen;have Y:=d.mlen;have Q:=d.bB;have P:=d.bA;have R:=d.bC;obtain⟨cA,_,_,F,_⟩:=d.dev.hA;obtain⟨N,B⟩:∃ N,8<=g.n->g.n<=400->Lies g.n g.l N g.q:=by
  by_cases o:8<=g.n/\g.n<=400
  .obtain⟨N,h⟩:=d.lies o.1 o.2;exact⟨N,λ_ _=>h⟩
  .exact⟨0,λa b=>absurd ⟨a,b⟩ o⟩
 refine (jX9 g.B g.A g.n g.C g.k g.l g.wr N g.q w d.hB rfl rfl d.dev d.len B H oM base g.mays.length D g.weres.length E K L g.mays O u p z n rfl oM (λm f=>by have:=d.mms m (List.mem_append_left _ f);omega) oM (d.kn.imp id λh=>⟨h.1,λe=>(h.2.1 e).imp id λe=>by rw[e];rfl⟩)).mono ?_;rintro e w' ⟨rfl,⟨hB',hdv,hK⟩|⟨r,V,M,St,db,rb,rs,w2,hq,l1,l2,l3,l4,hK1,hK2,s',D',v,gm,gw,cw',hsh,hz,hno,hs',hv,hB',hmay,hwere⟩⟩
 .exact⟨rfl,h.anew (g':=TG.bare g.B g.C g.k.shut g.l g.wr g.q g.mays g.weres g.hs) C hK ⟨rfl,.inl rfl,.inl rfl,rfl,rfl⟩ ⟨rfl,rfl,rfl⟩ (by simp[TG.bare,qJ8]) (d.shut hK hB' hdv) (.inl ⟨rfl,rfl⟩)⟩
 .have A:=hK1.trans hK2 (by intro i l X;simp at l |-;omega);have aa:=hK1.size;have ac:=d.wr1;have Z:=d.qlen r hq;have G:∀ i c t j,w.heap[i]?=some (.cells c t j)->i∈[g.B,g.A,g.C]->t≠284:=λi c t j e l=>by
   simp only[mC,lN,or_false] at l;rcases l with rfl|rfl|rfl
   .rw[d.hB] at e;cases e;decide
   .rw[F] at e;cases e;decide
   .rw[d.dev.hC] at e;cases e;decide
  subst hs';refine⟨rfl,h.anew (g':=⟨g.B,g.C,{ g.k.shut.only gm gw g.weres.length cw' with c:=v,com:=0,x:=some ⟨db,0,none⟩ },g.l,g.wr,some r,[r.cont],g.weres++[r.cont],some ⟨db,St,1,_,D'⟩,[],g.hs⟩) C A ⟨rfl,.inl rfl,.inl rfl,rfl,rfl⟩ ⟨rfl,rfl,rfl⟩ (by simp only[qJ8,mC,lN,or_false];rintro k (rfl | rfl);exact l3;exact l2) ?_ (.inr ⟨_,r,rfl,rfl,rfl,List.mem_append_right _ (List.mem_singleton.2 rfl),hv,by show base<=St;omega,by show base<=M;omega,hsh,by show (0:Int)+1<=T+2;omega,by show ((1:Nat):Int)<=T+2;omega,Books.none hz hno rfl,λy I=>by cases I⟩)⟩;refine⟨d.bB,d.bA,d.bC,hB',d.n1,rfl,Dvl.x ⟨hsh.dev.hA,hsh.dev.hC⟩,d.len,λa b=>by have h:=B a b;rw[hq] at h;exact⟨N,h⟩,d.wr0,by show g.wr<=15002*(T+2-26000);omega,zB4 hmay oM hv,⟨_,by show RowM w' base _ (g.weres++[r.cont]).length _;rw[lA];exact hwere.le oM,Both.snoc ⟨s.1,λi a b=>(s.2 i a b).keep A λq hq c t j e f=>G q c t j e hq (mS f)⟩ hv⟩,by show ((1:Nat):Int)<=60000*(T+2);omega,by show (((g.weres++[r.cont]).length:Nat):Int)<=T+2;rw[lA];simp only[lC,List.length_nil];omega,λm f=>?_,λr' e=>by cases e;omega,?_,iR _,by show (0:Int)<=T+2;omega⟩
  .simp only[List.mem_append,List.mem_singleton] at f;rcases f with rfl|f|rfl
   .omega
   .have:=d.mms m (List.mem_append_right _ f);omega
   .omega
  .exact d.kn.imp id λ⟨_,_,J⟩=>⟨λr' e=>by cases e;exact List.mem_singleton.2 rfl,λe=>(by cases e),λe b1 b2=>(J e b1 b2).more _⟩
theorem look_ok(h:TOk base T w g)(c:26000<=T)(b:T<=70000):Calls prog 84 #[.pointer (some ⟨g.B,0,none⟩)] w λe w'=>e=.returned (.bool true)/\Kp [] w w':=
 jT7 g.B base g.k g.hs w h.d.hB h.held (by have:=h.hlen;omega) (λx a=>by have:=h.hps x a;omega)
end
section
variable {base i:Nat} {T:Int} {w w':World} {q:SG} {y:YG} {g:TG} {r:Root}
theorem At.scanned(h:At base T w g q r i y){n:Nat}(hn:n<=y.ps.length)(d:zW0 g.k g.B base n g.hs [q.St,g.A] (Qt g q) w w'):DStep qF4 base (T+2) w w' g:=by
 obtain⟨w1,w5,l,K,X,A,M,O,P,C,D,L,S,U,ad,ae,hK,J,Z,ab,G,V,I⟩:=d;have N:=h.yy;have af:=N.sz;have d:=h.ok.d;obtain⟨cA,H⟩:=h.hA;have E:∀ k,g.k.li.ownBlock=some k->base<=k/\∃ c,Ϙ w k (.cells c 29):=λk a=>qJ1 h.ok.held.li k (by simp[a]);have F:∀ k,g.k.wa.ownBlock=some k->base<=k/\∃ c,Ϙ w k (.cells c 29):=λk a=>qJ1 h.ok.held.wa k (by simp[a]);have m:Muts base [169,114,130,29] w L:=λk a=>by
  rcases J k a with a|rfl|a|a
  .simp at a;rcases a with rfl|rfl
   .exact⟨h.S.bSt,_,h.S.sh.hSt,λc t f e=>by cases e;decide⟩
   .exact⟨d.bA,_,H,λc t f e=>by cases e;decide⟩
  .exact⟨d.bB,_,d.hB,λc t f e=>by cases e;decide⟩
  .obtain⟨v,c,b⟩:=E k a;exact⟨v,_,b,λc t f e=>by cases e;decide⟩
  .obtain⟨v,c,b⟩:=F k a;exact⟨v,_,b,λc t f e=>by cases e;decide⟩
 have W:=X.tr A;have aa:=h.S.sh.quiet N.hx (W.mono (by simp +contextual)) (qD0 K.2 A (by intro k a;cases a)) (A.hp K.1);have p:∀ {k:Nat} {c:Array Value} {t:TypeId} {f:Nat × Nat},Ϙ w k (.cells c t f)->t≠130->t≠29->k ∉ G:=λa t1 t2 o=>by
  rcases I _ o with e|e|e|e
  .have:=M _ e;have:=ζ a;omega
  .exact qA1 a d.hB t1 e
  .obtain⟨_,c,b⟩:=E _ e;exact qA1 a b t2 rfl
  .obtain⟨_,c,b⟩:=F _ e;exact qA1 a b t2 rfl
 have Y:q.s.M ∉ G:=λo=>by
  have s:=h.S.sh.hM;rcases I _ o with e|e|e|e
  .have:=M _ e;have:=s.lt;omega
  .exact qD3 d.hB s e.symm
  .obtain⟨_,c,b⟩:=E _ e;exact qD3 b s rfl
  .obtain⟨_,c,b⟩:=F _ e;exact qD3 b s rfl
 have B:=Sh.kp aa V (by
  have u:=h.S.sh;simp only[mC,lN,or_false];rintro k (rfl|rfl|rfl|rfl|rfl|rfl)
  .exact p u.hDb dC dC
  .exact p u.hSt dC dC
  .exact Y
  .exact p u.dev.hV dC dC
  .exact p H dC dC
  .exact p u.dev.hC dC dC)
 have ac:=h.ok.hlen;refine⟨{ g with k:={ g.k with li:=O,wa:=P },hs:=g.hs++[C,D] },L,⟨d.turnK g.k.ts O P g.so g.ys (g.hs++[C,D]) hK oM S (Dvl.x ⟨B.dev.hA,B.dev.hC⟩) (m.apt dC),U,by show (((g.hs++[C,D]).length:Nat):Int)<=T+2;simp;omega,λx j=>?_,?_,by have:=h.ok.ylen;show ((g.ys.length:Nat):Int)<=T+2;omega,.inr ⟨q,r,h.e1,h.e2,h.ex,h.ew,h.ec.keep hK (m.apt dC),h.S.hold hK oM B (λz hz k a o=>?_) (m.apt dC)⟩,h.ok.sep⟩,rfl,λk a=>?_,hK,λk a=>?_⟩
 .rcases mA j with j|j
  .have:=h.ok.hps x j;omega
  .simp only[mC,lN,or_false] at j;rcases j with rfl|rfl<;>omega
 .refine qS0 h.ok.row hK (λk a=>?_);obtain⟨_,c,b⟩:=qJ1 h.ok.row k (by simp[a]);exact m.not b dC
 .obtain⟨_,c,t,f,Q,R⟩:=(h.S.ys z hz).yMut k a;exact (m.apt (Us:=yTs) dC) k o _ _ _ Q R
 .rcases qD4.1 a with a|a|a|a|a|a
  .exact .inl (qD4.2 (.inl a))
  .exact .inl (qD4.2 (.inr (.inl a)))
  .rcases Z k a with a|a
   .exact .inl (qD4.2 (.inr (.inr (.inl a))))
   .exact .inr a
  .rcases ab k a with a|a
   .exact .inl (qD4.2 (.inr (.inr (.inr (.inl a)))))
   .exact .inr a
  .exact .inl (qD4.2 (.inr (.inr (.inr (.inr (.inl a))))))
  .exact .inl (qD4.2 (.inr (.inr (.inr (.inr (.inr a))))))
 .refine qD4.2 ?_;rcases J k a with a|rfl|a|a
  .simp at a;rcases a with rfl|rfl
   .exact .inr (.inr (.inr (.inr (.inl (by rw[h.e1];simp[qJ8])))))
   .exact .inl (.inr (.inl rfl))
  .exact .inl (.inl rfl)
  .exact .inr (.inr (.inl a))
  .exact .inr (.inr (.inr (.inl a)))
theorem kE6(h:At base T w g q r i y)(lo hi)(f:Int)(o:Gw.I64 f):CSt base T w g 134 #[.pointer (some ⟨g.B,0,none⟩),.pointer (some ⟨y.tb,0,none⟩),.string lo,.string hi,.int .i64 f]:=by
 have j:=h.yy;have p:=h.T1;obtain⟨cA,m⟩:=h.hA;have n:ProgS w [q.St,g.A]:=h.progs (by simp +contextual)
 cases ho:y.t.over with
 | true=>
  refine (kE8 g.B y.tb g.A g.n g.C (.slice none 0 0) cA g.wr g.k y.f y.ps lo hi f (some 5) rfl [q.St,g.A] (Qt g q) w (h.look m) n (by rw[j.dn,ho]) ((kE7 y.f.x y.t q.s lo hi f w j.hx ho h.hStt h.S.sh.po h.xS).mono ?_)).mono λe w' ⟨a,s,b,c,d⟩=>⟨a,h.quiet b c d⟩;rintro e w' ⟨v,a,b,c,d⟩;obtain⟨k,l⟩:=h.over c d;exact⟨_,v,a,b,k,l,rfl⟩
 | false=>
  refine (kE9 g.B y.tb g.A g.n g.C (.slice none 0 0) cA g.wr g.k y.f y.ps base g.hs lo hi f none rfl [q.St,g.A] (Qt g q) w (h.look m) n (by rw[j.dn,ho]) h.ok.held (by have:=h.ok.hlen;omega) h.hbs ((xP9 h.S.sh.E y.f.x g.A g.n y.t q.s y.r lo hi f w (h.live ho) o.1 o.2).mono ?_)).mono λe w' ⟨a,b⟩=>⟨a,h.scanned (xP8 _ _ _ _) b⟩;rintro e w' ⟨v,rfl,a,b⟩;obtain⟨k,l⟩:=h.bad b;rw[(j.live ho).cont] at a;exact⟨v,_,rfl,rfl,k,l,a⟩
end
def qS6(com:Int):List YG→List (Int × Nat)
 | []=>[]
 | y::ys=>if y.f.dn=false∧y.f.com<com then (y.t.h.b,(y.ps.length+1) / 2)::qS6 com ys else qS6 com ys
theorem xR3(b:Int):∀ a:List YG,((meas Prod.snd (qS6 b a):Nat):Int)<=qG0 b (qH2 a)
 | []=>iR _
 | y::a=>by
  have c:=xR3 b a;simp only[qH2,List.map_cons,qG0] at c |-;rw[qS6];split
  .rw[qC2];simp only;omega
  .omega
theorem zT9{d:Int}{y:YG}(a:y.f.dn=false)(b:y.f.com<d):∀ {c:List YG},y∈c->(y.t.h.b,(y.ps.length+1) / 2)∈qS6 d c
 | z::c,h=>by
  rw[qS6];rcases List.mem_cons.1 h with rfl|h
  .rw[if_pos ⟨a,b⟩];exact List.mem_cons_self
  .split
   .exact mM _ (zT9 a b h)
   .exact zT9 a b h
section
variable {base i:Nat} {T:Int} {w w' w1:World} {q q':SG} {y:YG} {g:TG} {r:Root}
theorem At.reader(h:At base T w g q r i y){m:Int}(l:Maps.has q.D (ι m)=true):∃ j,∃ b:j<g.ys.length,g.ys[j].t.over=false/\g.ys[j].t.wrt=false/\g.ys[j].t.nr=m:=by
 obtain⟨j,k,a,c,d,f⟩:=(h.S.bk.keys m).1 l;have b:j<g.ys.length:=by have:=Gw.zX0 a;simpa using this
 have e:k=kOf g.ys[j]:=by simp[b] at a;exact a.symm
 subst e;exact⟨j,b,c,d,f⟩
theorem At.covers(h:At base T w g q r i y){D}(v:∀ k,Maps.has D k=true->Maps.has q.D k=true/\∀ zd,D.atKey k zd=q.D.atKey k zd):zC7 g.n D g.l ((q.s.rb,(r.cont.length+1) / 2)::qS6 g.k.com g.ys):=λm hh r0 g1 g2 g3 g4 g5=>by
 obtain⟨t,u⟩:=v _ g1;obtain⟨j,c,b,l,rfl⟩:=h.reader t;have f:=h.S.ys _ (gM c);have d:=f.live b;obtain⟨n,o,p,a⟩:=d.red l;have x:=zU3 ((g2 (.lit (.int .i64 0))).symm.trans ((u _).trans (p _))) g3 n;subst x;have e:=qX0 g5;rcases a with a|⟨a,s⟩
 .rw[(Lie.one h.S.sh.N1 g4 o).1,d.cont] at e;exact⟨_,mM _ (zT9 (by rw[f.dn];exact b) a (gM c)),rfl,by simp only;omega⟩
 .rw[a,s] at g4;rw[(Lie.one h.S.sh.N1 g4 h.S.sh.lie).1] at e;exact⟨_,List.mem_cons_self,a.symm,by simp only;omega⟩
theorem At.noroom(h:At base T w g q r i y)(a:RGood y.r)(e:y.r.cont=y.ps)(b:g.n<2+y.r.news+qD2 y.r+qD2 r+meas Prod.snd ((q.s.rb,(r.cont.length+1) / 2)::qS6 g.k.com g.ys)):qR8 g.k r.cont.length y.f.most 0 (qG0 g.k.com (qH2 g.ys))=false:=by
 have c:=qX0 a;have f:=qX0 h.S.sh.good;have d:=qX1 a;have j:=xR3 g.k.com g.ys;have k:=h.yy.m0;rw[e] at c d;rw[qC2] at b;simp only at b;rw[qR8];have:¬(3*(max (max y.f.most 0) ((r.cont.length:Nat):Int))+12+qG0 g.k.com (qH2 g.ys)<=(g.k.n:Int)):=by
  show ¬(_<=(g.n:Int));omega
 rw[decide_eq_false this];rfl
theorem YOk.then{n:Nat}{b a:Int}{E E'}{l l'}(h:YOk base T w n b E l q y)(c:q'.St=q.St)(d:b<=a)(e:y.t.over=false->Lv w n a E' l' q' y):YOk base T w n a E' l' q' y:=
 { h with st:=by rw[c];exact h.st,cm:=Int.le_trans h.cm d,live:=e }
def CmR(g:TG)(q:SG)(y:YG)(r:Root)(ko:Option Int)(w1:World):Prop:=w1.heap[y.f.x]?=some (qA5 y.t.ended)∧
 ((ko=none∧∃ s' l' wr' nt,Sh w1 q.Db q.St g.A g.C g.n q.nM s' (q.D.del (ι y.t.nr)) l' wr' nt∧nt.cont=y.r.cont∧(l'=g.l∨Hd2 g.n l' r.cont nt.cont)∧s'.bg=q.s.bg∧s'.wr=(q.s.left y.t.nr).wr∧s'.V=q.s.V∧s'.M=q.s.M∧l'.length=g.l.length∧zC9 g.n (q.D.del (ι y.t.nr)) g.l l'∧g.wr≤wr'∧wr'≤g.wr+30003)∨
  (ko=some 3∧Sh w1 q.Db q.St g.A g.C g.n q.nM (q.s.left y.t.nr) (q.D.del (ι y.t.nr)) g.l g.wr r))
theorem Books.as{s s'}{D}{ks:List TK}(h:Books s D ks)(a:s'.wr=s.wr)(b:s'.bg=s.bg):Books s' D ks:=
 { h with wrs:=by rw[a];exact h.wrs,wr1:=by rw[a];exact h.wr1,nrs:=by rw[b];exact h.nrs }
theorem At.committed(h:At base T w g q r i y)(Q:y.t.over=false)(hw:y.t.wrt=true)(hR:CmR g q y r none w1)(F:Kp [q.St,y.f.x,q.s.M,g.A,g.C] w w1)(N:Kp [y.tb,g.B] w1 w')(ah:w'.heap[y.tb]?=some (tob { y.f with dn:=true })){E K L J:Nat}{xk:List Value}(af:Both (SPR w) xk g.weres)(am:E=g.weres.length)
  (ag:w'.heap[g.B]?=some (kob { g.k with may:=.slice (some ⟨K,0,none⟩) 1 1,emp:=false,were:=.slice (some ⟨L,0,none⟩) (E+1) J,c:=y.f.v,com:=g.k.com+1 })) (ao:w'.ownsRow w1.heap.size 126 1 (.slice (some ⟨K,0,none⟩) 1 1) 1 [y.f.v]) (ar:RowM w' w1.heap.size (.slice (some ⟨L,0,none⟩) (E+1) J) (E+1) (xk++[y.f.v])):DStep qF4 base (T+2) w w' g:=by
 obtain⟨au,⟨_,s',l',wr',nt,hsh,a1,H,a4,a5,a6,a7,a8,a9,a10,a11⟩|⟨h3,_⟩⟩:=hR
 rotate_left
 .cases h3
 have p:=h.yy;have ac:=p.live Q;have d:=h.ok.d;obtain⟨n1,n2,n3,n4,n5,n6,n7⟩:=h.ne;obtain⟨cA,hA⟩:=h.hA;have A:=F.heap p.hT (by simp[n1,n2,n3,n6];exact qA1 p.hT h.S.sh.dev.hC dC);have x:=F.heap d.hB (by
  simp only[mC,lN,or_false,not_or];exact⟨qA1 d.hB h.S.sh.hSt dC,qA1 d.hB p.hx dC,qD3 d.hB h.S.sh.hM,d.ne.1.symm,d.ne.2.symm⟩)
 have C:Kp [g.B,g.A,g.C,q.St,q.s.M,y.f.x,y.tb] w w':=(F.mono (λk f _=>by simp at f |-;rcases f with h | h | h | h | h<;>simp[h])).trans N (λk f _=>by simp at f |-;rcases f with h | h<;>simp[h]);have aa:∀ k∈[g.B,g.A,g.C,q.St,q.s.M,y.f.x,y.tb],k∈[g.B,g.A,g.C,q.St,q.s.M]\/k∈qG3 y:=λk f=>by
  simp only[mC,lN,or_false] at f;rcases f with e|e|e|e|e|e|e
  .exact .inl (by simp[e])
  .exact .inl (by simp[e])
  .exact .inl (by simp[e])
  .exact .inl (by simp[e])
  .exact .inl (by simp[e])
  .exact .inr (qO9.2 (.inr e))
  .exact .inr (qO9.2 (.inl e))
 have a0:y∈g.ys:=by have:=gM h.hi;rw[h.hy] at this;exact this
 have G:Muts base [130,114,115,169,99,197] w [g.B,g.A,g.C,q.St,q.s.M,y.f.x,y.tb]:=λk f=>by
  simp only[mC,lN,or_false] at f;rcases f with rfl|rfl|rfl|rfl|rfl|rfl|rfl
  .exact⟨d.bB,_,d.hB,λc t o e=>by cases e;decide⟩
  .exact⟨d.bA,_,hA,λc t o e=>by cases e;decide⟩
  .exact⟨d.bC,_,h.S.sh.dev.hC,λc t o e=>by cases e;decide⟩
  .exact⟨h.S.bSt,_,h.S.sh.hSt,λc t o e=>by cases e;decide⟩
  .obtain⟨es,mc,hM⟩:=RM.obj h.S.sh.hM;exact⟨h.S.bM,_,hM,λc t o e=>by cases e⟩
  .exact⟨p.bX,_,p.hx,λc t o e=>by cases e;decide⟩
  .exact⟨p.bT,_,p.hT,λc t o e=>by cases e;decide⟩
 have B:Sh w' q.Db q.St g.A g.C g.n q.nM s' (q.D.del (ι y.t.nr)) l' wr' nt:=by
  obtain⟨W,X⟩:=hsh.hA;refine Sh.kp hsh N λj n l=>?_;simp only[mC,lN,or_false] at n l;rcases l with rfl|rfl
  .rcases n with e|e|e|e|e|e
   .exact qA1 A hsh.hDb dC e
   .exact qA1 A hsh.hSt dC e
   .exact qD3 A hsh.hM e
   .exact qA1 A hsh.dev.hV dC e
   .exact qA1 A X dC e
   .exact qA1 A hsh.dev.hC dC e
  .rcases n with e|e|e|e|e|e
   .exact qA1 x hsh.hDb dC e
   .exact qA1 x hsh.hSt dC e
   .exact qD3 x hsh.hM e
   .exact qA1 x hsh.dev.hV dC e
   .exact qA1 x X dC e
   .exact qA1 x hsh.dev.hC dC e
 have aq:=p.sz;have a3:=F.size;have aw:=h.hbs;have S:SPR w' y.f.v nt.cont:=by rw[a1,ac.cont];exact p.sp.keep C (G.apt dC)
 have az:((nt.cont.length:Nat):Int)<=T:=by rw[a1,ac.cont];exact aq
 have bb:=d.wr0;have bc:=d.wr1;have ax:=d.com0;have ay:=d.com1;have aj:=h.S.bk.left (World.ownsMap.tidy h.S.sh.hM qM3) h.num.1 Q;refine h.ok.txn (g':=⟨g.B,g.C,{ g.k with may:=.slice (some ⟨K,0,none⟩) 1 1,emp:=false,were:=.slice (some ⟨L,0,none⟩) (E+1) J,c:=y.f.v,com:=g.k.com+1 },l',wr',some nt,[nt.cont],g.weres++[nt.cont],some { q with s:=s',D:=q.D.del (ι y.t.nr) },g.ys.set i ⟨y.tb,{ y.f with dn:=true },y.t.ended,y.r,y.ps⟩,g.hs⟩) h.e1 h.S h.hi C (by rw[h.hy];exact aa) oM ⟨rfl,rfl,rfl,rfl,rfl,rfl⟩ ⟨rfl,rfl,rfl⟩ (by rw[h.hy]) (λk f=>by rw[h.hy];exact .inl f) ⟨rfl,a7⟩ ?_ ⟨nt,rfl,h.ex,List.mem_append_right _ (List.mem_singleton.2 rfl),S,h.S.bSt,by show base<=s'.M;rw[a7];exact h.S.bM,B,by show s'.bg<=T+2;rw[a4];have:=h.S.bg1;omega,by have:=h.S.nM;show ((q.nM:Nat):Int)<=T+2;omega,by rw[List.map_set];exact Books.as aj a5 a4,λz hz=>?_⟩
 .have ba:=d.wlen;have ai:∀ i c t o,Ϙ w i (.cells c t o)->i∈[g.B,g.A,g.C,q.St,q.s.M,y.f.x,y.tb]->t≠126/\t≠284:=λi c t o e hi=>by
   have:=(G.apt (Us:=[126,284]) dC) i hi c t o e;simpa using this
  refine { bB:=d.bB,bA:=d.bA,bC:=d.bC,hB:=ag,n1:=d.n1,po:=d.po,dev:=Dvl.x ⟨B.dev.hA,B.dev.hC⟩,len:=by show g.n*128<=l'.length;rw[a8];exact d.len,lies:=λ_ _=>⟨_,.inr ⟨_,_,B.heads,B.lie,B.good⟩⟩,wr0:=by show 0<=wr';omega,wr1:=by show wr'<=15002*(T+2-26000);omega,may:=zB4 ao oM S,were:=⟨_,by show RowM w' base _ (g.weres++[nt.cont]).length _;rw[lA,<-am];exact ar.le oM,Both.snoc ⟨af.1,λi a b=>(af.2 i a b).keep C λq hq c t o e l=>(ai q c t o e hq).2 (mS l)⟩ S⟩,mlen:=by show ((1:Nat):Int)<=60000*(T+2);omega,wlen:=by show (((g.weres++[nt.cont]).length:Nat):Int)<=T+2;rw[lA];simp only[lC,List.length_nil];omega,mms:=λm l=>?_,qlen:=λr' e=>by cases e;omega,kn:=?_,com0:=by show 0<=g.k.com+1;omega,com1:=by show g.k.com+1<=T+2;omega }
  .simp only[List.mem_append,List.mem_singleton] at l;rcases l with rfl|l|rfl
   .omega
   .have:=d.mms m (List.mem_append_right _ l);omega
   .omega
  .show Kn g.k.wild false g.k.bit g.n l' (some nt) [nt.cont] (g.weres++[nt.cont]);refine d.kn.imp id λ⟨_,_,k3⟩=>⟨λr' e=>(by cases e;simp),λe=>(by cases e),λe v I=>?_⟩;rcases H with rfl|H
   .exact (k3 e v I).more _
   .refine .inr λj n=>?_;obtain⟨M,rb,rs,r0,W,c2,c3,c4⟩:=H j n;refine⟨M,rb,rs,r0,W,c2,c3,?_⟩;rcases c4 with e|e
    .rw[e];exact List.mem_append_left _ h.ew
    .rw[e];simp
 .obtain⟨j,n,rfl⟩:=gO hz;simp only[List.length_set] at n;rw[List.getElem_set];split
  .exact h.overY C (G.apt dC) (by show g.k.com<=g.k.com+1;omega) ah (N.heap au (by simp[n2.symm];exact qA1 p.hx d.hB dC)) rfl
  .rename_i P;have V:=h.S.ys _ (gM n);have ae:=pG h.ok.sep;have ap:=h.S.off d.hB _ (gM n);have av:=V.kp C (show T<=T+2 by omega) (λk f l=>by
    rcases aa k l with l|l
    .exact ap k f l
    .rw[<-h.hy] at l;rcases Nat.lt_or_gt_of_ne P with an|ak
     .exact ae i j h.hi n an k l f
     .exact ae j i n h.hi ak k f l) (G.apt dC)
   refine av.then (q:=q) rfl (by show g.k.com<=g.k.com+1;omega) λR=>?_;have u:=V.live R;have O:(g.ys.map kOf)[j]?=some (kOf g.ys[j]):=by simp[n]
   have U:g.ys[j].t.wrt=false:=by
    cases hb:g.ys[j].t.wrt with
    | false=>rfl
    | true=>
     have e1:=h.S.bk.wrs j _ O R hb;have e2:=h.S.bk.wrs i _ h.num.1 Q hw;exact absurd (h.S.bk.dist j i _ _ O h.num.1 (e1.trans e2.symm)) (λe=>P e.symm)
   obtain⟨v,I,b3,b4⟩:=u.red U;have ad:=h.others j n (λe=>P e.symm);have al:Maps.has (q.D.del (ι y.t.nr)) (ι g.ys[j].t.nr)=true:=by
    rw[Maps.has_del_other ad];exact (h.S.bk.keys _).2 ⟨j,_,O,R,U,rfl⟩
   have Z:g.ys[j].t.h=⟨⟨#[]⟩,g.ys[j].t.h.b,g.ys[j].t.h.s,none⟩:=by
    have f:=xO8 u.rr u.good;cases hx:g.ys[j].t.h;rw[hx] at f v;simp only at f v;rw[f,v]
   have Y:=λzd=>(Maps.atKey_del_other ad zd).trans (b3 zd);have ab:=a9 _ _ _ _ al (by rw[<-Z];exact Y) I;exact { on:=by show g.ys[j].t.on=some ⟨s'.V,0,none⟩;rw[a6];exact u.on,rr:=by rw[Z];exact ab.rr u.good w',good:=u.good,cont:=u.cont,wrt:=λe=>(by rw[U] at e;cases e),red:=λ_=>⟨v,ab,Y,.inl (by have:=V.cm;show _<g.k.com+1;omega)⟩ }
theorem jD8(h:At base T w g q r i y)(n:y.t.over=false)(p:y.t.wrt=true):CSt base T w g 135 #[.pointer (some ⟨g.B,0,none⟩),.pointer (some ⟨y.tb,0,none⟩),.bool true]:=by
 have d:=h.yy;have m:=d.live n;have b:=h.ok.d;obtain⟨cA,hA⟩:=h.hA;obtain⟨m1,m2,m3⟩:=h.num;have hT:=h.T1;have ah:=h.S.sh.N4;have ak:=b.qlen r h.e2;have M:=b.wr0;have an:=b.wr1;obtain⟨W,X,ae⟩:=h.ec.form;obtain⟨xk,C,f3⟩:=b.were;obtain⟨pw,Z,G⟩:=C.form;rw[G] at C;obtain⟨xm,E,f6⟩:=b.may;obtain⟨pm,Y,H⟩:=E.form;rw[H] at E;have am:=b.wlen;have aj:=b.mlen;have al:=d.sz;have ag:=qX1 m.good;rw[m.cont] at ag;have ac:∀ k,Maps.has (q.D.del (ι y.t.nr)) k=true->Maps.has q.D k=true/\∀ zd,(q.D.del (ι y.t.nr)).atKey k zd=q.D.atKey k zd:=λk a=>by
  by_cases e:k=ι y.t.nr
  .rw[e,Maps.has_del_same] at a;cases a
  .rw[Maps.has_del_other e] at a;exact⟨a,λzd=>Maps.atKey_del_other e zd⟩
 refine (jG6 g.B y.tb g.A g.n g.C (.slice none 0 0) cA g.wr g.k y.f (qF3 g) (qH2 g.ys) y.ps [q.St,y.f.x,q.s.M,g.A,g.C] (CmR g q y r) w (h.chg hA _ _) (h.progs (by simp +contextual)) (by rw[d.dn,n]) (by rw[d.wr,p]) M oM b.com0 (by have:=b.com1;omega) h.tfs (by have:=h.ok.ylen;simp[qF3];omega) (λx hx=>by
  obtain⟨z,hz,rfl⟩:=List.mem_map.1 hx;have:=(h.S.ys z hz).sz;simp only;omega) W r.cont.length X ae oM (by show g.n<=100000;omega) base g.mays.length Y g.weres.length Z pm pw H G E C oM oM ?_).mono ?_
 .refine (h.S.sh.commits (h.live n) d.st p oM m3).mono ?_;rintro e w1 ⟨v,ko,rfl,L,A,f,hc⟩;rcases hc with⟨rfl,s',l',o,nt,l,B,O,P,Q,R,S,U,V,N⟩|⟨rfl,l,B⟩
  .obtain⟨c,F⟩:=l.hA;obtain⟨⟨k0,ad,K⟩,_⟩:=m.wrt p;have u:g.wr<=o/\o<=g.wr+30003/\o-g.wr<=12*y.f.chg+2:=by
    rcases N with rfl|⟨rfl,ai⟩
    .have:=d.c0;omega
    .unfold qM0 at K;rw[if_neg oM] at K;rw[zA9 M oM,xL5 oM oM _ oM,zA9 oM oM,ad];omega
   exact⟨v,none,_,c,o,rfl,L,⟨A,.inl ⟨rfl,s',l',o,nt,l,B,O,P,Q,R,S,U,V,u.1,u.2.1⟩⟩,f,F,u.1,u.2.2,.inl rfl⟩
  .obtain⟨c,F⟩:=l.hA;exact⟨v,some 3,_,c,g.wr,rfl,L,⟨A,.inr ⟨rfl,l⟩⟩,f,F,iR _,by have:=d.c0;omega,.inr ⟨rfl,h.noroom m.good m.cont (B _ (h.covers ac))⟩⟩
 .rintro e w' ⟨rfl,ko,w1,hR,f,hT',⟨rfl,hK2⟩|⟨rfl,hK2,gm,gw,cw',hB',hmay,hwere⟩⟩
  .obtain⟨A,⟨h3,_⟩|⟨_,hsh⟩⟩:=hR
   .cases h3
   refine⟨rfl,?_⟩;obtain⟨n1,n2,n3,n4,n5,n6,n7⟩:=h.ne;have J:Kp [q.St,y.f.x,q.s.M,g.A,g.C,y.tb] w w':=(f.mono (λk a _=>by simp at a |-;rcases a with h | h | h | h | h<;>simp[h])).trans hK2 (λk a _=>by simp at a |-;simp[a]);have aa:=f.heap d.hT (by simp[n1,n2,n3,n6];exact qA1 d.hT h.S.sh.dev.hC dC);have ab:=h.S.bk.left (World.ownsMap.tidy h.S.sh.hM qM3) h.num.1 n;refine h.step (q':={ q with s:=q.s.left y.t.nr,D:=q.D.del (ι y.t.nr) }) (y':=⟨y.tb,{ y.f with dn:=true },y.t.ended,y.r,y.ps⟩) J (λk a=>?_) rfl (λk a=>.inl a) (Sh.one hsh hK2 aa dC) ⟨rfl,rfl,rfl,rfl⟩ ⟨rfl,rfl,rfl,rfl⟩ (by rw[List.map_set];exact ab) (λj hj af _ _ zd=>Maps.atKey_del_other (h.others j hj af) zd) (h.overY J (λk a c t fr e=>?_) (iR _) hT' (hK2.heap A (by simpa using n2.symm)) rfl)
   .simp only[mC,lN,or_false] at a;rcases a with e|e|e|e|e|e
    .exact .inl (by simp[e])
    .exact .inr (qO9.2 (.inr e))
    .exact .inl (by simp[e])
    .exact .inl (by simp[e])
    .exact .inl (by simp[e])
    .exact .inr (qO9.2 (.inl e))
   .by_cases I:k=g.C
    .rw[I,h.S.sh.dev.hC] at e;cases e;decide
    .exact h.apt (Ts:=[284]) dC k (by simp at a |-;rcases a with e | e | e | e | e | e<;>simp[e];exact absurd e I) c t fr e
  .exact⟨rfl,h.committed n p hR f hK2 hT' f3 rfl hB' hmay hwere⟩
end
theorem Kp.less{S}{k:Nat}{o}{w w'}(h:Kp (k::S) w w')(a:w.heap[k]?=some o)(b:w'.heap[k]?=some o):Kp S w w':=
 ⟨h.os,h.tape,h.output,h.size,λi c d=>by
  by_cases e:i=k
  .rw[e,a,b]
  .exact h.block i c (by simp[e,d])⟩
theorem xJ6{N:Nat}{l}{a rs:Int}{r}(h:Lie N l a rs r):r.news=0:=by
 cases r with
 | none=>rfl
 | «at» n L=>obtain⟨b,_,e,_⟩:=h;exact xL4 e
section
variable {base:Nat} {T com:Int} {w w':World} {q q':SG} {g:TG} {r:Root} {N:Nat} {E:SEnv} {l:List UInt8}
theorem zM2(wr:Bool):∀ a:List YG,(∀ y∈a,YOk base T w N com E l q y)->qE7 wr (qH2 a)=Gw.cnt wr (a.map kOf)
 | [],_=>rfl
 | y::a,h=>by
  have d:=zM2 wr a (λz j=>h z (mM _ j));have c:=h y sM;rw[Gw.cnt] at d |-;simp only[qH2,List.map_cons,qE7,List.countP_cons];rw[show a.map (λy=>(y.f,y.ps.length))=qH2 a from rfl,d];have e:=c.dn;have f:=c.wr;rw[e,f];by_cases b:y.t.over=false/\y.t.wrt=wr
  .rw[if_pos b,if_pos (show (!(kOf y).over && (kOf y).wrt == wr)=true by simp[kOf,b.1,b.2])];omega
  .rw[if_neg b,if_neg (show ¬(!(kOf y).over && (kOf y).wrt == wr)=true from λi=>b (by simpa [kOf] using i))];omega
def BgR(g:TG)(q q':SG)(r:Root)(wrt:Bool)(w:World)(xo:Option Addr)(w1:World):Prop:=∃ x t,xo=some ⟨x,0,none⟩∧w.heap.size≤x∧t.St=q.St∧t.nr=q.s.bg+1∧t.wrt=wrt∧t.ch=0∧t.h=⟨⟨#[]⟩,q.s.rb,q.s.rs,none⟩∧∃ hS':Sh w1 q'.Db q'.St g.A g.C g.n q'.nM q'.s q'.D g.l g.wr r,LiveT hS'.E w1 x g.A g.n t q'.s r
theorem TOk.born{s:Bool}(h:TOk base T w g)(ao:base<=w.heap.size)(al:26000<=T)(D:g.so=some q)(J:g.q=some r)(ex:g.k.x=some ⟨q.Db,0,none⟩)(Y:r.cont∈g.weres)(Z:SPR w g.k.c r.cont)(f:SOk base T w g.A g.C g.n g.l g.wr g.k.com r q g.ys)
  (e:q'.St=q.St/\q'.s.V=q.s.V/\q'.s.rb=q.s.rb/\q'.s.rs=q.s.rs) (X:q'.s.M=q.s.M/\q'.Db=q.Db/\q'.s.bg=q.s.bg+1/\q'.nM<=q.nM+1) (ad:Books q'.s q'.D (g.ys.map kOf++[⟨false,s,q.s.bg+1⟩])) (hD:∀ m,m<=q.s.bg->∀ zd,q'.D.atKey (ι m) zd=q.D.atKey (ι m) zd) (O:s=false->∀ zd,q'.D.atKey (ι (q.s.bg+1)) zd=qG2 ⟨⟨#[]⟩,q.s.rb,q.s.rs,none⟩)
  (hd:zV4 g.k g.B base r.cont.length s (qF3 g) (BgR g q q' r s w) [q.St,q.s.M] w w'):DStep qF4 base (T+2) w w' g:=by
 obtain⟨S,x,tb,v',L,⟨x2,t,hxe,hx1,ht1,ht2,ht3,ht4,ht5,hS1,hL1⟩,hK1,htb,hT',hB',hrow',hK2,hL,hown⟩:=hd;cases hxe;obtain⟨I,U,a4,a5⟩:=X;obtain⟨cA,hA⟩:=f.sh.hA;have au:=hK1.size;have ak:=hS1.hSt;have H:∀ k,g.k.ts.ownBlock=some k->base<=k/\∃ c,Ϙ w k (.cells c 132):=λk d=>qJ1 h.row k (by simp[d]);have G:∀ {k:Nat} {c:Array Value} {t:TypeId} {o:Nat × Nat},Ϙ w k (.cells c t o)->t≠169->Ϙ S k (.cells c t o):=λd ht=>hK1.heap d (by
  simp only[mC,lN,or_false,not_or];exact⟨qA1 d f.sh.hSt ht,qD3 d f.sh.hM⟩)
 have M:=G h.d.hB dC;have u:∀ {k:Nat} {c:Array Value} {t:TypeId} {o:Nat × Nat},Ϙ S k (.cells c t o)->t≠130->t≠132->k ∉ L:=λd n1 n2 B=>by
  rcases hL _ B with rfl|e
  .exact qA1 d M n1 rfl
  .obtain⟨_,c,n⟩:=H _ e;exact qA1 d (G n dC) n2 rfl
 have ab:q'.s.M ∉ L:=λB=>by
  rcases hL _ B with e|e
  .exact qD3 M hS1.hM e.symm
  .obtain⟨_,c,n⟩:=H _ e;exact qD3 (G n dC) hS1.hM rfl
 have A:Kp (q.St::q.s.M::L) w w':=(hK1.mono (λk d _=>by simp at d |-;rcases d with h | h<;>simp[h])).trans hK2 (λk d _=>by simp[d]);have p:Muts base [169,130,132] w (q.St::q.s.M::L):=λk d=>by
  simp only[mC] at d;rcases d with rfl|rfl|d
  .exact⟨f.bSt,_,f.sh.hSt,λc t o e=>by cases e;decide⟩
  .obtain⟨es,mc,hM⟩:=RM.obj f.sh.hM;exact⟨f.bM,_,hM,λc t o e=>by cases e⟩
  .rcases hL k d with rfl|d
   .exact⟨h.d.bB,_,h.d.hB,λc t o e=>by cases e;decide⟩
   .obtain⟨F,c,n⟩:=H k d;exact⟨F,_,n,λc t o e=>by cases e;decide⟩
 obtain⟨ai,aa⟩:=hS1.hA;have v:=Sh.kp hS1 hK2 (by
  simp only[mC,lN,or_false];rintro k (rfl|rfl|rfl|rfl|rfl|rfl)
  .exact u hS1.hDb dC dC
  .exact u hS1.hSt dC dC
  .exact ab
  .exact u hS1.dev.hV dC dC
  .exact u aa dC dC
  .exact u hS1.dev.hC dC dC)
 have ag:=hK2.heap hL1.hx (u hL1.hx dC dC);have am:=f.sh.bg0;have an:=f.bg1;have aq:=f.nM;have ap:=h.hlen;have av:=h.ylen;have ar:=h.d.qlen r J;have aj:=f.sh.N4;have K:=Z.keep A (p.apt dC);have af:=xJ3 f.sh.lie.old f.sh.good;rw[xJ6 f.sh.lie] at af;have hE:v.E=f.sh.E:=by
  have F:=e.2.1;show EL q'.s.V _ _ _ _ _ _ _ _ _=EL q.s.V _ _ _ _ _ _ _ _ _
  congr 1
 obtain⟨y,C⟩:∃ y:YG,y=⟨tb,TF.born g.k x r.cont.length s,t,r,r.cont⟩:=⟨_,rfl⟩;have Q:∀ k,k∈qG3 y->w.heap.size<=k:=λk d=>by
  rw[C] at d;rcases qO9.1 d with e|e
  .rw[e];show w.heap.size<=tb;omega
  .rw[e];exact hx1
 have ah:YOk base (T+2) w' g.n g.k.com v.E g.l q' y:=by
  subst C;refine { bT:=by show base<=tb;omega,bX:=by show base<=x;omega,hT:=hT',hx:=ag,st:=by rw[e.1];exact ht1,sp:=K,m0:=iR _,m1:=by show ((r.cont.length:Nat):Int)<=T+2;omega,c0:=iR _,c1:=by show (0:Int)<=T+2;omega,cm:=iR _,wr:=ht3.symm,dn:=hL1.over.symm,ch0:=by rw[ht4];exact iR _,ch1:=by rw[ht4];omega,stp:=ht4.symm,live:=λ_=>⟨hL1.on,?_,f.sh.good,rfl,λ_=>⟨⟨0,rfl,?_⟩,by show r.lf<=1400;omega⟩,λhw=>⟨by rw[ht5],by rw[ht5];exact f.sh.lie,λzd=>?_,.inr (by rw[ht5,e.2.2.1,e.2.2.2];exact⟨rfl,rfl⟩)⟩⟩ }
  .show RR v.E.toEnv w' t.h r;rw[ht5];exact f.sh.lie.rr f.sh.good w'
  .unfold qM0;rw[xJ6 f.sh.lie];exact zL _
  .rw[show s=false from ht3.symm.trans hw] at O;show q'.D.atKey (ι t.nr) zd=qG2 t.h;rw[ht2,ht5];exact O rfl zd
 have ae:kOf y=⟨false,s,q.s.bg+1⟩:=by rw[C];simp only[kOf];rw[hL1.over,ht3,ht2]
 refine⟨{ g with k:={ g.k with ts:=v' },so:=some q',ys:=g.ys++[y] },q.St::q.s.M::L,⟨h.d.turnK v' g.k.li g.k.wa (some q') (g.ys++[y]) g.hs A oM hB' (Dvl.x ⟨v.dev.hA,v.dev.hC⟩) (p.apt dC),Gw.Held.cast (Gw.Held.kp h.held A (λk d=>?_) (λk d=>?_) (p.apt dC)) rfl rfl,by show ((g.hs.length:Nat):Int)<=T+2;omega,λz i=>by have:=h.hps z i;omega,?_,by show (((g.ys++[y]).length:Nat):Int)<=T+2;simp;omega,.inr ⟨q',r,rfl,J,by show g.k.x=_;rw[U];exact ex,Y,K,by rw[e.1];exact f.bSt,by rw[I];exact f.bM,v,oM,oM,by rw[List.map_append,List.map_cons,ae];exact ad,λz i=>?_⟩,?_⟩,rfl,λk d=>?_,A,λk d=>?_⟩
 .obtain⟨_,c,n⟩:=qJ1 h.held.li k (by simp[d]);exact p.not n dC
 .obtain⟨_,c,n⟩:=qJ1 h.held.wa k (by simp[d]);exact p.not n dC
 .have e:qF3 { g with k:={ g.k with ts:=v' },so:=some q',ys:=g.ys++[y] }=qF3 g++[tb]:=by simp[qF3,C]
  rw[e,lA];exact hrow'
 .rcases mA i with i|i
  .have R:=f.ys z i;rw[hE];refine (R.kp A (show T<=T+2 by omega) (λk d B=>?_) (p.apt dC)).move e λ_ _=>hD _ ?_
   .obtain⟨_,c,t,o,V,W⟩:=R.yMut k d;exact (p.apt (Us:=yTs) dC) k B _ _ _ V W
   .obtain⟨j,hj,rfl⟩:=gO i;exact (f.bk.nrs j (kOf g.ys[j]) (by simp[hj])).2
  .rw[mS i];exact ah
 .show (g.ys++[y]).Pairwise _;rw[List.pairwise_append];refine⟨h.sep,sM,λa ha b ac k d P=>?_⟩;rw[mS ac] at P;have F:=(f.ys a ha).yMut.muts.lt d;have n:=Q k P;omega
 .rcases qD4.1 d with d|d|d|d|d|⟨z,i,d⟩
  .exact .inl (qD4.2 (.inl d))
  .rcases hown k d with d|d
   .exact .inl (qD4.2 (.inr (.inl d)))
   .exact .inr oM
  .exact .inl (qD4.2 (.inr (.inr (.inl d))))
  .exact .inl (qD4.2 (.inr (.inr (.inr (.inl d)))))
  .refine .inl (qD4.2 (.inr (.inr (.inr (.inr (.inl ?_))))));rw[D];simp only[qJ8,e.1,I] at d |-;exact d
  .rcases mA i with i|i
   .exact .inl (qD4.2 (.inr (.inr (.inr (.inr (.inr ⟨z,i,d⟩))))))
   .rw[mS i] at d;exact .inr (Q k d)
 .refine qD4.2 ?_;simp only[mC] at d;rcases d with rfl|rfl|d
  .exact .inr (.inr (.inr (.inr (.inl (by rw[D];simp[qJ8])))))
  .exact .inr (.inr (.inr (.inr (.inl (by rw[D];simp[qJ8])))))
  .rcases hL k d with rfl|d
   .exact .inl (.inl rfl)
   .exact .inr (.inl d)
theorem xY4(h:TOk base T w g)(W:26000<=T)(hT:T<=60000)(hb:0<base)(P:base<=w.heap.size)(hg:w.cell? ⟨0,0,none⟩=some qF5)(hx:g.k.x≠none)(ae:Bool):CSt base T w g 82 #[.pointer (some ⟨g.B,0,none⟩),.bool ae]:=by
 obtain⟨q,r,Q,R,M,S,L,f⟩:=h.store hx;obtain⟨cA,hA⟩:=f.sh.hA;have ak:=h.ylen;have X:=f.sh.bg0;have ah:=f.bg1;have aj:=f.nM;have af:TFs w g.k (qF3 g) (qH2 g.ys):=⟨PRow.of h.row,by simp[qF3,qH2],λj h1 h2=>by
  have hj:j<g.ys.length:=by simpa [qF3] using h1
  have ad:=f.ys _ (gM hj);obtain⟨b,c,e⟩:=ad.sp.form;exact⟨by simpa [qF3,qH2] using ad.hT,b,c,by simpa [qH2] using e⟩⟩
 obtain⟨A,B,ag⟩:=L.form;have C:BgIn w g.B g.A g.n g.C (.slice none 0 0) cA g.wr g.k q.Db base (qF3 g) (qH2 g.ys) A r.cont.length B:=⟨h.d.hB,h.d.po,rfl,⟨_,hA⟩,M,ag,af,h.row,P,by simp[qF3];omega,hg⟩;have O:ProgS w [q.St,q.s.M]:=λk n=>by
  simp only[mC,lN,or_false] at n;rcases n with rfl|rfl
  .exact⟨by have:=f.bSt;omega,λc t fr e=>by rw[f.sh.hSt] at e;cases e;decide⟩
  .exact⟨by have:=f.bM;omega,λc t fr e=>absurd rfl (qD3 e f.sh.hM)⟩
 have V:ProgS w [q.St]:=λk n=>O k (by simp at n;simp[n]);have aa:=zM2 true g.ys f.ys;have Y:=zM2 false g.ys f.ys;have ab:=f.bk.size;have ai:=f.bk.four;have Z:∀ i w',Ϙ i q.St (ν 0 q.s)->Kp [q.St] w i->Kp [] i w'->DStep qF4 base (T+2) w w' g:=λi w' b c d=>
  ⟨g,[],h.keep ((Kp.less c f.sh.hSt b).tr d) (Muts.nil _ _ _) sM oM,rfl,λk n=>.inl n,(Kp.less c f.sh.hSt b).tr d,sM⟩
 cases ae with
 | true=>
  by_cases o:q.s.wr=0
  .refine (zX5 g.B g.A g.n g.C (.slice none 0 0) cA g.wr g.k q.Db base (qF3 g) (qH2 g.ys) A r.cont.length B true none rfl [q.St,q.s.M] (BgR g q { q with s:=q.s.wrote } r true w) w C O (λz i ⟨x,_,e,_⟩=>⟨x,e⟩) (.inl ⟨rfl,by rw[aa];exact f.bk.busyW.1 o⟩) ((f.sh.beginW o oM).mono ?_)).mono λe w' ⟨a,b⟩=>⟨a,h.born (q':={ q with s:=q.s.wrote }) P W Q R M S L f ⟨rfl,rfl,rfl,rfl⟩ ⟨rfl,rfl,rfl,Nat.le_succ _⟩ (f.bk.born_write o X) (λ_ _ _=>rfl) (λe=>by cases e) b⟩;rintro e w' ⟨x,t,rfl,p,u,y,F,G,H,I,J,K⟩;exact⟨_,_,rfl,rfl,⟨x,t,rfl,p,u,y,F,G,H,J,K⟩,I.mono (λk n _=>by simp at n;simp[n])⟩
  .refine (zX4 g.B g.A g.n g.C (.slice none 0 0) cA g.wr g.k q.Db base (qF3 g) (qH2 g.ys) A r.cont.length B true (some 4) rfl [q.St] (λz i=>z=none/\Ϙ i q.St (ν 0 q.s)) w C V (λz i h=>h.1) (.inl ⟨rfl,by rw[aa];exact Nat.pos_of_ne_zero (λe=>o (f.bk.busyW.2 e))⟩) ((xY8 q.Db q.St q.s w f.sh.hDb f.sh.hSt f.sh.po f.sh.neDb.1 o).mono ?_)).mono λe w' ⟨a,i,b,c,d⟩=>⟨a,Z i w' b.2 c d⟩;rintro e w' ⟨v,rfl,p,u,y⟩;exact⟨none,v,rfl,p,⟨rfl,u⟩,y⟩
 | false=>
  have ac:=World.ownsMap.tidy f.sh.hM qM3;by_cases o:Maps.size q.D<4
  .refine (zX5 g.B g.A g.n g.C (.slice none 0 0) cA g.wr g.k q.Db base (qF3 g) (qH2 g.ys) A r.cont.length B false none rfl [q.St,q.s.M] (BgR g q { q with s:=q.s.read,nM:=q.nM+1,D:=q.D.put (ι (q.s.bg+1)) (qG2 ⟨⟨#[]⟩,q.s.rb,q.s.rs,none⟩) } r false w) w C O (λz i ⟨x,_,e,_⟩=>⟨x,e⟩) (.inr ⟨rfl,by rw[Y,<-ab];exact o⟩) ((f.sh.beginR o oM oM).mono ?_)).mono λe w' ⟨a,b⟩=>⟨a,h.born (q':={ q with s:=q.s.read,nM:=q.nM+1,D:=q.D.put (ι (q.s.bg+1)) (qG2 ⟨⟨#[]⟩,q.s.rb,q.s.rs,none⟩) }) P W Q R M S L f ⟨rfl,rfl,rfl,rfl⟩ ⟨rfl,rfl,rfl,lR⟩ (f.bk.born_read ac X o) (λm hm zd=>Maps.atKey_put_other (λe=>by have:=Gw.zG3 e;omega) _ zd) (λ_ zd=>Maps.atKey_put_same ac.isMap (Gw.xG1 _) _ zd) b⟩;rintro e w' ⟨x,t,D',rfl,p,u,y,F,G,H,I,rfl,J,K⟩;exact⟨_,_,rfl,rfl,⟨x,t,rfl,p,u,y,F,G,H,J,K⟩,I⟩
  .have U:Maps.size q.D=4:=oM
   refine (zX4 g.B g.A g.n g.C (.slice none 0 0) cA g.wr g.k q.Db base (qF3 g) (qH2 g.ys) A r.cont.length B false (some 4) rfl [q.St] (λz i=>z=none/\Ϙ i q.St (ν 0 q.s)) w C V (λz i h=>h.1) (.inr ⟨rfl,by rw[Y,<-ab];exact U⟩) ((xY7 q.Db q.St q.nM q.s q.D w f.sh.hDb f.sh.hSt f.sh.hM f.sh.po f.sh.neDb.1 (qD3 f.sh.hSt f.sh.hM).symm U).mono ?_)).mono λe w' ⟨a,i,b,c,d⟩=>⟨a,Z i w' b.2 c d⟩;rintro e w' ⟨v,rfl,p,u,y⟩;exact⟨none,v,rfl,p,⟨rfl,u⟩,y⟩
end
end Go.Proofs.YtdohpenfkdckiaaGreatDoor.Gs
namespace Go.Proofs.YtdohpenfkdckiaaGreatDoor.Gs
open Go.Proofs.Tryz
open Go.RowKit
open Go.ChangeMaps
open Gw (TK Books qN4 qO3 Muts MutC DInv qS0 DStep WOk I64 qJ7 zI5)
theorem DOk.hit{base:Nat}{T:Int}{w w'}{g:TG}(h:DOk base T w g)(x:26000<=T)(y:base<=w.heap.size)(hK:Kp [g.B] w w'){A' b:Nat}{l'}{q':Option Root}{may'}{mays':List (List KV)}{em wl bt:Bool}(v:w.heap.size<=A')(j:b=g.C\/w.heap.size<=b)(l:Dvx A' g.n b l' 0 w')(o:g.n*128<=l'.length)(f:w'.heap[g.B]?=some (kob { g.k.shut with A:=A',may:=may',emp:=em,wild:=wl,bit:=bt }))(s:8<=g.n->g.n<=400->∃ N,Lies g.n l' N q')(a:RowC w' base may' mays')(p:(mays'.length:Int)<=60000*(T+2))(q:∀ m∈mays',(m.length:Int)<=T+2)(u:∀ r,q'=some r->(r.cont.length:Int)<=T+2)(n:Kn wl em bt g.n l' q' mays' g.weres):
  DOk base (T+2) w' (TG.bare g.B b { g.k.shut with A:=A',may:=may',emp:=em,wild:=wl,bit:=bt } l' 0 q' mays' g.weres g.hs):=by
 have k:∀ i c t d,w.heap[i]?=some (.cells c t d)->i∈[g.B]->t≠126/\t≠284:=λi c t d e hi=>by
  rw[mS hi,h.hB] at e;cases e;decide
 have B:=h.wlen;have z:=h.com1;refine⟨h.bB,by show base<=A';omega,?_,f,h.n1,rfl,l,o,s,iR _,by show (0:Int)<=15002*(T+2-26000);omega,a,h.were.kp hK k,p,by show ((g.weres.length:Nat):Int)<=T+2;omega,λm a=>?_,u,n,h.com0,by show g.k.com<=T+2;omega⟩
 .show base<=b;have:=h.bC;rcases j with e|e
  .rw[e];exact this
  .omega
 .rcases mA a with a|a
  .exact q m a
  .have:=h.mms m (List.mem_append_right _ a);omega
theorem jY7(base l:Nat)(T:Int)(n:List qF4.G)(k x y a b:Int)(s t)(w)(h:WOk qF4 base T w l n)(hT:T<=60000)(hx:I64 x)(ha:I64 a)(hb:I64 b)(hd:1<=n.length)(hk:k=8\/k=9):
  Calls prog 124 #[.pointer (some ⟨l,0,none⟩),.agg #[.int .i64 k,.int .i64 x,.int .i64 y,.int .i64 a,.int .i64 b,.string s,.string t]] w λe w'=>e=.returned (.bool true)/\(∃ ds',WOk qF4 base (T+2) w' l ds')/\Below base w w':=by
 have h':=h;obtain⟨X,nk,U,xs,pd,R,h1,h2,h3,h4⟩:=h.hW;obtain⟨F,cur,rfl,ca,a4,bg⟩:=zI2 h4 hd;have HH:=hid h';have b9:=ζ h1;have cb:=ζ a4;have hl:=h.len;have bf:=h.hbs;have cc:¬((n.length:Int)=0):=oM
 have e1:¬k<5:=oM
 have e2:¬9<k:=oM
 have e5:¬k=5:=oM
 have e6:¬k=6:=oM
 have e7:¬k=7:=oM
 have bo:=hid hk;have k1:=ξ h1 1;simp only[qD6,zG,zH,zI] at k1;clear h h' h2 h3 h4 hk;go_enter func124,ntmps124;go_wp2_with fail;obtain⟨f,be,V,ar,bd,aq⟩:∃ f,f=w.alloc (.cells #[ϊ k,ϊ x,ϊ y,ϊ a,ϊ b,.string s,.string t] 66)/\f.heap[w.heap.size]?=some (.cells #[ϊ k,ϊ x,ϊ y,ϊ a,ϊ b,.string s,.string t] 66)/\f.heap[l]?=some (qD6 X nk U (some ⟨F,0,none⟩) n.length R)/\f.heap[F]?=some (.cells cur 119)/\Kp [] w f:=⟨_,rfl,υ _ _,ρ _ h1,ρ _ a4,kF.alloc _⟩;rw[<-be];clear be h1 a4 k1;have u:f.drew.heap[l]?=some (qD6 X nk U (some ⟨F,0,none⟩) n.length R)/\f.drew.heap[w.heap.size]?=some (.cells #[ϊ k,ϊ x,ϊ y,ϊ a,ϊ b,.string s,.string t] 66)/\f.drew.heap[F]?=some (.cells cur 119):=⟨ar,V,bd⟩;refine wp_region_held_drew (S:=λW=>W.heap[l]?=some (qD6 X nk U (some ⟨F,0,none⟩) n.length R)/\W.heap[w.heap.size]?=some (.cells #[ϊ k,ϊ x,ϊ y,ϊ a,ϊ b,.string s,.string t] 66)/\W.heap[F]?=some (.cells cur 119)) kR u (λ_=>?_);refine zP 0 l 0 u ?_;refine zP 1 l 0 u ?_;refine zP 2 l 1 u ?_;refine zV 3 (.slice (some ⟨F,0,none⟩) n.length R) rfl (λW p=>by have c:=ξ p.1 1;simp[qD6] at c;clear p;go_simp) u ?_;refine zP 4 w.heap.size 1 u ?_;refine zV 5 (ϊ x) rfl (λW p=>by have c:=ξ p.2.1 1;simp at c;clear p;go_simp) u ?_;refine zP 6 l 0 u ?_;refine zP 7 l 0 u ?_;refine zP 8 l 1 u ?_;refine zV 9 (.slice (some ⟨F,0,none⟩) n.length R) rfl (λW p=>by have c:=ξ p.1 1;simp[qD6] at c;clear p;go_simp) u ?_;refine zU 10 (ϊ n.length) u ?_;refine zq 11 λK hK=>?_;go_simp;refine (zB1 x n.length _ hx.1 hx.2 oM oM).mono ?_;rintro e w2 ⟨j,rfl,hj,rfl⟩;refine zk hK u ?_
 refine zU 12 (.pointer (some ⟨F,j,none⟩)) u ?_;refine zV 13 (ϖ (qF4.B n[j])) rfl (λW p=>by have c:=ξ p.2.2 j;rw[zI5 bg j hj] at c;clear p;go_simp) u ?_;refine zU 14 (ϖ (qF4.B n[j])) u ?_;refine zd ?_;have E:=hid (show TOk base T w n[j] from HH.all n[j] (gM hj));have ax:=hid (show ∀ w',DStep qF4 base (T+2) w w' n[j]->(∃ ds',WOk qF4 base (T+2) w' l ds')/\Below base w w' from λw' hs=>⟨HH.one j hj hs oM,hs.below E HH.hbs⟩);have ah:=hid HH.t0;obtain⟨g,bh⟩:∃ g:TG,n[j]=g:=⟨_,rfl⟩;have bb:qF4.B g=g.B:=rfl;rw[bh] at E ax |-;rw[bb];clear bh bb;have hB:=E.out.d.hB;have a9:=hid ((E.d.dev.kp aq sM sM).kp ((Kp.refl [] _).drew) sM sM);have ai:=aq.hp hB;have an:=hid (show f.drew.heap[g.B]?=some (kob g.k) from ai);have ao:=hid (show Kp [] w f.drew from aq.drew);have bq:=hid (show f.drew.heap[l]?=some (qD6 X nk U (some ⟨F,0,none⟩) n.length R) from ar);have bp:=hid (show f.drew.heap[w.heap.size]?=some (.cells #[ϊ k,ϊ x,ϊ y,ϊ a,ϊ b,.string s,.string t] 66) from V);have a8:=hid (show g.B≠l/\g.B≠w.heap.size from⟨qA1 ai ar dC,qA1 ai V dC⟩);have o0:=ξ V 0;have o3:=ξ V 3;have o4:=ξ V 4;simp only[zG,zH,zI] at o0 o3 o4;have b8:=ζ V;have b7:=ζ ai;have am:=hid (show ∀ i c t O,w.heap[i]?=some (.cells c t O)->i∈[g.B]->t≠126/\t≠284 from λi c t O e hi=>by rw[mS hi,hB] at e;cases e;decide);clear u bg bd hB ai aq ar V hj;go_wp2_with fail;refine (zH6 a _ ha.1 ha.2).mono ?_;rintro e w2 ⟨ja,rfl,rfl⟩;go_wp2_with fail;refine (zH6 b _ hb.1 hb.2).mono ?_;rintro e w2 ⟨jb,rfl,rfl⟩;rcases bo with rfl|rfl
 .clear o3 o4;go_wp2_with fail;have d:f.drew.drew.heap[l]?=some (qD6 X nk U (some ⟨F,0,none⟩) n.length R):=bq.out;refine wp_region_held_drew (S:=λW=>W.heap[l]?=some (qD6 X nk U (some ⟨F,0,none⟩) n.length R)) kR d (λ_=>?_);refine zP 0 g.B 0 d ?_;refine zP 1 g.B 0 d ?_;refine zP 2 g.B 0 d ?_;refine zP 3 g.B 0 d ?_;refine zP 5 l 0 d ?_;refine zP 6 l 0 d ?_;refine zP 7 l 0 d ?_;refine zV 8 (.slice X nk U) rfl (λW p=>by have c:=ξ p 0;simp[qD6] at c;clear p;go_simp) d ?_;refine zq 4 λK hK=>?_;have H:=ξ (w:=f.drew.drew) an 0;simp only[kob,zG,zH] at H;go_simp;refine hK.out _ _ d (λ_=>?_);clear hK K H
  try simp only[zZ]
  refine zq 9 λK hK=>?_;go_simp;refine (zW1 g.A g.n g.C g.wr g.l X nk U f.drew.drew (a9.kp ((Kp.refl [] _).drew) sM sM) (by have:=E.out.d.n1;omega) E.d.len).mono ?_;rintro e w3 ⟨A',Y,l',rfl,c1,c2,c3,M,ac,c6,P⟩;have av:w.heap.size<=f.drew.drew.heap.size:=ao.out.size;have v:=E.out.d;have C:=P.heap (k:=g.B) an sM;have I:=P.hp d;refine zk hK I ?_
  refine zP 10 g.B 0 I ?_;refine zP 11 g.B 0 I ?_;refine zq 12 λK hK=>?_;have H:=ξ C 0;have f0:=ψ C 0;have a1:=ζ C;simp only[kob,zG,zH] at H;go_simp;obtain⟨z,al,B,Z⟩:∃ z,z=w3.setCell ⟨g.B,0,none⟩ (ϖ A')/\z.heap[g.B]?=some (kob { g.k with A:=A' })/\Kp [g.B] w3 z:=⟨_,rfl,μ C 0 _,kF.sc _⟩;rw[<-al];refine hK.out _ _ (Z.heap I (by simpa using a8.1.symm)) (λ_=>?_);clear hK K al H f0;refine zd ?_
  try simp only[zZ]
  have ae:=hid C;have af:=hid B;have ag:=hid Z;have ay:=hid (show Kp [] w w3 from (ao.drew).tr P);clear C I d B Z P a1;have ab:=hid (show ∀ o,o.heap[g.B]?=some (kob ({ g.k with A:=A' }:KF).shut)->Kp [g.B] z o->DStep qF4 base (T+2) w o g from λo G D=>by
   have aa:Kp [g.B] w o:=((ay.mono sM).tr ag).tr D;have a3:=ag.out.tr D;obtain⟨c5,_,_,a0,_⟩:=M.hA;have a6:=M.kp a3 (by simpa using qA1 a0 ae dC) (by simpa using qA1 M.hC ae dC);have bi:=v.mlen;have ak:Y=g.C\/w.heap.size<=Y:=c2.imp id λh=>by omega
   have a5:=v.hit (may':=g.k.may) (em:=g.k.emp) (wl:=g.k.wild) (bt:=g.k.bit) (mays':=g.mays) ah bf aa (A':=A') oM ak a6 ac G (λa b=>(v.lies a b).imp λN h=>h.move oM c6) (v.may.kp aa am) oM (λm hm=>by have:=v.mms m (List.mem_append_left _ hm);omega) (λr e=>by have:=v.qlen r e;omega) (v.kn.move c6);exact E.anew (g':=TG.bare g.B Y { g.k.shut with A:=A',may:=g.k.may,emp:=g.k.emp,wild:=g.k.wild,bit:=g.k.bit } l' 0 g.q g.mays g.weres g.hs) ah (aa.mono sM) ⟨rfl,.inr (lT av c1),ak,rfl,rfl⟩ ⟨rfl,rfl,rfl⟩ (λk hk=>by cases hk) a5 (.inl ⟨rfl,rfl⟩))
  clear c2 c3 M ac c6;go_wp2_with fail;refine (zE3 g.B _ z af).mono ?_;rintro e o ⟨rfl,G,D⟩;have HE:=hid (ax o (ab o G D));clear G D ab;go_wp2;go_ret;exact⟨rfl,HE⟩
 .clear o4;go_wp2_with fail;have d:f.drew.drew.heap[w.heap.size]?=some (.cells #[ϊ 9,ϊ x,ϊ y,ϊ a,ϊ b,.string s,.string t] 66):=bp.out;refine wp_region_held_drew (S:=λW=>W.heap[w.heap.size]?=some (.cells #[ϊ 9,ϊ x,ϊ y,ϊ a,ϊ b,.string s,.string t] 66)) kR d (λ_=>?_);refine zP 0 g.B 0 d ?_;refine zP 1 g.B 0 d ?_;refine zP 2 g.B 0 d ?_;refine zP 3 g.B 0 d ?_;refine zP 5 w.heap.size 3 d ?_;refine zV 6 (ϊ a) rfl (λW p=>by have c:=ξ p 3;simp at c;clear p;go_simp) d ?_;refine zq 4 λK hK=>?_;have H:=ξ (w:=f.drew.drew) an 0;simp only[kob,zG,zH] at H;go_simp;refine hK.out _ _ d (λ_=>?_);clear hK K H
  try simp only[zZ]
  refine zq 7 λK hK=>?_;go_simp;refine (kO0 g.A g.n g.C g.wr a g.l f.drew.drew (a9.kp ((Kp.refl [] _).drew) sM sM) (by have:=E.out.d.n1;omega) E.d.len ha.1 ha.2).mono ?_;rintro e w3 ⟨A',Y,l',rfl,c1,c2,M,ac,c6,P⟩;have av:w.heap.size<=f.drew.drew.heap.size:=ao.out.size;have v:=E.out.d;have C:=P.heap (k:=g.B) an sM;have I:=P.hp d;refine zk hK I ?_
  refine zP 8 g.B 0 I ?_;refine zP 9 g.B 0 I ?_;refine zq 10 λK hK=>?_;have H:=ξ C 0;have f0:=ψ C 0;have a1:=ζ C;simp only[kob,zG,zH] at H;go_simp;obtain⟨z,al,B,Z⟩:∃ z,z=w3.setCell ⟨g.B,0,none⟩ (ϖ A')/\z.heap[g.B]?=some (kob { g.k with A:=A' })/\Kp [g.B] w3 z:=⟨_,rfl,μ C 0 _,kF.sc _⟩;rw[<-al];refine hK.out _ _ (Z.heap I (by simpa using a8.2.symm)) (λ_=>?_);clear hK K al H f0;refine zd ?_
  try simp only[zZ]
  have ae:=hid C;have af:=hid B;have ag:=hid Z;have ay:=hid (show Kp [] w w3 from (ao.drew).tr P);clear C I d B Z P a1;obtain⟨xk,f2,f3⟩:=v.were;obtain⟨pw,cw,f1⟩:=f2.form;rw[f1] at f2;obtain⟨xm,f5,f6⟩:=v.may;obtain⟨pm,cm,f4⟩:=f5.form;rw[f4] at f5;have bx:=v.wlen;have bi:=v.mlen;have aj:Kp [g.B] w z:=(ay.mono sM).tr ag.out;have az:=hid (kK6 base g.mays.length cm g.weres.length cw pm pw g.k.n g.k.emp g.k.wild g.k.bit z (f5.kp aj λi c t O e hi=>(am i c t O e hi).1) (f2.kp aj λi c t O e hi=>(am i c t O e hi).1) oM oM);have ab:=hid (show ∀ o Q L J,RowM o z.heap.size (.slice L (g.mays.length+g.weres.length) J) (g.mays.length+g.weres.length) (xm++xk)->Kp [] z o->Q.heap[g.B]?=some (kob ({ g.k with A:=A',may:=.slice L (g.mays.length+g.weres.length) J,emp:=true,wild:=g.k.wild || g.k.bit,bit:=true }:KF).shut)->Kp [g.B] o Q->DStep qF4 base (T+2) w Q g from λo Q L J au D ap ad=>by
   have aa:=(aj.tr D).tr ad;have a3:=(ag.tr D).tr ad;obtain⟨c5,_,_,a0,_⟩:=M.hA;have a6:=M.kp a3 (by simpa using qA1 a0 ae dC) (by simpa using qA1 M.hC ae dC);have ak:Y=g.C\/w.heap.size<=Y:=c2.imp id λh=>by omega
   obtain⟨q',bj,bu,bv⟩:=xJ7 g.n l';have ce:=aj.size;have bk:∀ {x:Value} {m:List KV},SPR w x m->SPR Q x m:=λh=>h.keep aa λq hq c t O e hm=>(am q c t O e hq).2 (mS hm);have G:=D.hp af.out;have bw:RowC Q base (.slice L (g.mays.length+g.weres.length) J) (g.mays++g.weres):=⟨xm++xk,by rw[lA];exact (au.le oM).kp ad (λi c t O e hi=>by rw[mS hi,G] at e;cases e;decide),Both.app (f6.mono λ_ _=>bk) (f3.mono λ_ _=>bk)⟩;have a5:=v.hit ah bf aa (A':=A') oM ak a6 ac ap bj bw (by rw[lA];omega) (λm hm=>by have:=v.mms m hm;omega) (λr e=>by have:=bu r e;have:=ah.out;omega) (v.kn.turn v.len ac c6 bj bv);exact E.anew (g':=TG.bare g.B Y { g.k.shut with A:=A',may:=.slice L (g.mays.length+g.weres.length) J,emp:=true,wild:=g.k.wild || g.k.bit,bit:=true } l' 0 q' (g.mays++g.weres) g.weres g.hs) ah (aa.mono sM) ⟨rfl,.inr (lT av c1),ak,rfl,rfl⟩ ⟨rfl,rfl,rfl⟩ (λk hk=>by cases hk) a5 (.inl ⟨rfl,rfl⟩))
  have B:=af.out;have bs:=ζ B;have b1:=ξ B 1;have b2:=ξ B 2;have b3:=ξ B 3;have b4:=ξ B 4;have b5:=ξ B 5;have b6:=ξ B 6;simp only[kob,zG,zH,zI] at b1 b2 b3 b4 b5 b6;rw[f4] at b2;rw[f1] at b4;obtain⟨mm,a7⟩:=eX g.mays.length;obtain⟨ww,aw⟩:=eX g.weres.length;rw[<-a7,<-aw] at az ab;rw[<-a7] at b2;rw[<-aw] at b4;have bn:=hid (show g.k.were=.slice pw ww cw from by rw[aw];exact f1);clear c1 c2 M ac c6 f1 f2 f3 f4 f5 f6 aj B a7 aw bx bi v av;go_wp2_with fail;refine (show Calls _ _ _ _ _ from az).mono ?_;rintro e o ⟨L,J,rfl,au,D⟩;have G:=D.hp af.out;have bz:=ζ G;clear b1 b2 b3 b4 b5 b6 bs;have b1:=ξ G;simp only[kob,zG,zH,zI] at b1;have br:=ψ G;have bm:=hid G;have ba:=hid (And.intro au D);clear G au D az;go_wp2_with fail;obtain⟨w6,bl,a2,bc⟩:∃ w6,w6=(((((o.setCell ⟨g.B,1,none⟩ (ϊ g.k.n)).setCell ⟨g.B,2,none⟩ (.slice L (mm+ww) J)).setCell ⟨g.B,3,none⟩ (.bool true)).setCell ⟨g.B,4,none⟩ (.slice pw ww cw)).setCell ⟨g.B,5,none⟩ (.bool (g.k.wild || g.k.bit))).setCell ⟨g.B,6,none⟩ (.bool true)/\w6.heap[g.B]?=some (.cells #[ϖ A',ϊ g.k.n,.slice L (mm+ww) J,.bool true,.slice pw ww cw,.bool (g.k.wild || g.k.bit),.bool true,.pointer g.k.x,g.k.c,ϊ g.k.com,.bool g.k.po,g.k.ts,g.k.li,g.k.wa] 130)/\Kp [g.B] o w6:=
   ⟨_,rfl,μ (μ (μ (μ (μ (μ bm 1 _) 2 _) 3 _) 4 _) 5 _) 6 _,((((((Kp.refl [g.B] o).sc _).sc _).sc _).sc _).sc _).sc _⟩
  rw[<-bl];rw[<-bn.out] at a2;clear bl b1 br;refine (zE3 g.B { g.k with A:=A',may:=.slice L (mm+ww) J,emp:=true,wild:=g.k.wild || g.k.bit,bit:=true } w6 a2).mono ?_;rintro e Q ⟨rfl,ap,ad⟩;have HE:=hid (ax Q (ab o Q L J ba.1 ba.2 ap (bc.tr ad)));clear ap ad ab a2 bc;go_wp2;go_ret;exact⟨rfl,HE⟩
end Go.Proofs.YtdohpenfkdckiaaGreatDoor.Gs
namespace Go.Proofs.YtdohpenfkdckiaaGreatDoor.Gs
open Go.Proofs.Tryz
open Go.RowKit
open Go.ChangeMaps
open Gw (TK Books qN4 qO3 Muts MutC DInv qS0 DStep)
theorem jD6{base i:Nat}{T:Int}{w}{q:SG}{y:YG}{g:TG}{r}(h:At base T w g q r i y):CSt base T w g 135 #[.pointer (some ⟨g.B,0,none⟩),.pointer (some ⟨y.tb,0,none⟩),.bool true]:=by
 by_cases a:y.t.over=false/\y.t.wrt=true
 .exact jD8 h a.1 a.2
 .exact qV6 h true λ_ b=>by simpa [b] using a
def qS5:List Int:=[4,5,8,9,10,11,12,13,14,15,16,17,18]
theorem jW9(base:Nat)(T:Int)(w)(g:TG)(q:SG)(r)(i:Nat)(y:YG)(h:At base T w g q r i y)(o:SOp)(l:o.k=13\/o.k=14\/o.k=15\/o.k=16\/o.k=17\/o.k=18)(j:Gw.SFits o):
  Calls prog 83 #[.pointer (some ⟨g.B,0,none⟩),.pointer (some ⟨y.tb,0,none⟩),.agg #[.int .i64 o.k,.int .i64 o.x,.int .i64 o.y,.int .i64 o.a,.int .i64 o.b,.string o.s,.string o.t]] w λe v=>e=.returned (.bool true)/\DStep qF4 base (T+2) w v g:=by
 obtain⟨k,t,u,n,s,os,f⟩:=o;have p:=zh j;have c:Hid (At base T (w.alloc (.cells #[ϊ k,ϊ t,ϊ u,ϊ n,ϊ s,.string os,.string f] 66)) g q r i y):=h.same (kF.alloc _);simp only at l;clear j;rcases l with rfl|rfl|rfl|rfl|rfl|rfl
 .go_enter func83,ntmps83;go_wp2_with fail;refine (show Calls _ _ _ _ _ from kC0 c os f).mono ?_;rintro e d ⟨rfl,a⟩;have b:=zh (DStep.from (kF.alloc _) a h.ok.muts);clear a;go_wp2;go_ret;exact⟨rfl,b⟩
 .go_enter func83,ntmps83;go_wp2_with fail;refine (show Calls _ _ _ _ _ from jF5 c os f).mono ?_;rintro e d ⟨rfl,a⟩;have b:=zh (DStep.from (kF.alloc _) a h.ok.muts);clear a;go_wp2;go_ret;exact⟨rfl,b⟩
 .go_enter func83,ntmps83;go_wp2_with fail;refine (show Calls _ _ _ _ _ from qZ5 c os).mono ?_;rintro e d ⟨rfl,a⟩;have b:=zh (DStep.from (kF.alloc _) a h.ok.muts);clear a;go_wp2;go_ret;exact⟨rfl,b⟩
 .have m:=p.out.a;simp only at m;go_enter func83,ntmps83;go_wp2_with fail;refine (show Calls _ _ _ _ _ from kE6 c os f n m).mono ?_;rintro e d ⟨rfl,a⟩;have b:=zh (DStep.from (kF.alloc _) a h.ok.muts);clear a;go_wp2;go_ret;exact⟨rfl,b⟩
 .go_enter func83,ntmps83;go_wp2_with fail;refine (show Calls _ _ _ _ _ from jD6 c).mono ?_;rintro e d ⟨rfl,a⟩;have b:=zh (DStep.from (kF.alloc _) a h.ok.muts);clear a;go_wp2;go_ret;exact⟨rfl,b⟩
 .go_enter func83,ntmps83;go_wp2_with fail;refine (show Calls _ _ _ _ _ from qV6 c false (λe=>by cases e)).mono ?_;rintro e d ⟨rfl,a⟩;have b:=zh (DStep.from (kF.alloc _) a h.ok.muts);clear a;go_wp2;go_ret;exact⟨rfl,b⟩
theorem kJ7:Gw.DOps qF4 qS5 where
 fmt:=λbase T w g h b a c d f=>jK3 h b a c d f
 opn:=λbase T w g h b a c d f=>jY0 h b a c d f
 beg:=λbase T w g h b a c d f i z=>xY4 h b a c d f i z
 txn:=λbase T w g h b a c d f i j u o A x t=>by
  obtain⟨q,r,k,l,p,m,n,s⟩:=TOk.store h i;have v:j<g.ys.length:=by simpa [qF4,qF3] using u
  have y:o.k=13\/o.k=14\/o.k=15\/o.k=16\/o.k=17\/o.k=18:=by
   simp only[qS5,mC,lN,or_false] at x;omega
  have:=jW9 base T w g q r j g.ys[j] ⟨h,b,a,c,d,f,k,l,p,m,n,s,v,rfl⟩ o y t;have e:(qF4.tbs g)[j]=g.ys[j].tb:=by simp[qF4,qF3]
  rw[e];exact this
 looks:=λbase T w g h b a=>look_ok h b a
theorem kJ8:Gw.zL1 qF4 qS5:=Gw.kL2 qF4 qS5 (λk n=>by
 simp only[qS5,mC,lN,or_false] at n;by_cases e:k=4
 .exact .inl e
 by_cases f:k=5
 .subst f;exact .inr (.inl ⟨oM,oM,Gw.jE4 qF4⟩)
 by_cases g:k=8\/k=9
 .exact .inr (.inl ⟨oM,oM,λbase c T d x y a b s t w h i o j l m=>jY7 base c T d k x y a b s t w h i o j l m g⟩)
 exact .inr (.inr oM)) kJ7
theorem kK3(p)(n cap:Nat)(f:Nat->SOp)(w)(g:Script w p n f)(h:∀ i,i<n->Gw.SFits (f i))(c:0<w.heap.size)(j:w.cell? ⟨0,0,none⟩=some qF5):
  Calls prog 9 #[.slice p n cap] w λe k=>e=.returned (.bool true)/\Kp [] w k:=by
 have b:Kp [] w (w.alloc (.cells (qS5.map (.int .i64)).toArray 3)):=kF.alloc _;go_enter func9,ntmps9;go_wp2_with fail;refine (Gw.kB3 qS5 13 dC rfl (λp n cap f w=>Gw.kO7 qF4 qS5 kJ8 p n cap f w) p n cap f _ (g.keep b) h sM ((b.cell (a:=⟨0,0,none⟩) c sM).trans j) w.heap.size (υ _ _)).mono ?_;rintro e l ⟨rfl,d⟩;go_wp2;go_ret;exact⟨rfl,b.tr d⟩
end Go.Proofs.YtdohpenfkdckiaaGreatDoor.Gs
namespace Go.Proofs.YtdohpenfkdckiaaGreatDoor.Gw
open Go.Proofs.Tryz
open Go Go.ChangeShapes Go.WideShapes Go.RowKit Go.Deep
theorem kK2(os:Os)(M:os.Started)(H:Type)(enc:TypeId × Value->H):
  ReturnsInHanded {} checked os 9 .any (λw args=>(Rows.spoilsSpec.pre enc prog f9 [] false w args/\laidMetH prog Rows.spoilsRow.laid w)/\sizedMet enc prog f9 (OpenSpec.ofChange Rows.spoilsSpec) false w args)
   (Rows.spoilsSpec.post enc prog f9 false true false false):=by
 refine returnsInHanded_of_change_and (C:=checked) (X:=λw _=>laidMetH prog Rows.spoilsRow.laid w) (λ_ _ _ hh h=>h.of_heap hh) kD1 M kR func9 (kK5 os H enc) ?_;intro W base args y R P s n _ _ B _;have r:∀ (j:Nat) t v,f9.params[j]?=some t->args[j]?=some v->Value.okWide prog W .any base t v:=s;have c:=n;obtain⟨p,q,m,E,rfl,_,_⟩:=n;have l:DataW.TrodAll enc prog W 0 (λ_=>true) true f9.params.toList args.toList y p:=m;rw[params9] at l r;obtain⟨N,i,rfl,rfl,k⟩:=trodAll_one l;obtain⟨rfl,rfl⟩:=trodVars_none E;have z:=k;obtain⟨fuel,I⟩:=k;clear m s;simp only[aN] at c;have K:=λx L=>by simpa using c.lt x L
 obtain⟨g,u,cap,rfl⟩:=okWide_slice underlying22 (r 0 22 N rfl rfl);have d:=kK1 B;have A:0<W.heap.size:=by
  unfold World.cell? at d
  cases a:W.heap[0]? with
  | none=>simp[a] at d
  | some o=>exact ζ a
 obtain⟨T,S,Q,f,F,D,J⟩:=jX7 (c0:=.slice g u cap) (by simpa [Value.cells] using I);cases F;have b:Rows.spoilsSpec.fn H ([i]++[])={ results:=[.lit (.bool true)],args:=[i] }:=by simp[Rows.spoilsSpec]
 refine (Gs.kK3 g u cap f W D J A d).mono λe O ⟨G,hK⟩=>?_;subst G;have a:=hK.below lR sM;refine⟨_,rfl,_,_,_,[],p,[],c,?_,?_,?_,a.frame _,λh=>by cases h⟩
 .rw[b];exact trodAll_mk1 (shut_bool underlying4 true)
 .rw[b];exact trodAll_mk1 (Below.trod xG6 kR (of_decide_eq_true kR) z a K)
 .rw[b];rfl
end Go.Proofs.YtdohpenfkdckiaaGreatDoor.Gw
