import Derived.Test.YtdohpenfkdckiaaGreatDoorJ04
import Derived.Shelf.Strconv.Itoa3
import Derived.Lib.ItoaLen
import Derived.RangeFuncNested
import Derived.RangeFuncBound
import Derived.RangeFuncCalls
import Derived.RangeFuncLeaves
import Derived.RangeFuncGives
import Derived.Sort.MapsRangeIn
import Derived.Shelf.Abstract
import Derived.Shelf.RegionOpen
import Derived.OwnWalkIn
import Derived.TacticsInMore
import Derived.LoopNIn
import Derived.LoopIn
import Derived.Sort.LoopGhostIn
set_option linter.all false
set_option maxRecDepth 100000
set_option maxHeartbeats 0
namespace Go.Proofs.YtdohpenfkdckiaaGreatDoor
open Go.Proofs.Tryz Go.RowKit
structure SOp where
 k:Int
 x:Int
 y:Int
 a:Int
 b:Int
 s:Ϧ
 t:Ϧ
def SOp.cells(o:SOp):List Value:=[.int .i64 o.k,.int .i64 o.x,.int .i64 o.y,.int .i64 o.a,.int .i64 o.b,.string o.s,.string o.t]
def Script(w:Ϣ)(p:Ϭ)(n:Nat)(f:Nat->SOp):Prop:=
 0<n->∃a b,p=some (ϰ a b)/\a<w.heap.size/\∀i,i<n->∀c,c<7->w.cell? (ϰ a (b+i*7+c))=(f i).cells[c]?
def Script.qM3{w w'}{p}{n:Nat}{f:Nat->SOp}(h:Script w p n f)(hK:Kp [] w w'):Script w' p n f:=λm=>by
 let⟨b,e,g,d,j⟩:=h m;exact⟨b,e,g,Nat.lt_of_lt_of_le d hK.size,λi l c k=>(hK.cell (a:=(ϰ b (e+i*7+c))) d sM).trans (j i l c k)⟩
def Rg(n:Nat)(w:Ϣ)(e:Ending)(w':Ϣ):Prop:=∃r:Bool,e=ϱ (ϐ r)/\(r=true->n<=16384)/\∃m,w'=w.drewN m
def qE5(p)(n cap:Nat)(f:Nat->SOp)(w)(g:Script w p n f):
  Ω 16 #[.slice p n cap] w λe w'=>Rg n w e w':=by
 by_cases k:16384<n
 .have:(16384:Int)<(n:Int):=oM
  go_enter func16,ntmps16;go_wp2;go_ret;exact⟨false,rfl,sM,0,rfl⟩
 .have:¬(16384:Int)<(n:Int):=oM
  go_enter func16,ntmps16;go_wp2
  go_loopw [3,4] (λs i wr=>∃(j:Nat)(t:Int),j<=n/\i=.int .i64 j/\s=.int .i64 t/\∃m,wr=w.drewN m) (λ_ i _=>n-(intOf i).toNat)
  case atStart=>exact⟨0,n,zL _,rfl,rfl,0,rfl⟩
  case round=>
   obtain⟨j,t,o,rfl,rfl,m,rfl⟩:=hrel;by_cases b:j<n
   .obtain⟨h,q,rfl,l,a⟩:=g oM;have c:=a j b 5 dC;have d:=a j b 6 dC;simp[SOp.cells,zH,zI]at c d;have:(j:Int)<(n:Int):=oM
    clear a;go_wp2_with fail
    go_quiet (fail)
    go_wp2
    case roundEnd=>exact⟨⟨j+1,_,oM,by go_num,rfl,_,rfl⟩,iO⟩
    go_ret;exact⟨false,rfl,sM,_,rfl⟩
   .have:¬(j:Int)<(n:Int):=oM
    go_wp2;go_ret;exact⟨true,rfl,oM,m,rfl⟩
structure PutIn(E:SEnv)(w:Ϣ)(Vc Tc Kc x A n:Nat)(t:Tx)(s:Sto)(r:Root)(p:KV):Prop where
 hVc:w.heap[Vc]?=some (ϲ #[ϕ p.v] 9)
 hTc:w.heap[Tc]?=some (ϲ #[ϖ x] 32)
 hKc:w.heap[Kc]?=some (ϲ #[ϕ p.k] 9)
 hx:w.heap[x]?=some (Ac t)
 on:t.on=some (ϰ E.V 0)
 hSt:w.heap[t.St]?=some (η 1 s)
 sV:s.V=E.V
 hV:w.heap[E.V]?=some (CR A n)
 n1:n<=1000
 bl0:0<=s.bl
 bl1:s.bl<=100000
 dev:E.Dev w
 vS:E.V∉E.S
 rr:RR E.toEnv w t.h r
 qM7:RGood r
 sz:r.cont.length<=70000
def ZZ(a d c:Nat)(v)(w)(b:w.heap[a]?=some (ϲ #[ϕ v] 9))(f:12<v.size):
  Ω 72 #[ϖ a,ϖ d,ϖ c] w λe w'=>e=Al (some 2)/\w'=w:=by
 have:(12:Int)<(v.size:Int):=oM
 have:=U b;have:=ϻ b 0;go_enter func72,ntmps72;go_wp2;exact⟨rfl,rfl,rfl,rfl⟩
def Ql{W}{x:Nat}{t}(v0 v1 v2 v3 v4)(h:W.heap[x]?=some (Ac t)):
  (((((W.setCell (ϰ x 4) v0).setCell (ϰ x 5) v1).setCell (ϰ x 6) v2).setCell (ϰ x 7) v3).setCell (ϰ x 8) v4).heap[x]?=some (ϲ #[ϖ t.St,.int .u64 t.nr,ϐ t.wrt,ϐ t.over,v0,v1,v2,v3,v4,.int .u64 t.ch] 99)/\Kp [x] W (((((W.setCell (ϰ x 4) v0).setCell (ϰ x 5) v1).setCell (ϰ x 6) v2).setCell (ϰ x 7) v3).setCell (ϰ x 8) v4):=
 ⟨ξ (ξ (ξ (ξ (ξ h 4 _) 5 _) 6 _) 7 _) 8 _,(((((Kp.refl _ W).sc _).sc _).sc _).sc _).sc _⟩
def ZY(E)(Vc Z Kc x A n:Nat)(t)(s)(r)(p)(w)(l:PutIn E w Vc Z Kc x A n t s r p)(ae:AD p):
  E.toEnv.C 72 #[ϖ Vc,ϖ Z,ϖ Kc] w λe w'=>(((r.put p).news:Int)<=(n:Int)-2-s.bl->e=Al none/\∃L f,E.To w L/\RR E.toEnv w' f (r.put p)/\w'.heap[x]?=some (Ac { t with h:=f })/\Kp [x] L w')/\((n:Int)-2-s.bl<((r.put p).news:Int)->e=Al (some 3)/\E.To w w'):=by
 have Sy:Hid (∀{p:Prop},(_h:p:=by
  refine zU 8 (.agg #[.string p.k,.string p.v]) u ?_;refine zq 9 λK hK=>?_;go_simp;refine Env.call (Ld E.toEnv r t.h p N g.dev (b.rr.to b.dev g) b.qM7 (by have:=b.out.sz;omega) af) g ?_;rintro e w4 ⟨f,rfl,Q,F⟩;have V:=g.trans F;have ab:=j.out _ V;have am:=F.new b.dev y a;clear g u F a ai;have a:=am;refine zk hK ab ?_
  exact Sz.out)->p):=λh=>h
 have Sz:Hid (∀{p:Prop},(_h:p:=by
  have b0:=Y a;have bf:=ρ a;have bn:=U a;simp only[θ];refine zq 11 λK hK=>?_;go_simp;have X:=DE (ϖ E.V) (.string f.key) (ϊ f.b) (.int .u64 f.s) (.pointer f.ptr) a;let⟨G,bb,ad,av⟩:=gE X;rw[<-bb];clear bb X b0 bf;have ac:=V.qN5 y a dC av;have q:=j.out _ ac;have ag:=Q.qO1 av (Apt.one a dC);refine zk hK q ?_
  refine zd ?_;show K0 _ G;exact HREST B f G (hid ⟨ac,ag,ad⟩))->p):=λh=>h
 have b:=zh l;have af:=zh ae;have ba:=l.on;have be:=zh l.vS;have j:Hid (∀W,E.To w W->W.heap[Z]?=some (ϲ #[ϖ x] 32)/\W.heap[x]?=some (Ac t)/\W.heap[Kc]?=some (ϲ #[.string p.k] 9)/\W.heap[Vc]?=some (ϲ #[.string p.v] 9)):=
  λW hT=>⟨E.stay l.dev hT l.hTc dC,E.stay l.dev hT l.hx dC,E.stay l.dev hT l.hKc dC,E.stay l.dev hT l.hVc dC⟩
 have hb:¬(12:Int)<(p.v.size:Int):=by have:=ae.2.2;omega
 have bq:p.k.size<=1000000:=by have:=ae.2.1;omega
 have br:p.v.size<=1000000:=by have:=ae.2.2;omega
 have bp:=U l.hVc;have a7:=l.hVc;have v0:=ϻ a7 0;clear l ae a7;go_enter func72,ntmps72;go_wp2_with fail;rename_i K0 au;clear hb v0;refine shr (α:=Nat->HL->Act) (R:=λA0=>∀B f G,Hid (E.To w G/\RR E.toEnv G f (r.put p)/\G.heap[B]?=some (ϲ (ϟ E.V f) 89))->K0 (A0 B f) G) ?_;apply Exists.intro;apply And.intro
 rotate_left
 .intro HREST;have al:=Env.To.of0 b.dev (Kp.refl _ _);have H:=j.out _ al;refine wp_region_held_drew (S:=λW=>W.heap[Z]?=some (ϲ #[ϖ x] 32)/\W.heap[x]?=some (Ac t)/\W.heap[Kc]?=some (ϲ #[.string p.k] 9)/\W.heap[Vc]?=some (ϲ #[.string p.v] 9)) kR H (λ_=>?_);refine zV 0 (ϖ x) rfl (λW d=>by have c:=Y d.1 0;simp at c;clear d;go_simp) H ?_;refine zP 1 x 0 H ?_;refine zP 2 x 4 H ?_;refine zV 3 (θ E.V t.h) rfl (λW d=>by have a0:=Y d.2.1 4;have a1:=Y d.2.1 5;have a2:=Y d.2.1 6;have a3:=Y d.2.1 7;have a4:=Y d.2.1 8;simp only[Ac,ba,zG,zH,zI]at a0 a1 a2 a3 a4;clear d;rw[θ];go_simp) H ?_;refine zV 4 (.string p.k) rfl (λW d=>by have c:=Y d.2.2.1 0;simp at c;clear d;go_simp) H ?_;refine zV 6 (.string p.v) rfl (λW d=>by have c:=Y d.2.2.2 0;simp at c;clear d;go_simp) H ?_;have aj:=al.tail ((Kp.refl _ _).drew);have aw:=j.out _ aj;clear al H;refine zr 5 10 (λK hK=>?_) λK hK=>?_
  .go_simp;refine(FC p.k w.drew oM).mono ?_;rintro e L ⟨rfl,i⟩;have D:=aj.tail i;have T:=j.out _ D;clear aj aw;refine zk hK T ?_
   refine zr 7 10 (λK hK=>?_) λK hK=>?_
   .go_simp;refine(FC p.v L oM).mono ?_;rintro e M ⟨rfl,i⟩;have k:=D.tail i;have C:=j.out _ k;clear D T;refine zk hK C ?_
    refine zU 8 (.agg #[.string p.k,.string p.v]) C ?_;refine zr 9 10 (λK hK=>?_) λK hK=>?_
    .go_simp;refine Env.call (Ld E.toEnv r t.h p M k.dev (b.rr.to b.dev k) b.qM7 (by have:=b.out.sz;omega) af) k ?_;rintro e N ⟨f,rfl,Q,F⟩;have g:=k.trans F;have u:=j.out _ g;clear k C F;refine zk hK u ?_
     refine zq 10 λK hK=>?_;go_simp;let⟨w4,z,a,m⟩:=alA N (ϲ ϛ 89);rw[<-z];clear z;have y:=g.kp.size;have I:=U a;have V:=g.tail m;have ab:=j.out _ V;let⟨B,v⟩:=eX N.heap.size;rw[<-v]at a y I |-;clear v;have bg:=Q.qO1 m (Apt.nil _ _);clear Q g u m;have Q:=bg;refine zk hK ab ?_
     exact Sz.out
    .go_simp;let⟨N,z,a,m⟩:=alA M (ϲ ϛ 89);rw[<-z];clear z;have y:=k.kp.size;have I:=U a;have g:=k.tail m;have u:=j.out _ g;let⟨B,v⟩:=eX M.heap.size;rw[<-v]at a y I |-;clear v;clear k C m;refine zk hK u ?_
     refine zq 9 λK hK=>?_;go_simp;refine Env.call (Ld E.toEnv r t.h p N g.dev (b.rr.to b.dev g) b.qM7 (by have:=b.out.sz;omega) af) g ?_;rintro e w4 ⟨f,rfl,Q,F⟩;have V:=g.trans F;have ab:=j.out _ V;have am:=F.new b.dev y a;clear g u F a;have a:=am;refine zk hK ab ?_
     exact Sz.out
   .go_simp;let⟨M,z,a,m⟩:=alA L (ϲ ϛ 89);rw[<-z];clear z;have y:=D.kp.size;have I:=U a;have k:=D.tail m;have C:=j.out _ k;let⟨B,v⟩:=eX L.heap.size;rw[<-v]at a y I |-;clear v;clear D T m;refine zk hK C ?_
    refine zq 7 λK hK=>?_;go_simp;refine(FC p.v M oM).mono ?_;rintro e N ⟨rfl,i⟩;have g:=k.tail i;have u:=j.out _ g;have ai:=i.hp a;clear k C a i;have a:=ai;refine zk hK u ?_
    exact Sy.out
  .go_simp;let⟨L,z,a,m⟩:=alF w (ϲ ϛ 89);rw[<-z];clear z;have y:w.heap.size<=w.heap.size:=Nat.le_refl _;have I:=U a;have D:=Env.To.of0 b.dev m;have T:=j.out _ D;let⟨B,v⟩:=eX w.heap.size;have a5:w.heap.size<=B:=oM
   clear y;rw[<-v]at a I |-;have y:=a5;clear v a5;clear aj aw m;refine zk hK T ?_
   refine zq 5 λK hK=>?_;go_simp;refine(FC p.k L oM).mono ?_;rintro e M ⟨rfl,i⟩;have k:=D.tail i;have C:=j.out _ k;have az:=i.hp a;clear D T a i;have a:=az;refine zk hK C ?_
   refine zq 7 λK hK=>?_;go_simp;refine(FC p.v M oM).mono ?_;rintro e N ⟨rfl,i⟩;have g:=k.tail i;have u:=j.out _ g;have ai:=i.hp a;clear k C a az i;have a:=ai;refine zk hK u ?_
   exact Sy.out
 rintro B f G ao;refine au _ _ ?_;clear au K0;let⟨ac,ag,ad⟩:=ao.out;have ak:=hid ac;have ap:=hid ag;have bm:=hid ad;clear ac ag ao;go_wp2_with fail;have q:=And.intro ad (And.intro (j _ ak).1 (j _ ak).2.1);refine wp_region_held_drew (S:=λW=>W.heap[B]?=some (ϲ (ϟ E.V f) 89)/\W.heap[Z]?=some (ϲ #[ϖ x] 32)/\W.heap[x]?=some (Ac t)) kR q (λ_=>?_);refine zV 0 (θ E.V f) rfl (λW d=>by have a0:=Y d.1;clear d;rw[θ];go_simp) q ?_;refine zV 2 (ϖ x) rfl (λW d=>by have c:=Y d.2.1 0;simp at c;clear d;go_simp) q ?_;refine zP 3 x 0 q ?_;refine zP 4 x 0 q ?_;refine zV 5 (ϖ t.St) rfl (λW d=>by have a0:=ϻ d.2.2 0;clear d;go_simp) q ?_;refine zq 1 λK hK=>?_;go_simp;let⟨bi,bh⟩:=KD b.qM7 af.out;have bj:(r.put p).cont.length<=1000000:=by rw[bh];have:=JJ p r.cont;have:=b.out.sz;omega
 refine(PE E.toEnv (r.put p) f G.drew (ap.qO1 ((Kp.refl [] _).drew) (Apt.nil _ _)) bi bj).mono ?_;rintro e bc ⟨rfl,i⟩;have O:=((Kp.refl [] G).drew).tr i;have ah:=ak.out.tail O;have aa:=And.intro (O.hp q.1) (And.intro (O.hp q.2.1) (O.hp q.2.2));clear i;refine zk hK aa ?_
 refine zq 6 λK hK=>?_;go_simp;have ax:=E.stay b.dev ah b.hSt dC;have a6:bc.heap[s.V]?=some (CR A n):=by
  rw[b.out.sV];exact ah.kp.heap b.hV (be)
 refine(qB0 t.St A n 1 s bc ax a6 (by have:=b.out.n1;omega) b.bl0 (by have:=b.out.bl1;omega)).mono ?_;rintro e bl ⟨rfl,P⟩;have ay:=ah.tail P;have o:=And.intro (P.hp aa.1) (And.intro (P.hp aa.2.1) (P.hp aa.2.2));refine zk hK o ?_
 have bd:=zh (ap.qO1 (O.tr P) (Apt.nil _ _));have ar:=zh ay;have aq:=zh o;clear ax a6 O P ah ay q aa ad;by_cases bk:((r.put p).news:Int)<=(n:Int)-2-s.bl
 .skip
  refine zU 7 (.bool false) o ?_;refine zd ?_;have I:=U o.1;have bo:=U o.2.1;have bs:=U o.2.2;have a8:=o.1;have a9:=o.2.1;have an:=o.2.2;have:=Y a8;have:=ϻ a9 0;have d4:=Y an;simp only[Ac,zG,zH,zI]at d4;have f4:=ρ an;clear o a8 a9 an;go_wp2
  go_end0
  have X:=Ql (ϖ E.V) (.string f.key) (ϊ f.b) (.int .u64 f.s) (.pointer f.ptr) aq.2.2;refine .inr ⟨λ_=>⟨rfl,bl,f,ar,bd.qO1 X.2 (Apt.one aq.2.2 dC),?_,X.2⟩,λh=>by omega⟩;rw[X.1,Ac,ba]
 .have bk:(n:Int)-2-s.bl<((r.put p).news:Int):=oM
  refine zU 7 (.bool true) o ?_;refine zd ?_;clear o;go_wp2;exact⟨rfl,rfl,.inr ⟨λh=>by omega,λ_=>⟨rfl,ar⟩⟩⟩
def Ti(a d f x:Nat)(t)(w)(b:w.heap[a]?=some (ϲ #[ϖ x] 32))(c:w.heap[x]?=some (Ac t))(g:t.wrt=false):
  Ω 100 #[ϖ a,ϖ d,ϖ f] w λe w'=>e=Al (some 6)/\w'=w:=by
 have:=U b;have:=U c;have c0:=ϻ b 0;have h:=ϻ c 2;rw[g]at h;go_enter func100,ntmps100;go_wp2;exact⟨rfl,rfl,rfl,rfl⟩
def Th(b a g x:Nat)(t)(k)(w)(d:w.heap[b]?=some (ϲ #[ϖ x] 32))(c:w.heap[a]?=some (ϲ #[ϕ k] 9))(f:w.heap[x]?=some (Ac t))(i:t.wrt=true)(h:k.size<1\/8<k.size):
  Ω 100 #[ϖ b,ϖ a,ϖ g] w λe w'=>e=Al (some 1)/\w'=w:=by
 have:=U d;have:=U f;have:=U c;have:=ϻ d 0;have:=ϻ c 0;have j:=ϻ f 2;rw[i]at j;go_enter func100,ntmps100;go_wp2_with fail;refine(MH k _ h).mono ?_;rintro e l ⟨rfl,rfl⟩;simp[Al];go_wp2;exact⟨rfl,rfl,rfl⟩
def Cv(t:Tx)(key:ByteArray)(o:Option Int):Option Int:=if t.wrt=false then some 6 else if Bx key=false then some 1 else o
def Fk(o:ϩ):Prop:=o=none\/o=some 3
def EZ(k):Bx k=true↔1<=k.size/\k.size<=8:=by simp[Bx]
def NM{k}(h:Bx k=false):k.size<1\/8<k.size:=by
 have:=mt (EZ k).2 (by simp[h]);omega
def IL(E:SEnv)(x:Nat)(t t':Tx)(r':Root)(o:ϩ)(w:Ϣ)(e:Ending)(w':Ϣ):Prop:=
 (Fk o/\E.toEnv.Z w e w')\/(e=Al o/\(o=none->∃b a,E.To w b/\RR E.toEnv w' a r'/\w'.heap[x]?=some (Ac { t' with h:=a })/\Kp [x] b w')/\(o≠none->E.To w w'))
def Tg(E)(c l m x f:Nat)(t)(r')(key)(first cap)(o:ϩ)(w)(y:E.Dev w)(d:w.heap[c]?=some (ϲ #[ϖ x] 32))(u:w.heap[l]?=some (ϲ #[ϕ key] 9))(K:w.heap[m]?=some (ϲ #[.func (.func f) first cap] 1))(g:w.heap[x]?=some (Ac t))(h0:0<=t.ch)(h1:t.ch<=1000000000)
  (aa:∀W:Ϣ,Sem.run prog (callFunc f (first++cap)) W=.ok (.enter f (first++cap)) W)
  (M:t.wrt=true->Bx key=true->Calls prog f (first++cap) w (IL E x t t r' o w)):
  Ω 100 #[ϖ c,ϖ l,ϖ m] w (IL E x t { t with ch:=t.ch+1 } r' (Cv t key o) w):=by
 have v:=Env.To.of0 y kF;by_cases k:t.wrt=false
 .rw[Cv,if_pos k];exact(Ti c l m x t w d g k).mono λe w' ⟨a,b⟩=>.inr ⟨a,(by intro h;cases h),λ_=>by rw[b];exact v⟩
 have B:t.wrt=true:=by simpa using k
 by_cases n:Bx key=false
 .rw[Cv,if_neg k,if_pos n];exact(Th c l m x t key w d u g B (NM n)).mono λe w' ⟨a,b⟩=>.inr ⟨a,(by intro h;cases h),λ_=>by rw[b];exact v⟩
 have z:Bx key=true:=by simpa using n
 rw[Cv,if_neg k,if_neg n];have L:=(EZ key).1 z;have N:Hid (∀W,E.To w W->Ϙ W c (ϲ #[ϖ x] 32)):=λW i=>E.stay y i d dC;have Q:=hid (show x≠c from λe=>by rw[e,d]at g;cases g);have A:=U d;have:=U g;have:=U u;have:=U K;have c0:=ϻ d 0;have V:=ϻ u 0;have R:=ϻ K 0;have D:=Y g 2;simp[Ac,zG,zH,zI]at D;rw[B]at D;have P:=hid (M B z);clear M z v y;go_enter func100,ntmps100;go_wp2_with fail;refine mR (MI key _ L.1 L.2) ?_;rintro C rfl;simp[Al];go_wp2_with fail;refine(show Calls _ _ _ _ _ from P).mono ?_;rintro e C (⟨T,⟨p,rfl⟩,hz⟩|⟨rfl,hn,A⟩)
 .go_wp2;exact⟨rfl,.inl ⟨T,⟨p,rfl⟩,hz⟩⟩
 cases o with
 | some j=>
  have O:=hid (A sM);simp[Al];go_wp2;exact⟨rfl,.inr ⟨rfl,(by intro h;cases h),λ_=>O⟩⟩
 | none=>
  let⟨X,S,i,H,q,s⟩:=hn rfl;have I:=s.heap (N _ i) (by simp;exact λe=>Q e.symm);have r:=hid (And.intro i (And.intro H s));clear c0 V R D hn A i H s;have:=U q;have:=U I;have F:=hid q;have:=ϻ I 0;have Z:=Y q 9;simp[Ac,zG,zH,zI]at Z;have:=ρ q 9;simp[Al];go_wp2
  go_end0
  have G:Kp [x] C (C.setCell (ϰ x 9) (.int .u64 (t.ch+1))):=kF.sc _;exact .inr ⟨rfl,λ_=>⟨X,S,r.1,r.2.1.qO1 G (Apt.one F dC),ξ F 9 _,r.2.2.tr G⟩,λh=>(h rfl).elim⟩
def SW(args)(W):Sem.run prog (callFunc 100 args) W=.ok (.enter 100 args) W:=by
 simp[go_sem,func100]
structure LiveT(E:SEnv)(w:Ϣ)(x A n:Nat)(t:Tx)(s:Sto)(r:Root):Prop where
 hx:w.heap[x]?=some (Ac t)
 over:t.over=false
 on:t.on=some (ϰ E.V 0)
 hSt:w.heap[t.St]?=some (η 0 s)
 po:s.po=false
 sV:s.V=E.V
 hV:w.heap[E.V]?=some (CR A n)
 n1:n<=1000
 bl0:0<=s.bl
 bl1:s.bl<=100000
 dev:E.Dev w
 vS:E.V∉E.S
 rr:RR E.toEnv w t.h r
 qM7:RGood r
 sz:r.cont.length<=70000
 ch0:0<=t.ch
 ch1:t.ch<=100000000
def υ{w:Ϣ}{a b:Nat}{c d:ϧ}{t u:Ϯ}{g i:Nat×Nat}(j:w.heap[a]?=some (ϲ c t g))(f:w.heap[b]?=some (ϲ d u i))(h:t≠u):a≠b:=λe=>by
 subst e;rw[j]at f;cases f;exact h rfl
def LiveT.xS{E}{w}{x A n:Nat}{t}{s}{r}(h:LiveT E w x A n t s r):x≠t.St:=υ h.hx h.hSt dC
def LiveT.qU7{E}{w W}{x A n:Nat}{t}{s}{r}(h:LiveT E w x A n t s r)(hK:Kp [t.St] w W):E.Dev W:=E.qN1 w W [t.St] h.dev hK (OffD.one h.hSt dC)
def LiveT.more{E}{w W}{x A n:Nat}{t}{s}{r}(h:LiveT E w x A n t s r)(hK:Kp [] w W):LiveT E W x A n t s r:=
 { h with hx:=hK.hp h.hx,hSt:=hK.hp h.hSt,hV:=hK.hp h.hV,dev:=E.qN1 w W [] h.dev hK (λk hk=>by simp at hk),rr:=h.rr.qO1 hK (Apt.nil _ _) }
structure FineT(E:SEnv)(w w':Ϣ)(x:Nat)(t:Tx)(s:Sto)(r':Root)(h':HL):Prop where
 hx:w'.heap[x]?=some (Ac { t with h:=h',ch:=t.ch+1 })
 rr:RR E.toEnv w' h' r'
 dev:E.Dev w'
 hSt:w'.heap[t.St]?=some (η 0 s)
 kp:Kp (t.St::x::E.S) w w'
structure BadT(E:SEnv)(w w':Ϣ)(t:Tx)(s:Sto):Prop where
 dev:E.Dev w'
 hSt:w'.heap[t.St]?=some (η 0 s)
 kp:Kp (t.St::E.S) w w'
def Cs{w1}{St B:Nat}{s}{c:Int}(a:w1.heap[St]?=some (η c s))(b:w1.heap[B]?=some (ϲ #[.nilIface] 38)):OffD w1 [St,B]:=(OffD.one a dC).cons (OffD.one b dC)
def Ry{w1}{St B:Nat}{s}{c:Int}(a:w1.heap[St]?=some (η c s))(b:w1.heap[B]?=some (ϲ #[.nilIface] 38)):Apt w1 [St,B] Bi:=(Apt.one a dC).cons (Apt.one b dC)
structure SickT(E:SEnv)(w w':Ϣ)(t:Tx)(s:Sto):Prop where
 fail:E.qP9 w'
 hSt:w'.heap[t.St]?=some (η 0 { s with po:=true })
 kp:Kp (t.St::E.S) w w'
def EndT(E:SEnv)(w w':Ϣ)(x:Nat)(t:Tx)(s:Sto)(r':Root)(o k:ϩ):Prop:=
 (Fk o/\ioK k=true/\SickT E w w' t s)\/(k=o/\(o=none->∃a,FineT E w w' x t s r' a)/\(o≠none->BadT E w w' t s))
def FineT.from{E}{w w0 w'}{x:Nat}{t}{s}{r'}{h'}(hK:Kp [] w w0)(h:FineT E w0 w' x t s r' h'):FineT E w w' x t s r' h':=
 { h with kp:=(hK.mono sM).trans h.kp (λ_ h _=>h) }
def BadT.from{E}{w w0 w'}{t}{s}(hK:Kp [] w w0)(h:BadT E w0 w' t s):BadT E w w' t s:=
 { h with kp:=(hK.mono sM).trans h.kp (λ_ h _=>h) }
def SickT.from{E}{w w0 w'}{t}{s}(hK:Kp [] w w0)(h:SickT E w0 w' t s):SickT E w w' t s:=
 { h with kp:=(hK.mono sM).trans h.kp (λ_ h _=>h) }
def EndT.from{E}{w w0 w'}{x:Nat}{t}{s}{r'}{o k:ϩ}(hK:Kp [] w w0)(h:EndT E w0 w' x t s r' o k):EndT E w w' x t s r' o k:=
 h.imp (λh=>⟨h.1,h.2.1,h.2.2.from hK⟩) λh=>⟨h.1,λe=>(h.2.1 e).imp λ_ g=>g.from hK,λe=>(h.2.2 e).from hK⟩
def Eb(b:Nat):Al (some (1000+(b:Int)))=.panicked (ioP b):=by simp[Al,KY,(Iv b).1,(Iv b).2,ioP]
def DY(b:Nat):ioK (some (1000+(b:Int)))=true:=by simp[ioK];omega
def FR(b:Nat):some (1000+(b:Int))≠some 8:=sO
def MF(E)(x A n f:Nat)(t)(s)(r r')(key call)(first cap)(o:ϩ)(w)(ag:o≠some 8/\ioK o=false)(y:LiveT E w x A n t s r)
  (af:∀W:Ϣ,Sem.run prog (callFunc f (first++cap)) W=.ok (.enter f (first++cap)) W)
  (hw:∀W:Ϣ,Kp [t.St] w W->E.Dev W->W.heap[x]?=some (Ac t)->W.heap[t.St]?=some (η 1 s)->W.heap[E.V]?=some (CR A n)->RR E.toEnv W t.h r->t.wrt=true->Bx key=true->Calls prog f (first++cap) W (IL E x t t r' o W)):
  Ω 61 #[ϖ x,ϕ call,ϕ key,.func (.func f) first cap] w λe w'=>∃v k,e=ϱ v/\ErrV w' v k/\EndT E w w' x t s r' (Cv t key o) k:=by
 have:=zM;let⟨c,M⟩:=eX (Cv t key o);have ae:c≠some 8/\ioK c=false:=by
  rw[M,Cv];split
  .decide
  .split
   .decide
   .exact ag
 rw[<-M];have HL:=hid y;have V:=hid ae;have H:=y.xS;have R:=y.hx;have z:=y.hSt;have:=U R;have:=U z;go_enter func61,ntmps61;go_wp2_with fail;let⟨w0,ah,ad,ac,ab,u,ak⟩:=alE w (ϲ #[ϖ x] 32) (ϲ #[ϕ key] 9) (ϲ #[.func (.func f) first cap] 1)
 rw[<-ah];refine(EV x t.St 100 t s #[] _ call (x::E.S) (λk T W a=>T=s/\((Fk c/\ioK k=true/\E.qP9 a/\Kp E.S W a)\/(k=c/\(c=none->E.Dev a/\∃j,RR E.toEnv a j r'/\Ϙ a x (Ac { t with h:=j,ch:=t.ch+1 }))/\(c≠none->E.To W a)))) w0 (u.hp R) HL.over rfl (u.hp z) (λh=>by rw[HL.out.po]at h;cases h) H (SW _) (λi D=>by
   rcases List.mem_cons.1 D with h|h
   .rw[h];omega
   .have:=E.low w HL.dev i h;omega) ?_).mono ?_
 .intro _ W hK q;have d:=(u.mono (S':=[t.St]) sM).trans hK (λ_ h _=>h);have S:=d.heap R (by simp;exact H);have l:=HL.out.qU7 d;have hV:=d.heap HL.hV (by simp;exact λe=>υ HL.hV z dC e);refine(Tg E w.heap.size (w.heap.size+1) (w.heap.size+2) x f t r' key first cap o W l (hK.ho ad) (hK.ho ac) (hK.ho ab) S HL.ch0 (oW HL.out.ch1) af ((hid hw) W d l S q hV (HL.rr.qO1 d (Apt.one z dC)))).mono ?_;rw[<-(hid M).out];rintro e a (⟨I,⟨b,rfl⟩,K,p⟩|⟨rfl,P,F⟩)
  .exact⟨some (1000+(b:Int)),s,FR b,(Eb b).symm,⟨rfl,.inl ⟨I,DY b,K,p⟩⟩,p.mono sC,p.heap q (E.nin l q dC)⟩
  .refine⟨c,s,V.1,rfl,?_⟩;by_cases C:c=none
   .let⟨ai,j,g,Q,G,O⟩:=P C;have N:=E.qN1 ai a [x] g.dev O (OffD.one (E.stay l g S dC) dC);refine⟨⟨rfl,.inr ⟨rfl,λ_=>⟨N,j,Q,G⟩,λh=>(h C).elim⟩⟩,?_,O.heap (E.stay l g q dC) (by simp;exact λe=>H e.symm)⟩;exact(g.kp.mono (S':=t.St::x::E.S) sC).trans O sC
   .have g:=F C;exact⟨⟨rfl,.inr ⟨rfl,λh=>(C h).elim,λ_=>g⟩⟩,g.kp.mono sC,E.stay l g q dC⟩
 rintro e m ⟨k,T,v,rfl,hv,hSt2,hK2,W,a,B,⟨rfl,hQ⟩,d,hB1,hB2,hB3,hKB,hS1⟩;have Z:=u;have aa:∀(L:List Nat),Kp E.S W a->Kp (t.St::E.S) w m:=λ_ h=>(((Z.mono (S':=t.St::E.S) sM).trans d sC).trans h sC).trans hKB (by
  intro i D aj;simp[mC,lN,or_false]at D;rcases D with rfl|rfl
  .simp
  .omega)
 have HE:Hid (ErrV m v k/\EndT E w m x t T r' c k):=by
  refine⟨hv,?_⟩;rcases hQ with⟨I,X,K,p⟩|⟨rfl,P,F⟩
  .refine .inl ⟨I,X,E.qP6 a m _ K hKB (Cs hS1 hB3),?_,aa [] p⟩;rw[hSt2,Sto.aft,X,Bool.or_true]
  .rw[Sto.qO8 V.out.2]at hSt2;refine .inr ⟨rfl,λh=>?_,λh=>?_⟩
   .let⟨N,j,Q,G⟩:=P h;refine⟨j,hKB.heap G ?_,Q.qO1 hKB (Ry hS1 hB3),E.qN1 a m _ N hKB (Cs hS1 hB3),hSt2,(Z.mono (S':=t.St::x::E.S) sM).trans hK2 (λ_ h _=>h)⟩;simp[mC,lN,or_false,not_or];exact⟨H,υ G hB3 dC⟩
   .exact⟨E.qN1 a m _ (F h).dev hKB (Cs hS1 hB3),hSt2,aa [] (F h).kp⟩
 clear hv hSt2 hK2 hQ d hB3 hKB hS1;go_wp2;go_ret;exact⟨v,k,rfl,HE⟩
def Tf(args)(W):Sem.run prog (callFunc 72 args) W=.ok (.enter 72 args) W:=by
 simp[go_sem,func72]
def qQ3(p:KV)(full:Bool):Option Int:=if 12<p.v.size then some 2 else if full then some 3 else none
def EI(t:Tx)(p:KV)(full:Bool):Option Int:=Cv t p.k (qQ3 p full)
def qA0(p)(a:Bool):qQ3 p a≠some 8/\ioK (qQ3 p a)=false:=by
 unfold qQ3;split
 .decide
 .split<;>decide
def qA1(E)(x A n:Nat)(t)(s)(r)(p)(w)(f:LiveT E w x A n t s r):
  Ω 34 #[ϖ x,ϕ p.k,ϕ p.v] w λe w'=>∃v k,e=ϱ v/\ErrV w' v k/\EndT E w w' x t s (r.put p) (EI t p (decide ((n:Int)-2-s.bl<((r.put p).news:Int)))) k:=by
 have HL:=hid f;have:=U f.hx;have:=U f.hSt;have:=zM;go_enter func34,ntmps34;go_wp2_with fail;obtain⟨I,F,z,u,l,j,L⟩:=alE w (ϲ #[ϖ x] 32) (ϲ #[ϕ p.k] 9) (ϲ #[ϕ p.v] 9)
 rw[<-F];refine(MF E x A n 72 t s r (r.put p) p.k _ #[] #[ϖ (w.heap.size+2),ϖ w.heap.size,ϖ (w.heap.size+1)] (qQ3 p (decide ((n:Int)-2-s.bl<((r.put p).news:Int)))) I (qA0 _ _) (HL.more j) (Tf _) ?_).mono ?_
 .intro W hK m G y B D M C;have o:=(EZ p.k).1 C;unfold qQ3;by_cases c:12<p.v.size
  .rw[if_pos c];exact(ZZ (w.heap.size+2) w.heap.size (w.heap.size+1) p.v W (hK.ho l) c).mono λe w' ⟨a,b⟩=>.inr ⟨a,(by intro h;cases h),λ_=>by rw[b];exact Env.To.of0 m kF⟩
  .rw[if_neg c];refine(ZY E (w.heap.size+2) w.heap.size (w.heap.size+1) x A n t s r p W ⟨hK.ho l,hK.ho z,hK.ho u,G,HL.on,y,HL.sV,B,HL.n1,HL.bl0,HL.bl1,m,HL.vS,D,HL.qM7,HL.sz⟩ ⟨o.1,o.2,oM⟩).mono ?_;rintro e K (H|⟨g,i⟩)
   .exact .inl ⟨by unfold Fk;split<;>simp,H⟩
   .by_cases d:(n:Int)-2-s.bl<((r.put p).news:Int)
    .rw[if_pos (sU d)];exact .inr ⟨(i d).1,(by intro h;cases h),λ_=>(i d).2⟩
    .rw[if_neg (sU d)];exact .inr ⟨(g oM).1,λ_=>(g oM).2,λh=>(h rfl).elim⟩
 .rintro e K ⟨v,k,rfl,c,q⟩;go_wp2;go_ret;exact⟨v,k,rfl,hid (And.intro c (q.from j))⟩
def MG(x f:Nat)(t)(s)(key call)(first cap)(w)(c:w.heap[x]?=some (Ac t))(j:s.po=true\/t.over=true)(g:w.heap[t.St]?=some (η 0 s))(m:x≠t.St):
  Ω 61 #[ϖ x,ϕ call,ϕ key,.func (.func f) first cap] w λe w'=>∃v,e=ϱ v/\ErrV w' v (some (goK s))/\w'.heap[t.St]?=some (η 0 s)/\Kp [t.St] w w':=by
 have:=zM;have:=U c;go_enter func61,ntmps61;go_wp2_with fail;obtain⟨a,l,b⟩:∃a,a=((w.alloc (ϲ #[ϖ x] 32)).alloc (ϲ #[ϕ key] 9)).alloc (ϲ #[.func (.func f) first cap] 1)/\Kp [] w a:=⟨_,rfl,((kF.alloc _).alloc _).alloc _⟩;rw[<-l];refine(Eu x t.St 100 t s #[] _ call a (b.hp c) j rfl (b.hp g) m).mono ?_;rintro e n ⟨v,rfl,k,i,d⟩;go_wp2;go_ret;exact⟨v,rfl,zh (n3 k i ((b.mono sM).trans d (λ_ h _=>h)))⟩
def qA3(x:Nat)(t:Tx)(s:Sto)(p:KV)(w:Ϣ)(b:w.heap[x]?=some (Ac t))(g:s.po=true\/t.over=true)(f:w.heap[t.St]?=some (η 0 s))(k:x≠t.St):
  Ω 34 #[ϖ x,ϕ p.k,ϕ p.v] w λe w'=>∃v,e=ϱ v/\ErrV w' v (some (goK s))/\w'.heap[t.St]?=some (η 0 s)/\Kp [t.St] w w':=by
 have:=U b;have:=zM;go_enter func34,ntmps34;go_wp2_with fail;obtain⟨l,j,n,m,o,a,q⟩:=alE w (ϲ #[ϖ x] 32) (ϲ #[ϕ p.k] 9) (ϲ #[ϕ p.v] 9)
 rw[<-j];refine(MG x 72 t s p.k _ #[] _ l (a.hp b) g (a.hp f) k).mono ?_;rintro e r ⟨v,rfl,i,c,d⟩;go_wp2;go_ret;exact⟨v,rfl,zh (n3 i c ((a.mono sM).trans d (λ_ h _=>h)))⟩
def UH(E:SEnv)(s q x:Nat)(t:Tx)(r:Root)(k:Ϧ)(w:Ϣ)(y:w.heap[s]?=some (ϲ #[ϖ x] 32))(v:w.heap[q]?=some (ϲ #[ϕ k] 9))(f:w.heap[x]?=some (Ac t))(A:t.on=some (ϰ E.V 0))(l:E.Dev w)(H:RR E.toEnv w t.h r)(F:RGood r)(M:r.cont.length<=70000):
  E.toEnv.C 62 #[ϖ s,ϖ q] w λe w'=>e=Al none/\∃i a,E.To w i/\RR E.toEnv w' a (r.del k)/\w'.heap[x]?=some (Ac { t with h:=a })/\Kp [x] i w':=by
 have:=U f;go_enter func62,ntmps62;go_wp2_with fail;have b:=n2 y v;refine wp_region_held_drew (S:=λW=>W.heap[s]?=some (ϲ #[ϖ x] 32)/\W.heap[q]?=some (ϲ #[ϕ k] 9)) kR b (λ_=>?_);refine zV 0 (ϖ x) rfl (λW j=>by have c:=Y j.1 0;simp at c;go_simp) b ?_;refine zV 1 (ϖ x) rfl (λW j=>by have c:=Y j.1 0;simp at c;go_simp) b ?_;refine zP 2 x 0 b ?_;refine zP 3 x 4 b ?_;refine zV 5 (ϕ k) rfl (λW j=>by have c:=Y j.2 0;simp at c;go_simp) b ?_;have u:=ϻ f 4;have:=ϻ f 5;have:=ϻ f 6;have:=ϻ f 7;have:=ϻ f 8;rw[A]at u;refine zq 4 λK hK=>?_;go_simp;refine zk hK b ?_
 refine zq 6 λK hK=>?_;go_simp;have o:=(Env.To.of0 l kF).tail (kF.drew);have z:=qG6 E.toEnv r t.h k w.drew o.dev (H.to l o) F oM;rw[θ]at z;refine Env.call z o ?_;rintro e i ⟨a,rfl,G,D⟩;have n:=o.trans D;have d:=And.intro (E.stay l n y dC) (E.stay l n v dC);have g:=E.stay l n f dC;have:=U g;refine zk hK d ?_
 refine zP 7 x 0 d ?_;refine zP 8 x 4 d ?_;have u:=Y g;simp[Ac,zG,zH,zI]at u;have:=ρ g;rw[θ];refine zq 9 λK hK=>?_;go_simp;have B:=Ql (ϖ E.V) (ϕ a.key) (ϊ a.b) (.int .u64 a.s) (ϗ a.ptr) g;obtain⟨p,I,L,m⟩:∃p,p=((((i.setCell (ϰ x 4) (ϖ E.V)).setCell (ϰ x 5) (ϕ a.key)).setCell (ϰ x 6) (ϊ a.b)).setCell (ϰ x 7) (.int .u64 a.s)).setCell (ϰ x 8) (ϗ a.ptr)/\p.heap[x]?=some (Ac { t with h:=a })/\Kp [x] i p:=⟨_,rfl,by rw[B.1,Ac,A],B.2⟩;rw[<-I];have C:=And.intro (m.heap d.1 (by simp;exact υ d.1 g dC)) (m.heap d.2 (by simp;exact υ d.2 g dC));refine zk hK C ?_
 refine zd ?_;go_wp2
 go_end0
 exact .inr ⟨rfl,i,a,zh (n4 n (G.qO1 m (Apt.one g dC)) L m)⟩
def SZ(args)(W):Sem.run prog (callFunc 62 args) W=.ok (.enter 62 args) W:=by
 simp[go_sem,func62]
def FE(t:Tx)(k:ByteArray):Option Int:=Cv t k none
def UI(E)(x A n:Nat)(t)(s)(r)(k)(w)(a:LiveT E w x A n t s r):
  Ω 28 #[ϖ x,ϕ k] w λe w'=>∃v o,e=ϱ v/\ErrV w' v o/\EndT E w w' x t s (r.del k) (FE t k) o:=by
 have HL:=hid a;have:=U a.hx;have:=U a.hSt;have:=zM;go_enter func28,ntmps28;go_wp2_with fail;obtain⟨p,l,f,d,b,z⟩:=alC w (ϲ #[ϖ x] 32) (ϲ #[ϕ k] 9)
 rw[<-l];refine(MF E x A n 62 t s r (r.del k) k _ #[] #[ϖ w.heap.size,ϖ (w.heap.size+1)] none p dC (HL.more b) (SZ _) ?_).mono ?_
 .intro W hK g m u y i _ _;refine(UH E w.heap.size (w.heap.size+1) x t r k W (hK.ho f) (hK.ho d) m HL.on g i HL.qM7 HL.sz).mono ?_;exact λe q h=>h.imp (λh=>⟨.inl rfl,h⟩) λh=>⟨h.1,λ_=>h.2,λh=>(h rfl).elim⟩
 .rintro e q ⟨v,o,rfl,j,c⟩;go_wp2;go_ret;exact⟨v,o,rfl,hid (And.intro j (c.from b))⟩
def UM(x:Nat)(t)(s)(k)(w)(b:w.heap[x]?=some (Ac t))(g:s.po=true\/t.over=true)(f:w.heap[t.St]?=some (η 0 s))(l:x≠t.St):
  Ω 28 #[ϖ x,ϕ k] w λe w'=>∃v,e=ϱ v/\ErrV w' v (some (goK s))/\w'.heap[t.St]?=some (η 0 s)/\Kp [t.St] w w':=by
 have:=U b;have:=zM;go_enter func28,ntmps28;go_wp2_with fail;obtain⟨m,j,o,n,a,p⟩:=alC w (ϲ #[ϖ x] 32) (ϲ #[ϕ k] 9)
 rw[<-j];refine(MG x 62 t s k _ #[] _ m (a.hp b) g (a.hp f) l).mono ?_;rintro e q ⟨v,rfl,i,c,d⟩;go_wp2;go_ret;exact⟨v,rfl,zh (n3 i c ((a.mono sM).trans d (λ_ h _=>h)))⟩
def Wk(a d f c:Nat)(k)(w)(b:w.heap[a]?=some (ϲ #[ϕ k] 9))(g:k.size<1\/8<k.size):
  Ω 243 #[ϖ a,ϖ d,ϖ f,ϖ c] w λe w'=>e=Al (some 1)/\w'=w:=by
 have:=U b;have h:=ϻ b 0;go_enter func243,ntmps243;go_wp2_with fail;refine(MH k _ g).mono ?_;rintro e i ⟨rfl,rfl⟩;simp[Al];go_wp2;exact⟨rfl,rfl,rfl⟩
def Wl(E:SEnv)(v C b d x:Nat)(t:Tx)(r:Root)(k:Ϧ)(w:Ϣ)(B:w.heap[v]?=some (ϲ #[ϕ k] 9))(M:w.heap[C]?=some (ϲ #[ϖ x] 32))(ac:w.heap[b]?=some (ϲ #[ϕ ⟨#[]⟩] 9))(ab:w.heap[d]?=some (ϲ #[ϐ false] 4))(ad:v≠b)
  (D:w.heap[x]?=some (Ac t)) (ae:t.on=some (ϰ E.V 0)) (m:E.Dev w) (af:RR E.toEnv w t.h r) (hg:RGood r) (ah:r.cont.length<=70000) (hk:Bx k=true):
  E.toEnv.C 243 #[ϖ v,ϖ C,ϖ b,ϖ d] w λe w'=>e=Al none/\w'.heap[b]?=some (ϲ #[ϕ (Et r.cont k)] 9)/\w'.heap[d]?=some (ϲ #[ϐ (Bv r.cont k).isSome] 4)/\∃u,E.To w u/\Kp [b,d] u w':=by
 have Q:=(EZ k).1 hk;have:=U D;have:=U B;have:=ϻ B 0;go_enter func243,ntmps243;go_wp2_with fail;apply mR (MI k _ Q.1 Q.2);rintro u rfl;simp[Al];go_wp2_with fail;have j:=n3 M B D;refine wp_region_held_drew (S:=λW=>Ϙ W C (ϲ #[ϖ x] 32)/\Ϙ W v (ϲ #[ϕ k] 9)/\Ϙ W x (Ac t)) kR j (λ_=>?_);refine zV 0 (ϖ x) rfl (λW a=>by have c:=Y a.1 0;simp at c;clear a;go_simp) j ?_;refine zP 1 x 0 j ?_;refine zP 2 x 4 j ?_;apply zV 3 (θ E.V t.h) rfl (λW a=>by have X:=Y a.2.2 4;have Z:=Y a.2.2 5;have a2:=Y a.2.2 6;have a3:=Y a.2.2 7;have a4:=Y a.2.2 8;simp[Ac,ae,zG,zH,zI]at X Z a2 a3 a4;clear a;rw[θ];go_simp) j;apply zV 4 (ϕ k) rfl (λW a=>by have c:=Y a.2.1 0;simp at c;clear a;go_simp) j;refine zq 5 λK hK=>?_;go_simp;have s:=(Env.To.of0 m kF).tail (kF.drew);apply Env.call (FL E.toEnv r t.h k u.drew s.dev (af.to m s) hg oM) s;rintro e F ⟨rfl,L⟩;have l:=s.trans L;have f:=And.intro (E.stay m l M dC) (And.intro (E.stay m l B dC) (E.stay m l D dC));have g:=E.stay m l ac dC;have A:=E.stay m l ab dC;apply zk hK f
 obtain⟨z,P⟩:=eY (Et r.cont k);obtain⟨y,O⟩:=eY ((Bv r.cont k).isSome);rw[P,O];have G:=zh (n2 P O);refine zU 6 (.tuple #[ϕ z,ϐ y]) f ?_;refine zU 7 (ϕ z) f ?_;refine zU 8 (ϐ y) f ?_;have:=U g;have v0:=ϻ g 0;have aa:=ρ g 0;refine zq 9 λK hK=>?_;go_simp;obtain⟨q,R,N,o⟩:∃q,q=F.setCell (ϰ b 0) (ϕ z)/\Ϙ q b (ϲ #[ϕ z] 9)/\Kp [b] F q:=⟨_,rfl,ξ g 0 _,kF.sc _⟩;rw[<-R];clear R v0 aa;have i:=And.intro (o.heap f.1 (by simp;exact υ f.1 g dC)) (And.intro (o.heap f.2.1 (by simp;exact ad)) (o.heap f.2.2 (by simp;exact υ f.2.2 g dC)));have h:=o.heap A (by simp;exact υ A g dC);refine zk hK i ?_
 have:=U h;have:=ϻ h 0;have:=ρ h 0;refine zq 10 λK hK=>?_;go_simp;obtain⟨n,ag,H,p⟩:∃n,n=q.setCell (ϰ d 0) (ϐ y)/\Ϙ n d (ϲ #[ϐ y] 4)/\Kp [d] q n:=⟨_,rfl,ξ h 0 _,kF.sc _⟩;rw[<-ag];have I:=And.intro (p.heap i.1 (by simp;exact υ i.1 h dC)) (And.intro (p.heap i.2.1 (by simp;exact υ i.2.1 h dC)) (p.heap i.2.2 (by simp;exact υ i.2.2 h dC)));refine zk hK I ?_
 refine zd ?_;have V:Hid (Ϙ n b (ϲ #[ϕ (Et r.cont k)] 9)/\Ϙ n d (ϲ #[ϐ (Bv r.cont k).isSome] 4)/\∃T,E.To u T/\Kp [b,d] T n):=by
  refine⟨?_,?_,F,l,(o.mono (S':=[b,d]) sC).trans p sC⟩
  .rw[G.out.1];exact p.heap N (by simp;exact υ g A dC)
  .rw[G.out.2];exact H
 clear I i f j N g H h A o p L l s;go_wp2
 go_end0
 exact .inr ⟨rfl,V⟩
def Tb(args)(W):Sem.run prog (callFunc 243 args) W=.ok (.enter 243 args) W:=by
 simp[go_sem,func243]
def Cp(k:ByteArray):Option Int:=if Bx k=false then some 1 else none
def FO(r:Root)(k:ByteArray)(o:Option Int):ByteArray:=if o=none then Et r.cont k else ⟨#[]⟩
def FN(r:Root)(k:ByteArray)(o:Option Int):Bool:=if o=none then(Bv r.cont k).isSome else false
def qG7(E)(x A n:Nat)(t)(s)(r)(k)(w)(I:LiveT E w x A n t s r):
  Ω 197 #[ϖ x,ϕ k] w λe w'=>∃v o,e=ϱ (.tuple #[ϕ (FO r k o),ϐ (FN r k o),v])/\ErrV w' v o/\((Cp k=none/\ioK o=true/\SickT E w w' t s)\/(o=Cp k/\BadT E w w' t s)):=by
 have:=U I.hx;have ab:=U I.hSt;have:=zM;go_enter func197,ntmps197;go_wp2_with fail;obtain⟨T,ad,O,D,P,N,H,af⟩:=alG w (ϲ #[ϖ x] 32) (ϲ #[ϕ k] 9) (ϲ #[ϕ ⟨#[]⟩] 9) (ϲ #[ϐ false] 4)
 rw[<-ad];have a:=(hid I).out.more H;refine(EV x t.St 243 t s #[] #[ϖ (w.heap.size+1),ϖ w.heap.size,ϖ (w.heap.size+1+1),ϖ (w.heap.size+1+1+1)] _ ((w.heap.size+1+1)::(w.heap.size+1+1+1)::E.S) (λo B W c=>B=s/\c.heap[w.heap.size+1+1]?=some (ϲ #[ϕ (FO r k o)] 9)/\c.heap[w.heap.size+1+1+1]?=some (ϲ #[ϐ (FN r k o)] 4)/\((Cp k=none/\ioK o=true/\E.qP9 c)\/(o=Cp k/\E.Dev c))) T a.hx a.over rfl a.hSt (λh=>by rw[a.po]at h;cases h) a.xS (Tb _) (λi j=>by
  simp[mC]at j;rcases j with h|h|h
  .omega
  .omega
  .exact E.low T a.dev i h) ?_).mono ?_
 .intro _ W hK y;have d:=a.qU7 hK;have p:=hK.ho P;have l:=hK.ho N;by_cases f:Bx k=false
  .refine (Wk (w.heap.size+1) w.heap.size (w.heap.size+1+1) (w.heap.size+1+1+1) k W (hK.ho D) (NM f)).mono ?_;rintro e c ⟨rfl,rfl⟩;exact⟨some 1,s,dC,rfl,⟨rfl,p,l,.inr ⟨by rw[Cp,if_pos f],d⟩⟩,Kp.refl _ _,y⟩
  have R:Cp k=none:=by rw[Cp,if_neg f]
  refine(Wl E (w.heap.size+1) w.heap.size (w.heap.size+1+1) (w.heap.size+1+1+1) x t r k W (hK.ho D) (hK.ho O) p l oM (hK.heap a.hx (by simp;exact a.xS)) a.on d (a.rr.qO1 hK (Apt.one a.hSt dC)) a.qM7 a.sz (sU f)).mono ?_;rintro e g (⟨⟨b,rfl⟩,hf,z⟩|⟨rfl,ha,hb,c,m,F⟩)
  .exact⟨some (1000+(b:Int)),s,FR b,(Eb b).symm,⟨rfl,z.heap p (E.nin d p dC),z.heap l (E.nin d l dC),.inl ⟨R,DY b,hf⟩⟩,z.mono sC,z.heap y (E.nin d y dC)⟩
  have aa:Ϙ g t.St (η 1 s):=F.heap (E.stay d m y dC) sO;have ac:=(OffD.one (E.stay d m p dC) dC).cons (OffD.one (E.stay d m l dC) dC);exact⟨none,s,dC,rfl,⟨rfl,ha,hb,.inr ⟨R.symm,E.qN1 c g _ m.dev F ac⟩⟩,(m.kp.mono (S':=t.St::(w.heap.size+1+1)::(w.heap.size+1+1+1)::E.S) sC).trans F (by intro i j _;simp at j |-;omega),aa⟩
 rintro e g ⟨o,B,v,rfl,hv,hSt2,hK2,W,c,Bb,⟨rfl,hV1,hB1,hQ⟩,hKW,hb1,hb2,hb3,hKB,hS1⟩;have:=ab;have K:=hKB.ho hV1;have C:=hKB.ho hB1;have G:=(H.mono (S':=t.St::E.S) sM).trans hK2 (by intro i j ae;simp at j |-;rcases j with h | h | h | h;simp[h];omega;omega;simp[h]);have L:Hid (ErrV g v o/\((Cp k=none/\ioK o=true/\SickT E w g t B)\/(o=Cp k/\BadT E w g t B))):=by
  refine⟨hv,?_⟩;rcases hQ with⟨q,u,Z⟩|⟨q,u⟩
  .exact .inl ⟨q,u,E.qP6 c g _ Z hKB (Cs hS1 hb3),by rw[hSt2,Sto.aft,u,Bool.or_true],G⟩
  .rw[Sto.qO8 (by rw[q,Cp];split<;>rfl)]at hSt2;exact .inr ⟨q,E.qN1 c g _ u hKB (Cs hS1 hb3),hSt2,G⟩
 clear hv hSt2 hK2 hS1 hV1 hB1 hKW hb3 hKB a O D P N H hQ G;obtain⟨X,S⟩:=eY (FO r k o);obtain⟨V,Q⟩:=eY (FN r k o);rw[S]at K;rw[Q]at C;have M:=hid (And.intro S Q);have:=U K;have:=U C;have:=ϻ K 0;have b0:=ϻ C 0;go_wp2_with fail
 go_quiet (fail)
 go_wp2;apply bodyPost_ret (v:=.tuple #[ϕ X,ϐ V,v]) (by simp[results,results197,go_sem]) rfl;refine⟨v,o,by rw[M.out.1,M.out.2],L.1,L.2.imp (λh=>⟨h.1,h.2.1,{ h.2.2 with fail:=E.qP6 _ _ [] h.2.2.fail ((Kp.refl [] _).drewN _) (λk f=>by simp at f),kp:=h.2.2.kp.drewN _ }⟩) λh=>⟨h.1,{ h.2 with dev:=E.qN1 _ _ [] h.2.dev ((Kp.refl [] _).drewN _) (λk f=>by simp at f),kp:=h.2.kp.drewN _ }⟩⟩
def qG8(x:Nat)(t)(s)(k)(w)(i:w.heap[x]?=some (Ac t))(n:s.po=true\/t.over=true)(f:w.heap[t.St]?=some (η 0 s))(q:x≠t.St):
  Ω 197 #[ϖ x,ϕ k] w λe w'=>∃v,e=ϱ (.tuple #[ϕ ⟨#[]⟩,ϐ false,v])/\ErrV w' v (some (goK s))/\w'.heap[t.St]?=some (η 0 s)/\Kp [t.St] w w':=by
 have:=U i;have:=U f;have:=zM;go_enter func197,ntmps197;go_wp2_with fail;obtain⟨r,p,y,u,m,j,c,z⟩:=alG w (ϲ #[ϖ x] 32) (ϲ #[ϕ k] 9) (ϲ #[ϕ ⟨#[]⟩] 9) (ϲ #[ϐ false] 4)
 rw[<-p];refine(Eu x t.St 243 t s #[] _ _ r (c.hp i) n rfl (c.hp f) q).mono ?_;rintro e A ⟨v,rfl,o,l,b⟩;have g:=b.ho m;have d:=b.ho j;have a:=zh (n3 o l ((c.mono sM).trans b (λ_ h _=>h)));have:=U g;have:=U d;have:=ϻ g 0;have:=ϻ d 0;go_wp2_with fail
 go_quiet (fail)
 go_wp2;apply bodyPost_ret (v:=.tuple #[ϕ ⟨#[]⟩,ϐ false,v]) (by simp[results,results197,go_sem]) rfl;exact⟨v,rfl,a.1,a.2.1,a.2.2.drewN _⟩
def DD(on:Option Addr)(h:HL):Obj:=.cells #[.pointer on,.string h.key,.int .i64 h.b,.int .u64 h.s,.pointer h.ptr] 89
def pkv:Option KV→KV
 | none=>⟨⟨#[]⟩,⟨#[]⟩⟩
 | some p=>p
def VX(o:Option KV):AB o=.tuple #[.agg #[ϕ (pkv o).k,ϕ (pkv o).v],ϐ o.isSome]:=by
 cases o<;>rfl
def Rm(B b x:Nat)(t)(w)(c:w.heap[B]?=some (ϲ #[ϖ x] 32))(a:w.heap[b]?=some (DD none ⟨⟨#[]⟩,0,0,none⟩))(d:w.heap[x]?=some (Ac t)):
  Ω 177 #[ϖ B,ϖ b] w λe w'=>e=Al none/\w'.heap[b]?=some (DD t.on t.h)/\Kp [b] w w':=by
 have:=U c;have:=U d;have:=U a;have:=ϻ c 0;have f:=Y d;simp[Ac,zG,zH,zI]at f;have:=ϻ a 0;have:=ϻ a 1;have:=ϻ a 2;have:=ϻ a 3;have:=ϻ a 4;have:=ρ a;clear d c;go_enter func177,ntmps177;go_wp2
 go_end0
 exact⟨rfl,ξ (ξ (ξ (ξ (ξ a 0 _) 1 _) 2 _) 3 _) 4 _,(((((Kp.refl [b] w).sc _).sc _).sc _).sc _).sc _⟩
def Rn(a:Nat)(lo k)(w)(b:w.heap[a]?=some (ϲ #[ϕ lo] 9)):
  Ω 178 #[ϕ k,ϖ a] w λe w'=>e=ϱ (.bool !kl k lo)/\Kp [] w w':=by
 have:=U b;have c:=ϻ b 0;go_enter func178,ntmps178;go_wp2;go_ret;exact⟨rfl,Kp.refl _ _⟩
def NT(a b):(!Op.bytesLess a.toList b.toList && !(a.toList == b.toList))=kl b a:=by rw[<-Bool.not_or,NV];simp
def Rp(a:Nat)(p k v)(w)(b:w.heap[a]?=some (ϲ #[ϕ p,ϕ v] 42)):
  Ω 180 #[ϕ k,ϖ a] w λe w'=>e=ϱ (ϐ (kl p k))/\Kp [] w w':=by
 have:=U b;have c:=ϻ b 0;go_enter func180,ntmps180;go_wp2;go_ret;exact⟨by rw[<-NT];rfl,Kp.refl _ _⟩
def Ro(E:SEnv)(z y c Tx g:Nat)(cap:ϧ)(f:Ϧ->Bool)(h:HL)(r:Root)(w:Ϣ)(a:w.heap[z]?=some (DD (some (ϰ E.V 0)) h))(p:w.heap[y]?=some (ϲ #[.func (.func g) #[] cap] 92))
  (I:w.heap[c]?=some (ϲ #[ϕ ⟨#[]⟩,ϕ ⟨#[]⟩] 42)) (K:w.heap[Tx]?=some (ϲ #[ϐ false] 4)) (j:E.Dev w) (F:RR E.toEnv w h r) (C:RGood r) (G:Up f) (B:Asks E.toEnv w g cap f)
  (L:ϴ g):
  E.toEnv.C 179 #[ϖ z,ϖ y,ϖ c,ϖ Tx] w λe w'=>e=Al none/\w'.heap[c]?=some (ϲ #[ϕ (pkv (r.cont.find? λq=>f q.k)).k,ϕ (pkv (r.cont.find? λq=>f q.k)).v] 42)/\w'.heap[Tx]?=some (ϲ #[ϐ (r.cont.find? λq=>f q.k).isSome] 4)/\∃l,E.To w l/\Kp [c,Tx] l w':=by
 have:=U a;have:=U p;have:=ϻ a 0;have:=ϻ a 1;have:=ϻ a 2;have:=ϻ a 3;have:=ϻ a 4;have:=ϻ p 0;have H:Hid (E.toEnv.C 49 #[.agg (ϟ E.V h),.func (.func g) #[] cap] w λe w'=>e=ϱ (AB (r.cont.find? λq=>f q.k))/\E.To w w'):=Iu E.toEnv r h g cap f w j F C G B L;clear F C G B a p;go_enter func179,ntmps179;go_wp2_with fail;refine Env.call H (Env.To.of0 j kF) ?_;rintro e l ⟨rfl,s⟩;rw[VX];obtain⟨o,D⟩:∃o,(r.cont.find? λq=>f q.k)=o:=⟨_,rfl⟩;rw[D];obtain⟨m,n,A,k⟩:∃m n A,(pkv o).k=m/\(pkv o).v=n/\o.isSome=A:=⟨_,_,_,rfl,rfl,rfl⟩;have b:=zh (n2 D k);rw[k.1,k.2.1,k.2.2];have d:=E.stay j s I dC;have u:=E.stay j s K dC;have:=U d;have:=U u;have x:=zh (υ u d dC);have v:=BO (ϕ m) (ϕ n) d;have t:=v.2.heap u (by simp;exact x);have:=Y d;have:=ρ d;have:=ϻ t 0;have:=ρ t 0;have i:=zh (n4 s v.1 t v.2);go_wp2
 go_end0
 refine .inr ⟨rfl,?_,?_,l,i.1,(i.2.2.2.mono (S':=[c,Tx]) sC).sc _⟩
 .rw[b.out.1,b.out.2.1,b.out.2.2.1];exact(AM (λe=>x e.symm) _ _).trans i.2.1
 .rw[b.out.1,b.out.2.2.2];exact ξ i.2.2.1 0 _
def SQ(args)(W):Sem.run prog (callFunc 177 args) W=.ok (.enter 177 args) W:=by
 simp[go_sem,func177]
def SR(args)(W):Sem.run prog (callFunc 178 args) W=.ok (.enter 178 args) W:=by
 simp[go_sem,func178]
def SS(args)(W):Sem.run prog (callFunc 179 args) W=.ok (.enter 179 args) W:=by
 simp[go_sem,func179]
def SU(args)(W):Sem.run prog (callFunc 180 args) W=.ok (.enter 180 args) W:=by
 simp[go_sem,func180]
def SP(args)(W):Sem.run prog (callFunc 176 args) W=.ok (.enter 176 args) W:=by
 simp[go_sem,func176]
def Rs(x:Nat)(lo hi)(w):
  Ω 116 #[ϖ x,ϕ lo,ϕ hi] w λe w'=>e=ϱ (.func (.func 176) #[] #[ϖ w.heap.size,ϖ (w.heap.size+1),ϖ (w.heap.size+2)])/\
   w'.heap[w.heap.size]?=some (ϲ #[ϖ x] 32)/\w'.heap[w.heap.size+1]?=some (ϲ #[ϕ lo] 9)/\w'.heap[w.heap.size+2]?=some (ϲ #[ϕ hi] 9)/\Kp [] w w':=by
 have:=zM;go_enter func116,ntmps116;go_wp2;go_ret;refine⟨rfl,ν _ (ν _ (μ _ _)),ν _ ?_,?_,((kF.alloc _).alloc _).alloc _⟩
 .have e:=μ (w.alloc (ϲ #[ϖ x] 32)) (ϲ #[ϕ lo] 9);simpa using e
 .simpa using(μ ((w.alloc (ϲ #[ϖ x] 32)).alloc (ϲ #[ϕ lo] 9)) (ϲ #[ϕ hi] 9))
def Xd:Go.Shelf.Ren:=⟨fun | 171=>252 | 243=>273 | 246=>290 | 283=>297 | 284=>298 | 285=>299 | 286=>300 | 129=>287 | 317=>302 | 318=>303 | 319=>304 | 320=>305 | 337=>306 | 338=>307 | n=>n,fun | 3=>3 | 9=>9 | 2=>2 | 4=>4 | 171=>374 | 0=>0 | 53=>78 | 37=>118 | 5=>5 | 173=>376 | 212=>382 | 51=>160 | 20=>20 | 213=>383 | 46=>333 | 232=>384 | 233=>385 | n=>n,fun | 17=>1 | 18=>2 | 19=>3 | n=>n⟩
def Xc:Go.Proofs.LaysM.n171 prog Xd:={
 mixed:=kR
 f129:=func287.trans (congrArg some kR)
 f171:=func252.trans (congrArg some kR)
 f243:=func273.trans (congrArg some kR)
 f246:=func290.trans (congrArg some kR)
 f283:=func297.trans (congrArg some kR)
 f284:=func298.trans (congrArg some kR)
 f285:=func299.trans (congrArg some kR)
 f286:=func300.trans (congrArg some kR)
 f317:=func302.trans (congrArg some kR)
 f318:=func303.trans (congrArg some kR)
 f319:=func304.trans (congrArg some kR)
 f320:=func305.trans (congrArg some kR)
 f337:=func306.trans (congrArg some kR)
 f338:=func307.trans (congrArg some kR)
 t0:=underlying0
 a0:=isAgg0
 z0:=sizeOf0
 v0:=zeroValue0
 t2:=underlying2
 a2:=isAgg2
 z2:=sizeOf2
 v2:=zeroValue2
 t3:=underlying3
 a3:=isAgg3
 z3:=sizeOf3
 v3:=zeroValue3
 t4:=underlying4
 a4:=isAgg4
 z4:=sizeOf4
 v4:=zeroValue4
 t5:=underlying5
 a5:=isAgg5
 z5:=sizeOf5
 v5:=zeroValue5
 t9:=underlying9
 a9:=isAgg9
 z9:=sizeOf9
 v9:=zeroValue9
 t20:=underlying20
 a20:=isAgg20
 z20:=sizeOf20
 v20:=zeroValue20
 t37:=underlying118
 a37:=isAgg118
 z37:=sizeOf118
 v37:=zeroValue118
 t46:=underlying333
 a46:=isAgg333
 z46:=sizeOf333
 v46:=zeroValue333
 t51:=underlying160
 a51:=isAgg160
 z51:=sizeOf160
 v51:=zeroValue160
 t53:=underlying78
 a53:=isAgg78
 z53:=sizeOf78
 v53:=zeroValue78
 t171:=underlying374
 a171:=isAgg374
 z171:=sizeOf374
 v171:=zeroValue374
 t173:=underlying376
 a173:=isAgg376
 z173:=sizeOf376
 v173:=zeroValue376
 t212:=underlying382
 a212:=isAgg382
 z212:=sizeOf382
 v212:=zeroValue382
 t213:=underlying383
 a213:=isAgg383
 z213:=sizeOf383
 t232:=underlying384
 a232:=isAgg384
 z232:=sizeOf384
 v232:=zeroValue384
 t233:=underlying385
 a233:=isAgg385
 z233:=sizeOf385
 v233:=zeroValue385
 g17:=kR
 g18:=kR
 g19:=kR
 i0:=kR
 i2:=kR
 i3:=kR
 i4:=kR
 i5:=kR
 i9:=kR
 i20:=kR
 i37:=kR
 i46:=kR
 i51:=kR
 i53:=kR
 i171:=kR
 i173:=kR
 i212:=kR
 i232:=kR
 i233:=kR
 m17:=kR
 m18:=kR
 m19:=by kernel_rfl }
def NL(i:Nat)(c:i<=1000000)(w)(h:Lib.TabIs prog w "internal/strconv.uint64pow10" .u64 Lib.pow10Tab):
  Ω 252 #[ϊ i] w λe w'=>∃s,e=ϱ (ϕ s)/\s.size<=21/\Kp [] w w':=by
 refine mR (Any.strconv_Itoa Xc (i:Int) oM oM w h) ?_;rintro w' ⟨b,os,rfl⟩;refine⟨_,rfl,by simpa [ByteArray.size] using Lib.itoa_length_le (i:Int) oM oM,?_⟩;exact⟨rfl,rfl,rfl,by simp[Sort.grow],λk a _=>by show((w.drewN b).heap++os)[k]?=_;rw[Array.getElem?_append_left (sU a)];rfl⟩
structure Kd where
 cap:Nat
 told:Int
 off:Int
 fr:Int
 to:Int
def Kd.quiet(κ:Kd):Prop:=κ.off=-1/\κ.to<=κ.fr
def Kd.up(κ:Kd):Kd:=⟨κ.cap,nx κ.told,κ.off,κ.fr,κ.to⟩
def Kd.qQ8{κ:Kd}:κ.up.quiet↔κ.quiet:=Iff.rfl
def AF(κ:Kd)(n C:Nat)(cache:Value)(calls writes:Int):Obj:=
 .cells #[.slice (some ⟨C,0,none⟩) n κ.cap,cache,.int .i64 calls,.int .i64 writes,.int .i64 κ.told,.int .i64 κ.off,.int .i64 κ.fr,.int .i64 κ.to] 114
variable {κ:Kd}
def QX(κ:Kd)(A:Nat)(calls:Int)(w:Ϣ)(e:Ending)(w':Ϣ):Prop:=
 (e=ϱ (ϐ false)/\w'=w.setCell (ϰ A 2) (ϊ (nx calls)))\/(¬κ.quiet/\e=ϱ (ϐ true)/\w'=(w.setCell (ϰ A 2) (ϊ (nx calls))).setCell (ϰ A 4) (ϊ (nx κ.told)))
def GZ(A n C:Nat)(cache)(calls q:Int)(w)(h:w.heap[A]?=some (AF κ n C cache calls q)):
  Ω 329 #[ϖ A] w (QX κ A calls w):=by
 let⟨cap,d,a,b,c⟩:=κ;have i:=Y h 2;have j:=Y h 4;have k:=Y h 5;have l:=Y h 6;have m:=Y h 7;simp at i j k l m;have r:=ρ h;have s:wrap64 (calls+1)=nx calls:=rfl;have t:wrap64 (d+1)=nx d:=rfl;have o:decide (0<=a)=true->¬(Kd.mk cap d a b c).quiet:=λh e=>by have:=of_decide_eq_true h;have:=e.1;simp at this;omega
 have p:decide (b<=calls)=true->decide (calls<c)=true->¬(Kd.mk cap d a b c).quiet:=λh g e=>by have:=of_decide_eq_true h;have:=of_decide_eq_true g;have:=e.2;simp at this;omega
 have f:=zh (n2 o p);cases h1:decide (0<=a)<;>cases g:decide (a<=calls)<;>cases h3:decide (b<=calls)<;>cases h4:decide (calls<c) <;>
 (go_enter func329,ntmps329
  go_wp2;go_ret
  first | exact Or.inl ⟨rfl,rfl⟩ | exact Or.inr ⟨f.1 h1,rfl,rfl⟩ | exact Or.inr ⟨f.2 h3 h4,rfl,rfl⟩)
structure Gl(w:Ϣ):Prop where
 tab:∃fr,w.heap[1]?=some (ϲ (Lib.pow10Tab.map λz=>Value.int .u64 z).toArray 382 fr)
 word:∃c fr s,w.heap[4]?=some (ϲ c 398 fr)/\c[8]?=some (ϕ s)
def DR:List TypeId:=[382,398]
def Gl.qM3{w w'}{S}(h:Gl w)(hK:Kp S w w')(f:∀k∈S,∀c t a,w.heap[k]?=some (ϲ c t a)->t∉DR):Gl w':=by
 let⟨a,d⟩:=h.tab;let⟨c,g,s,e,i⟩:=h.word;exact⟨⟨a,hK.heap d (λb=>f _ b _ _ _ d dC)⟩,⟨c,g,s,hK.heap e (λb=>f _ b _ _ _ e dC),i⟩⟩
def Gl.is{w}(h:Gl w):Lib.TabIs prog w "internal/strconv.uint64pow10" .u64 Lib.pow10Tab:=by
 let⟨c,a⟩:=h.tab;have b:prog.globalNamed "internal/strconv.uint64pow10"=some 1:=kR
 unfold Lib.TabIs World.var?;simp[b,a]
def Io(a:Kd)(e:Ending):Prop:=¬a.quiet/\∃p,e=.panicked (ioP p)
def DH:Value:=.iface 45 (.int .i64 8)
def WR(t)(w)(a:w.cell? (ϰ 4 8)=some (ϕ t))(b:4<w.heap.size):Ω 331 #[ϊ 8] w λe w'=>e=ϱ (ϕ t)/\w'=w:=by
 go_enter func331,ntmps331;go_wp2;go_ret;exact⟨rfl,rfl⟩
def qG9(p:Nat)(w):Ω 73 #[.iface 330 (ϖ p)] w λe w'=>e=.panicked (ioP p)/\w'=w:=by
 go_enter func73,ntmps73;go_wp2;exact⟨rfl,rfl,rfl⟩
def Jo(s)(w)(h:Gl w):Ω 212 #[ϕ s,DH] w λe w'=>(∃p,e=.panicked (ioP p))/\Kp [] w w':=by
 let⟨c,g,t,b,d⟩:=h.word;have a:=Y b 8;rw[d]at a;have:∀W:World,(method 513 45 (ϊ 8) "Error").run prog W=.ok (331,ϊ 8) W:=λ_=>by kernel_rfl
 unfold DH;go_enter func212,ntmps212
 go_wp2_with (go_at_call 331;refine(WR t w a (U b)).mono ?_;rintro e f ⟨rfl,rfl⟩)
 refine(qG9 _ _).mono ?_;rintro e f ⟨rfl,rfl⟩;go_wp2;exact⟨rfl,⟨_,rfl⟩,kF.alloc _⟩
def qB2(P:Program)(l:Nat)(R:Ending→World→Prop):Exit→Act→World→Prop
 | .panic chain,a,w=>a.defers=[]∧R (.panicked chain) w
 | e,a,w=>roundPost P l R e a w
def qB1{P:Program}{n l:Nat}{f:FuncId}{tmps}{x o:Code}{w}{R:Ending->ϯ}(L:∃fn,P.funcs[f]?=some fn)
  (h:x.wpIn (Fence.wide.inRound l) n P (Exit.then (λy E=>∃B,(Instr.beginRound l).run P E=.ok () B/\o.wpIn (Fence.wide.inRound l) n P (qB2 P l R) y B) (λ_ _ _=>False)) { tmps:=tmps,defers:=[] } w):
  RoundIn Fence.wide n P l f tmps x o w R:=by
 refine⟨trivial,λc cs O=>?_⟩
 let b:Frame:={ (default:Frame) with fn:=f,kind:=.normal,roundOf:=some l }
 have G:Frame.round l f tmps x o .normal=b.atR { tmps:=tmps,defers:=[] } [.code x,.beginRound,.code o]:=by simp[Frame.round,Frame.atR,b]
 let⟨e,y,E,p,C⟩:=h b [.beginRound,.code o] (c::cs) rfl trivial (room_wide _);rw[<-G]at C;have r:∀{m A:Machine},step P m=.next A->StepsIn (Machine.fenced P (Fence.wide.inRound l)) P m A:=λ{m A} h=>.one (fenced_wide P m) h
 cases e with
 | normal=>
  let⟨B,I,H⟩:=p;have u:=StepsIn.trans C (r (stepR_beginRound (b:=b) (a:=y) (k:=[.code o]) (cs:=c::cs) rfl I));let⟨F,N,M,q,s⟩:=H b [] (c::cs) rfl trivial (room_wide _)
  cases F with
  | normal=>
   let⟨v,j,g,d⟩:=q;exact⟨.returned v,j,d,u.trans (StepsIn.trans s (r (stepR_round_end rfl rfl g)))⟩
  | ret=>
   let⟨v,j,g,d⟩:=q;let⟨D,i⟩:=s.2 rfl;exact⟨.returned v,j,d,u.trans (StepsIn.trans i (r (stepR_round_ret rfl rfl g)))⟩
  | exit id=>
   let⟨v,j,g,d⟩:=q;let⟨D,z,i⟩:=s.2 rfl rfl;exact⟨.returned v,j,d,u.trans (StepsIn.trans i (r (stepR_round_exit rfl rfl z g)))⟩
  | goto t=>
   let⟨v,j,g,d⟩:=q;let⟨D,z,i⟩:=s.2 rfl rfl;exact⟨.returned v,j,d,u.trans (StepsIn.trans i (r (stepR_round_goto rfl rfl z g)))⟩
  | panic chain=>
   let⟨K,d⟩:=q;let⟨S,i⟩:=s;exact⟨.panicked chain,M,d,u.trans (StepsIn.trans i (r (step_leave_panicked ⟨rfl,K,L⟩)))⟩
  | outgrown=>exact q.elim
 | exit id=>exact p.elim
 | goto t=>exact p.elim
 | ret=>exact p.elim
 | panic chain=>exact p.elim
 | outgrown=>exact p.elim
def wpV(P:Program)(c:Code)(Q:Exit->Act->ϯ)(a:Act)(w:Ϣ):Prop:=
 ∀(b:Frame)(k:List Item)(cs:List Frame),b.roundOf=none->(∃fn,P.funcs[b.fn]?=some fn)->∃e a' w',Q e a' w'/\ArrivesIn (Machine.fenced P Fence.wide) P (lone (b.atR a (.code c::k)) cs w) b k cs e a' w'
section
variable {P:Program} {n:Nat} {Q:Exit→Act→ϯ} {a:Act} {w:Ϣ}
def GA{c:Code}(h:c.wpIn Fence.wide n P Q a w):wpV P c Q a w:=λb k cs d _=>h b k cs d trivial (room_wide _)
def GB{x y:Code}(h:wpV P x (Exit.then (wpV P y Q) Q) a w):wpV P (.seq x y) Q a w:=by
 intro b k cs j m;let⟨e,g,i,f,d⟩:=h b (.code y::k) cs j m;have c:StepsIn (Machine.fenced P Fence.wide) P (lone (b.atR a (.code (.seq x y)::k)) cs w) _:=.one (fenced_wide P _) stepR_seq
 cases e with
 | normal=>
  let⟨p,o,s,r,q⟩:=f b k cs j m;exact⟨p,o,s,r,.of_steps (c.trans d) q⟩
 | exit id=>exact⟨_,g,i,f,.of_steps c (.pass (x:=.code y) rfl (λ_ _=>.inl sM) d)⟩
 | goto l=>exact⟨_,g,i,f,.of_steps c (.pass (x:=.code y) rfl (λ_ _=>.inl sM) d)⟩
 | ret=>exact⟨_,g,i,f,.of_steps c (.pass (x:=.code y) rfl (λ_ _=>.inl sM) d)⟩
 | panic ch=>exact⟨_,g,i,f,.of_steps c (.pass (x:=.code y) rfl (λ_ _=>.inl sM) d)⟩
 | outgrown=>exact⟨_,g,i,f,.of_steps c (.pass (x:=.code y) rfl (λ_ _=>.inl sM) d)⟩
def qK9{id:Nat}{c:Code}(h:wpV P c (λe a w=>(match e with | .exit _=>False | .goto _=>False | _=>True)/\Q e a w) a w):wpV P (.block id c) Q a w:=by
 intro b k cs f g;let⟨e,a₁,w₁,⟨hx,hq⟩,harr⟩:=h b (.inBlock id::k) cs f g;have d:StepsIn (Machine.fenced P Fence.wide) P (lone (b.atR a (.code (.block id c)::k)) cs w) _:=.one (fenced_wide P _) stepR_block
 cases e with
 | normal=>exact⟨.normal,a₁,w₁,hq,d.trans (StepsIn.trans harr (.one (fenced_wide P _) stepR_inBlock))⟩
 | exit id'=>exact hx.elim
 | goto l=>exact hx.elim
 | ret=>exact⟨_,a₁,w₁,hq,.of_steps d harr⟩
 | panic ch=>exact⟨_,a₁,w₁,hq,.of_steps d harr⟩
 | outgrown=>exact⟨_,a₁,w₁,hq,.of_steps d harr⟩
def qL0{g:Operand}{ps:Array Tmp}{j m:Code}
  (h:∀y,(∃x,P.funcs[y]?=some x)->∃(l:Nat)(i:List Deferred)(s:Ϣ)(d:Deferred)(t:Ϣ)(f:FuncId)(args:ϧ)(u:Ϣ),
   (Instr.enterLoop y a.tmps ps j m none).run P w=.ok (l,i) s/\(resolve a.eval (rangeCall g l) 0).run P s=.ok d t/\(invoke d.target d.args).run P t=.ok (.enter f args) u/\
   CallsIn Fence.wide (n-1) P f args u (rangePost Fence.wide n P l Q { a with defers:=i++a.defers })):
  wpV P (.rangeFunc g ps j m) Q a w:=by
 intro b k cs C R;let⟨l,i,s,d,t,f,args,u,z,O,N,X,L⟩:=h b.fn R;rw[<-C]at z;have p:StepsIn (Machine.fenced P Fence.wide) P _ _:=.one (fenced_wide P _) (stepR_rangeFunc (P:=P) (b:=b) (a:=a) (k:=k) (cs:=cs) (w:=w) z O N);let⟨e,T,W,o,r,Z,B⟩:=L (b.atR { a with defers:=i++a.defers } (.inRangeFunc l::k)::cs) (room_wide _)
 cases e with
 | outgrown=>
  let⟨H,S,q⟩:=o;exact⟨.outgrown,H,S,q,.inr (Outgrown.of_steps p.steps r)⟩
 | returned v=>
  let⟨D,F,M,A⟩:=o;have E:StepsIn (Machine.fenced P Fence.wide) P (lone (b.atR a (.code (.rangeFunc g ps j m)::k)) cs w) (lone (b.atR { a with defers:=i++a.defers } ((D.map Item.code).toList++k)) cs F):=by
   refine p.trans (StepsIn.trans r (.head (fenced_wide P _) ?_ (.one (fenced_wide P _) (stepR_endRangeFunc M))));rw[<-finish_atR_inRangeFunc l v];exact step_leave_returned B
  cases D with
  | none=>exact⟨.normal,_,F,A,E⟩
  | some c=>
   let⟨I,G,V,q,K⟩:=A b k cs C trivial (room_wide _);exact⟨I,G,V,q,.of_steps E K⟩
 | panicked chain=>
  refine⟨.panic chain,_,T,o,.inRangeFunc l::k,p.trans (StepsIn.trans r (.one (fenced_wide P _) ?_))⟩;rw[<-Frame.raise_atR];exact step_leave_panicked B
def SD{f:FuncId}{fn:Func}{c:Code}{args}{R:Ending->ϯ}(o:P.funcs[f]?=some fn)(x:fn.body=some c)
  (h:wpV P c (bodyPostM Fence.wide n P fn R) { tmps:=args++Array.replicate (fn.ntmps-args.size) undef,defers:=[] } w):Calls P f args w R:=by
 refine(callsIn_wide (n:=n)).1 ⟨trivial,λcs t=>?_⟩
 let b:Frame:={ (default:Frame) with fn:=f,kind:=.normal,roundOf:=none }
 have y:Frame.enter P f args .normal=b.atR { tmps:=args++Array.replicate (fn.ntmps-args.size) undef,defers:=[] } [.code c]:=by simp[Frame.enter,Frame.atR,o,x,b]
 let⟨e,d,w',g,m⟩:=h b [] cs rfl ⟨fn,o⟩;rw[<-y]at m
 cases e with
 | normal=>
  let⟨i,s,j,k,r,p,q⟩:=leaves_stepsInM d.defers .returning w' { b.atR d [] with mode:=.returning } cs rfl rfl rfl o rfl trivial t g;exact⟨i,s,j,k,ComesIn.of_steps (StepsIn.trans m (.one (fenced_wide P _) (stepR_end rfl))) r,p,q⟩
 | ret=>
  let⟨v,u⟩:=m.1 rfl;let⟨i,s,j,k,r,p,q⟩:=leaves_stepsInM d.defers .returning w' { b.atR d v with mode:=.returning } cs rfl rfl rfl o rfl trivial t g;exact⟨i,s,j,k,ComesIn.of_steps u r,p,q⟩
 | panic chain=>
  let⟨v,u⟩:=m;let⟨i,s,j,k,r,p,q⟩:=leaves_stepsInM d.defers (.panicking chain) w' { b.atR d v with mode:=.panicking chain } cs rfl rfl rfl o rfl trivial t g;exact⟨i,s,j,k,ComesIn.of_steps u r,p,q⟩
 | exit id=>exact g.elim
 | goto l=>exact g.elim
 | outgrown=>exact⟨.outgrown,w',b,g,m.resolve_left (by simp[b]),rfl,trivial⟩
end
open Go.Maps (Keyed)
section
attribute [local go_sem] Oper.semAt_some
structure Come(D:Ϫ)(left:Lit->Bool)(ks:List Int):Prop where
 sub:∀kl,left kl=true->Maps.has D kl=true
 has:∀x∈ks,Maps.has D (χ x)=true/\keyOf prog 78 (.int .u64 x)=some (χ x)
 all:∀kl,Maps.has D kl=true->left kl=true\/∃x∈ks,kl=χ x
def Come.start(D):Come D (Maps.has D) []:=⟨λ_ h=>h,λx hx=>(by cases hx),λ_ h=>Or.inl h⟩
def Come.step{D}{left:Lit->Bool}{ks:List Int}(h:Come D left ks){x:Int}(f:left (χ x)=true)(b:keyOf prog 78 (.int .u64 x)=some (χ x)):Come D (λz=>left z && !z.sameKey (χ x)) (ks++[x]):=by
 refine⟨λkl b=>h.sub kl (by simp at b;exact b.1),λy a=>?_,λkl b=>?_⟩
 .rcases mA a with a|a
  .exact h.has y a
  .rw[mS a];exact⟨h.sub _ f,b⟩
 .rcases h.all kl b with d|⟨y,a,e⟩
  .by_cases c:kl.sameKey (χ x)=true
   .exact Or.inr ⟨x,sM,WideAt.sameKey_eq c⟩
   .exact Or.inl (by simp[d,c])
  .exact Or.inr ⟨y,by simp[a],e⟩
def KeysU(D:Ϫ)(ks:List Int):Prop:=(∀x∈ks,Maps.has D (χ x)=true/\keyOf prog 78 (.int .u64 x)=some (χ x))/\(∀kl,Maps.has D kl=true->∃x∈ks,kl=χ x)/\ks.length<=Maps.size D
def Xn(n:Nat)(hn:1<=n)(l h M V nn:Nat)(D)(Jj:List Int->ϯ)
  (z:∀g x W,Jj g W->g.length<Maps.size D->YieldAt Fence.wide (n-1) prog l #[.int .u64 x] W λe a=>e=ϱ (ϐ true)/\Jj (g++[x]) a/\KeepsWalks W a)
  (W) (i:AbidesFrom W.heap.size Jj) (hm:W.cell? (ϰ h 0)=some (.map (some M))) (H:RM W V M nn D) (s:Jj [] W):
  CallsIn Fence.wide n prog 239 #[.func (.yield l) #[] #[],ϖ h] W λe a=>(∃v,e=ϱ v)/\∃ks:List Int,KeysU D ks/\Jj ks a:=by
 refine callsIn_of_wp func239 rfl trivial ?_ rfl;simp[ntmps239,List.size_toArray,lC,List.length_nil,Nat.reduceAdd,Nat.reduceSub,Array.replicate_succ,Array.replicate_zero,List.push_toArray,aT,nA,cA]
 gi_wp2_with (first
  | (gi_at_range;apply wpListIn_range_own _ rfl _ 167 rfl 78 89 CH Gd _ M nn _ rfl H;intro N I A aa)
  | gi_in)
 go_frame
 gi_loopw [3] (λ_ wr=>∃(left:Lit->Bool)(cnt:Nat)(ks:List Int),wr.ranges prog 78 (EL V) M (ϳ W) nn D left cnt/\ks.length+cnt<=Maps.size D/\Come D left ks/\Jj ks wr)
  (λ_ wr=>wr.rangeLeft M (ϳ W))
 case atStart=>
  exact⟨_,_,[],I,sM,Come.start D,i [] W N none s A (λr e=>by cases e)⟩
 case round=>
  let⟨left,cnt,ks,f,X,b,j⟩:=hrel
  gi_wp2_with (first
   | (gi_at_next;refine wpListIn_next_ranges _ rfl _ rfl 78 CH (EL V) (.int .u64) (λv:Value=>v) (λkey kl d=>by let⟨x,hx,_⟩:=Maps.keyOf_int_inv underlying78 d;exact⟨x,hx⟩) (λv y L=>⟨v,rfl⟩) M (ϳ W) nn _ _ _ rfl f ?_ ?_)
   | gi_in)
  .intro T E
   gi_wp2
   go_end0
   exact⟨⟨_,rfl⟩,ks,⟨b.has,λkl d=>(b.all kl d).resolve_left (by simp[E]),oM⟩,j⟩
  .intro x c kl yd yp o p k F L S K G B ab Z;obtain⟨x',q,rfl,_⟩:=Maps.keyOf_int_inv underlying78 k;cases q;have t:=i ks wr o (some (ϳ W)) j B (λr e=>by cases e;exact⟨lR,f.iter_walk⟩);let⟨R,ac,P,Q,hy,w⟩:=z ks x o t oM
   gi_wp2
   apply w.mono;rintro e O ⟨rfl,u,C⟩
   gi_wp2
   have m:=K.of_walks C
   go_roundw
   case rel=>exact⟨_,p,ks++[x],m,sO,b.step F k,u⟩
   case measure=>rw[m.left_eq,f.left_eq];exact G
end
def YH(x:Int)(w):Ω 296 #[.int .u64 x] w λe w'=>e=ϱ (ϐ false)/\w'=w:=by
 go_enter func296,ntmps296;go_wp2;go_ret;exact⟨rfl,rfl⟩
def XQ(x y:Int)(w):Ω 283 #[.int .u64 x,.int .u64 y] w λe w'=>e=ϱ (ϐ (decide (x<y)))/\w'=w:=by
 go_enter func283,ntmps283;go_wp2_with fail;refine(YH x w).mono ?_;rintro e a ⟨rfl,rfl⟩;go_wp2;go_ret;exact⟨rfl,rfl⟩
def XP(x:Int)(a:0<=x)(b:x<12)(w):Ω 287 #[.int .u64 x] w λe w'=>(∃n,e=ϱ (ϊ n))/\w'=w:=by
 have c:x=0\/x=1\/x=2\/x=3\/x=4\/x=5\/x=6\/x=7\/x=8\/x=9\/x=10\/x=11:=oM
 rcases c with rfl|rfl|rfl|rfl|rfl|rfl|rfl|rfl|rfl|rfl|rfl|rfl <;>
 .clear a b;go_enter func287,ntmps287;go_wp2;go_ret;exact⟨⟨_,rfl⟩,rfl⟩
def Oz(x:Int)(a:0<=x)(b:x<12)(w):Ω 270 #[.int .u64 x] w λe w'=>(∃n,e=ϱ (ϊ n))/\w'=w:=by
 go_enter func270,ntmps270;go_wp2_with fail;refine(XP x a b w).mono ?_;rintro e c ⟨⟨n,rfl⟩,rfl⟩;go_wp2;go_ret;exact⟨⟨_,rfl⟩,rfl⟩
def RowU(w:Ϣ)(g:Nat)(ks:List Int)(c:Nat):Prop:=∃cur,w.heap[g]?=some (ϲ cur 78)/\cur.size=c/\∀i (h:i<ks.length),cur[i]?=some (.int .u64 ks[i])
def El(w:Ϣ)(g:Nat)(ks:List Int)(c:Nat)(W:Ϣ):Prop:=∃a,a.Perm ks/\RowU W g a c/\Kp [g] w W
def Xa(g b:Nat)(ks:List Int)(w)(v:RowU w g ks b)(F:ks.length<=b)(E:ks.length<=12):
  Ω 277 #[.slice (some (ϰ g 0)) ks.length b,ϊ 0,ϊ ks.length] w λe w'=>e=ϱ (.tuple #[])/\El w g ks b w':=by
 let⟨k,c⟩:=eX ks.length;rw[<-c];have z:=zh c;have C:=zh v;rw[<-c]at F E;clear c v;go_enter func277,ntmps277;go_wp2_with fail
 go_loopw [6] (λi wr=>∃(j:Nat),1<=j/\j<=13/\i=.int .i64 j/\Hid (El w g ks b wr)) (λi _=>(14-intOf i).toNat)
 case atStart=>exact⟨1,oM,oM,rfl,ks,List.Perm.refl _,C,Kp.refl _ _⟩
 case round=>
  obtain⟨j,H,I,rfl,r⟩:=hrel;by_cases K:j<k
  .have:(j:Int)<(k:Int):=oM
   go_wp2_with fail
   go_loopw [7] (λi wr=>∃(m:Nat),m<=j/\i=.int .i64 m/\Hid (El w g ks b wr)) (λi _=>(intOf i).toNat)
   case atStart=>exact⟨j,lR,rfl,r⟩
   case round=>
    obtain⟨m,M,rfl,s⟩:=hrel;by_cases L:0<m
    .have:decide ((0:Int)<(m:Int))=true:=sO
     let⟨a,hp,⟨cur,hc,hsz,hcur⟩,hK⟩:=s.out;have:=hp.length_eq;have:=z.out;have x:=Y hc m;rw[hcur m oM]at x;have y:=Y hc (m-1);rw[hcur (m-1) oM]at y;have:wrap64 ((m:Int)-1)=((m-1:Nat):Int):=by simp only[wrap64];omega
     have o:Hid (w.heap.size<=w.heap.size/\Ϙ wr g (ϲ cur 78)):=⟨lR,hc⟩;have:=ρ hc m;have:=ρ hc (m-1);have:=U hc;let⟨A,f⟩:=eX (a[m]'oM);let⟨B,h⟩:=eX (a[m-1]'oM);rw[<-f]at x;rw[<-h]at y;have l:Hid (A=a[m]'oM/\B=a[m-1]'oM):=⟨f,h⟩;have n:=zh hcur;have p:=zh hK;have q:=zh hp;clear hc hcur hK f h;go_wp2_with fail
     go_quiet (first | (go_at_call 283;refine Calls.quiet_of_same (XQ _ _ _)))
     by_cases G:A<B
     .go_wp2_with fail
      go_region
      all_goals go_wp2_with fail
      refine⟨⟨m-1,oM,by congr 1;omega,?_⟩,by simp[intOf];omega⟩;refine⟨(a.set m B).set (m-1) A,?_,⟨(cur.setIfInBounds m (.int .u64 B)).setIfInBounds (m-1) (.int .u64 A),ξ (ξ (w:=wr.drewN (nq+1)) o.2 m (.int .u64 B)) (m-1) (.int .u64 A),by simp[hsz],?_⟩,?_⟩
      .rw[l.out.1,l.out.2];exact(List.set_set_perm oM oM).trans q
      .intro i u;simp only[List.length_set]at u;have D:=n.out i u;rw[Array.getElem?_setIfInBounds,Array.getElem?_setIfInBounds,List.getElem_set,List.getElem_set];by_cases d:m-1=i
       .subst d;simp[hsz];omega
       .by_cases t:m=i
        .subst t;simp[hsz,d];omega
        .simp[d,t,D]
      .exact (((p.drewN _).sc _).sc _)
     .go_wp2_with fail;refine⟨⟨j+1,oM,oM,by go_num,?_⟩,by simp[intOf];omega⟩;exact⟨a,q,⟨cur,o.2,hsz,n⟩,p.drewN _⟩
    .obtain rfl:m=0:=oM
     have:decide ((0:Int)<((0:Nat):Int))=false:=sM
     go_wp2_with fail
     go_quiet (fail)
     go_wp2_with fail;let⟨a,hp,⟨cur,hc,hsz,hcur⟩,hK⟩:=s.out;refine⟨⟨j+1,oM,oM,by go_num,?_⟩,by simp[intOf];omega⟩;exact⟨a,hp,⟨cur,hc,hsz,hcur⟩,hK.drewN _⟩
  .have:¬(j:Int)<(k:Int):=oM
   go_wp2
   go_end0
   exact⟨rfl,r⟩
def ZN(g c:Nat)(ks:List Int)(n:Int)(w)(k:RowU w g ks c)(j:ks.length<=c)(h:ks.length<=12):
  Ω 269 #[.slice (some (ϰ g 0)) ks.length c,ϊ 0,ϊ ks.length,ϊ n] w λe w'=>e=ϱ (.tuple #[])/\El w g ks c w':=by
 obtain⟨d,f⟩:=eX ks.length;have l:Hid (Ω 277 #[.slice (some (ϰ g 0)) d c,ϊ 0,ϊ d] w λe w'=>e=ϱ (.tuple #[])/\El w g ks c w'):=by rw[f];exact Xa g c ks w k j h
 rw[<-f];rw[<-f]at j h;clear f k;have:wrap64 ((d:Int)-0)=(d:Int):=by simp only[wrap64];omega
 have:(d:Int)<=12:=oM
 go_enter func269,ntmps269;go_wp2_with fail
 go_loopw [1,2] (λa b wr=>a=.int .i64 0/\b=.int .i64 d/\wr=w) (λ_ _ _=>0)
 case atStart=>exact⟨rfl,rfl,rfl⟩
 case round=>
  obtain⟨rfl,rfl,rfl⟩:=hrel;go_wp2_with fail;refine(show Calls _ _ _ _ _ from l).mono ?_;rintro e o ⟨rfl,i⟩;have m:=zh i;clear i;go_wp2;refine bodyPost_ret (results_none results269 _ _ _) rfl ?_;exact⟨rfl,m⟩
def qE7(g a:Nat)(ks:List Int)(w)(i:RowU w g ks a)(h:ks.length<=a)(l:ks.length<12):
  Ω 238 #[.slice (some (ϰ g 0)) ks.length a] w λe w'=>e=ϱ (.tuple #[])/\El w g ks a w':=by
 obtain⟨b,c⟩:=eX ks.length;have j:Hid (∀d:Int,Ω 269 #[.slice (some (ϰ g 0)) b a,ϊ 0,ϊ b,ϊ d] w λe w'=>e=ϱ (.tuple #[])/\El w g ks a w'):=λd=>by rw[c];exact ZN g a ks d w i h oM
 rw[<-c];rw[<-c]at h l;clear c i;have:IntKind.u64.wrap (b:Int)=(b:Int):=by rw[IntKind.wrap_u64];omega
 go_enter func238,ntmps238;go_wp2_with fail;refine(Oz (b:Int) oM oM w).mono ?_;rintro e m ⟨⟨n,rfl⟩,rfl⟩;go_wp2_with fail;refine(show Calls _ _ _ _ _ from j n).mono ?_;rintro e o ⟨rfl,f⟩;have k:=zh f;clear f;go_wp2
 go_end0
 exact⟨rfl,k⟩
def qE6(w):Ω 238 #[.slice none 0 0] w λe w'=>e=ϱ (.tuple #[])/\w'=w:=by
 have c:Hid (Ω 277 #[.slice none 0 0,ϊ 0,ϊ 0] w λe w'=>e=ϱ (.tuple #[])/\w'=w):=by
  show Calls _ _ _ _ _;go_enter func277,ntmps277;go_wp2_with fail
  go_loopw [6] (λi wr=>i=.int .i64 1/\wr=w) (λi _=>0)
  case atStart=>exact⟨rfl,rfl⟩
  case round=>
   obtain⟨rfl,rfl⟩:=hrel;go_wp2
   go_end0
   exact⟨rfl,rfl⟩
 have f:Hid (∀d:Int,Ω 269 #[.slice none 0 0,ϊ 0,ϊ 0,ϊ d] w λe w'=>e=ϱ (.tuple #[])/\w'=w):=by
  intro d;go_enter func269,ntmps269;go_wp2_with fail
  go_loopw [1,2] (λa b wr=>a=.int .i64 0/\b=.int .i64 0/\wr=w) (λ_ _ _=>0)
  case atStart=>exact⟨rfl,rfl,rfl⟩
  case round=>
   obtain⟨rfl,rfl,rfl⟩:=hrel;go_wp2_with fail;refine(show Calls _ _ _ _ _ from c.out).mono ?_;rintro e g ⟨rfl,rfl⟩;go_wp2;refine bodyPost_ret (results_none results269 _ _ _) rfl ?_;exact⟨rfl,rfl⟩
 clear c;go_enter func238,ntmps238;go_wp2_with fail;refine(Oz 0 oM oM w).mono ?_;rintro e g ⟨⟨n,rfl⟩,rfl⟩;go_wp2_with fail;refine(show Calls _ _ _ _ _ from f.out n).mono ?_;rintro e h ⟨rfl,rfl⟩;go_wp2
 go_end0
 exact⟨rfl,rfl⟩
end Go.Proofs.YtdohpenfkdckiaaGreatDoor
