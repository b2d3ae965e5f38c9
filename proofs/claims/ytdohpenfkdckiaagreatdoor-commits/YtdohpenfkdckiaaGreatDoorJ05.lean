import Derived.Test.YtdohpenfkdckiaaGreatDoorJ04
import Derived.Lib.AppendZerosOnto
import Derived.Lib.SliceRun
import Derived.Laws.AppendOwnNone
set_option linter.all false
set_option maxRecDepth 100000
set_option maxHeartbeats 20000000
namespace Go.Proofs.YtdohpenfkdckiaaGreatDoor
open Go.Proofs.Tryz
open Go.RowKit
def Both{α β:Type}(R:α→β→Prop)(a:List α)(b:List β):Prop:=a.length=b.length∧∀ i (h:i<a.length) (h':i<b.length),R a[i] b[i]
theorem Both.mono{α d:Type}{R c:α->d->Prop}{a:List α}{b:List d}(h:Both R a b)(e:∀ x y,R x y->c x y):Both c a b:=⟨h.1,λi h1 h2=>e _ _ (h.2 i h1 h2)⟩
theorem Both.take{α c:Type}{R:α->c->Prop}{a:List α}{b:List c}(h:Both R a b)(k:Nat):Both R (a.take k) (b.take k):=
 ⟨by simp[h.1],λi d e=>by simp only[List.getElem_take];exact h.2 i (by simp at d;omega) (by simp at e;omega)⟩
theorem Both.drop{α c:Type}{R:α->c->Prop}{a:List α}{b:List c}(h:Both R a b)(k:Nat):Both R (a.drop k) (b.drop k):=
 ⟨by simp[h.1],λi d e=>by simp only[List.getElem_drop];exact h.2 _ (by simp at d;omega) (by simp at e;omega)⟩
theorem Both.append{α g:Type}{R:α->g->Prop}{a c:List α}{b d:List g}(h:Both R a b)(e:Both R c d):Both R (a++c) (b++d):=
 ⟨by simp[h.1,e.1],λi j k=>by
  have l:=h.1;by_cases f:i<a.length
  .rw[gL f,gL oM];exact h.2 i f oM
  .rw[gR oM,gR oM];simp only[l];exact e.2 _ (by simp at j;omega) (by simp at k;omega)⟩
theorem Both.map_eq{α c d:Type}{R:α->c->Prop}{a:List α}{b:List c}{f:α->d}{g:c->d}(h:Both R a b)(k:∀ x y,R x y->f x=g y):a.map f=b.map g:=by
 refine List.ext_getElem (by simp[h.1]) λi e j=>?_;simp only[List.getElem_map];exact k _ _ (h.2 i (by simpa using e) (by simpa using j))
def RLof{X:Type}(N:Nat→X→Prop)(O:Nat→Int→X→Prop)(h:HL)(l:Lnk X):Prop:=
 h.key=l.key∧match l.ref with
  | none=>h.b=0∧h.s=0∧∃ q,h.p=some q∧N q l.sub
  | some (b,s)=>h.b=b∧h.s=s∧h.p=none∧O b s l.sub
def zV1{X:Type}(N:Nat→X→Prop)(O:Nat→Int→X→Prop)(w:World)(v:Value)(ls:List (Lnk X)):Prop:=
 ∃ hs:List HL,Slc w 87 4 v hs.length (qA7 hs)∧Both (RLof N O) hs ls
abbrev qE5:Type:=(n:Nat)→Nat→Int→Tn n→Prop
def RN(O:qE5):(n:Nat)→World→Nat→Tn n→Prop
 | 0,w,q,t=>∃ vp,w.heap[q]?=some (ι 0 vp (.slice none 0 0))∧Slc w 185 2 vp (prs t).length (qA3 (prs t))
 | n+1,w,q,t=>∃ vl,w.heap[q]?=some (ι ((n+1:Nat):Int) (.slice none 0 0) vl)∧zV1 (RN O n w) (O n) w vl (η t)
abbrev RL(O:qE5)(n:Nat)(w:World)(h:HL)(l:Lnk (Tn n)):Prop:=RLof (RN O n w) (O n) h l
abbrev RLs(O:qE5)(n:Nat)(w:World)(v:Value)(ls:List (Lnk (Tn n))):Prop:=zV1 (RN O n w) (O n) w v ls
theorem RLof.mono{X:Type}{N f:Nat->X->Prop}{O g:Nat->Int->X->Prop}{h}{l:Lnk X}(i:RLof N O h l)(j:∀ q,N q l.sub->f q l.sub)(k:∀ b s,O b s l.sub->g b s l.sub):RLof f g h l:=by
 refine⟨i.1,?_⟩;have:=i.2
 cases hl:l.ref with
 | none=>
  rw[hl] at this;obtain⟨a,c,q,d,e⟩:=this;exact⟨a,c,q,d,j q e⟩
 | some x=>
  rw[hl] at this;obtain⟨a,c,d,e⟩:=this;exact⟨a,c,d,k _ _ e⟩
def qF5:List TypeId:=[213,185,87]
theorem Apt.sub{w}{S}{Ts a:List TypeId}(h:Apt w S Ts)(b:∀ t∈a,t∈Ts):Apt w S a:=λk hk c t fr e hm=>h k hk c t fr e (b t hm)
theorem RN.keep{O:qE5}{S}{w w'}(hK:Kp S w w')(b:Apt w S qF5):∀ (n:Nat) (q:Nat) (t),RN O n w q t->RN O n w' q t
 | 0,q,t,h=>by
  obtain⟨i,a,c⟩:=h;exact⟨i,hK.heap a (λd=>b q d _ _ _ a dC),c.keep hK (b.sub dC)⟩
 | n+1,q,t,h=>by
  obtain⟨g,a,f,c,e⟩:=h;exact⟨g,hK.heap a (λd=>b q d _ _ _ a dC),f,c.keep hK (b.sub dC),e.mono λx y hr=>hr.mono (λq hq=>RN.keep hK b n q _ hq) (λ_ _ h=>h)⟩
theorem RLs.keep{O:qE5}{S}{w w'}{n:Nat}{v}{ls}(h:RLs O n w v ls)(hK:Kp S w w')(a:Apt w S qF5):RLs O n w' v ls:=by
 obtain⟨e,b,c⟩:=h;exact⟨e,b.keep hK (a.sub dC),c.mono λx y d=>d.mono (λq hq=>RN.keep hK a n q _ hq) (λ_ _ h=>h)⟩
theorem RL.keep{O:qE5}{S}{w w'}{n:Nat}{h}{l}(c:RL O n w h l)(hK:Kp S w w')(a:Apt w S qF5):RL O n w' h l:=c.mono (λq b=>RN.keep hK a n q _ b) (λ_ _ h=>h)
def qK7:Array Value:=#[.string ⟨#[]⟩,.int .i64 0,.int .u64 0,.pointer none]
def zJ0(w:World)(S:List Nat):Prop:=∀ k∈S,∀ c t fr,w.heap[k]?=some (.cells c t fr)→t ∉ qF5∨(t=87∧c=qK7)
theorem xY4{α d:Type}{R:α->d->Prop}{a:List α}{b:List d}(h:Both R a b)(c:1<=a.length):R (a[0]'c) (b[0]'(by rw[<-h.1];exact c)):=h.2 0 _ _
theorem kK0{X:Type}{N:Nat->X->Prop}{O:Nat->Int->X->Prop}(G:∀ (b:Nat) (s:Int) (t:X),O b s t->1<=b){S}{w w'}(hK:Kp S w w')(B:zJ0 w S){v}{hs}{ls:List (Lnk X)}(h:Slc w 87 4 v hs.length (qA7 hs))(o:Both (RLof N O) hs ls):Slc w' 87 4 v hs.length (qA7 hs):=by
 refine⟨h.len,?_⟩;rcases h.val with h|⟨g,m,cap,cur,y,z,d,A,n,e⟩
 .exact .inl h
 .refine .inr ⟨g,m,cap,cur,y,z,d,A,hK.heap n (λC=>?_),e⟩;rcases B g C _ _ _ n with l|⟨_,l⟩
  .exact l dC
  .obtain⟨p,r,_,u⟩:=qV9 (ls:=hs) (i:=0) d;have a:=e _ _ p;have f:=e _ _ r;have j:=e _ _ u;rw[l] at a f j;have D:m=0:=by
    match m,a with
    | 0,_=>rfl
    | 1,a=>simp[qK7] at a
    | 2,a=>simp[qK7] at a
    | 3,a=>simp[qK7] at a
    | k+4,a=>simp[qK7] at a
   subst D;simp[qK7] at f j;have F:=xY4 o d;obtain⟨_,c⟩:=F
   cases hl:(ls[0]'(by rw[<-o.1];exact d)).ref with
   | none=>
    rw[hl] at c;obtain⟨_,_,q,E,_⟩:=c;simp[HL.ptr,E] at j
   | some x=>
    rw[hl] at c;have:=G _ _ _ c.2.2.2;rw[c.1] at f;omega
theorem RN.keepZ{O:qE5}(r:∀ (n b:Nat) (s:Int) (t),O n b s t->1<=b){S}{w w'}(hK:Kp S w w')(j:zJ0 w S):∀ (n:Nat) (q:Nat) (t),RN O n w q t->RN O n w' q t
 | 0,q,t,h=>by
  obtain⟨E,f,i⟩:=h;have o:∀ (k:Nat) (c:Array Value) (t:TypeId) (d:Nat × Nat),Ϙ w k (.cells c t d)->t∈qF5->t≠87->k ∉ S:=λk c t d e ht hne l=>by
   rcases j k l c t d e with a|⟨a,_⟩
   .exact a ht
   .exact hne a
  refine⟨E,hK.heap f (o q _ _ _ f dC dC),i.len,?_⟩;rcases i.val with h|⟨g,C,cap,cur,d,v,z,A,p,B⟩
  .exact .inl h
  .exact .inr ⟨g,C,cap,cur,d,v,z,A,hK.heap p (o g _ _ _ p dC dC),B⟩
 | n+1,q,t,h=>by
  obtain⟨D,f,u,i,m⟩:=h;refine⟨D,hK.heap f (λl=>?_),u,kK0 (r n) hK j i m,m.mono λx y hr=>hr.mono (λq hq=>RN.keepZ r hK j n q _ hq) (λ_ _ h=>h)⟩;rcases j q l _ _ _ f with a|⟨a,_⟩
  .exact a dC
  .cases a
theorem xI3{α:Type}(low:α->ByteArray)(key)(l:List (List α)):(links low key l).length=l.length:=by
 cases l<;>simp[links]
theorem xI2{α:Type}(low:α->ByteArray)(key)(l:List (List α)):links low key l=(qD4 low key l).map λx=>⟨x.1,none,x.2⟩:=by
 cases l<;>simp[links,qD4]
theorem jY2(x)(w)(d:∃ b n c,x=.slice b n c):
  Calls prog 182 #[x] w λe a=>∃ q,e=.returned (.pointer (some ⟨q,0,none⟩))/\a.heap[q]?=some (ι 0 x (.slice none 0 0))/\Kp [] w a:=by
 obtain⟨b,n,c,rfl⟩:=d;go_enter func182,ntmps182;go_wp2;go_ret;exact⟨w.heap.size,rfl,υ _ _,kF.alloc _⟩
theorem xY7(x)(L:Nat)(d:Int)(w)(g:∃ b n c,x=.slice b n c)(a:w.heap[L]?=some (.cells #[.int .i64 d] 3)):
  Calls prog 224 #[x,.pointer (some ⟨L,0,none⟩)] w λe f=>∃ q,e=.returned (.pointer (some ⟨q,0,none⟩))/\f.heap[q]?=some (ι d (.slice none 0 0) x)/\Kp [] w f:=by
 obtain⟨b,n,c,rfl⟩:=g;have h:=ζ a;have i:=ϻ a 0;go_enter func224,ntmps224;go_wp2;go_ret;exact⟨w.heap.size,rfl,υ _ _,kF.alloc _⟩
theorem qZ6(O:qE5)(key)(v)(ps)(w)(o:Slc w 185 2 v ps.length (qA3 ps))(m:ps.length<=1000000)(s:∀ p∈ps,ρ p<=21)(l:meas ρ ps<=210):
  Calls prog 117 #[.string key,v] w λe d=>∃ a,e=.returned a/\RLs O 0 d a (qD5 key ps)/\Kp [] w d:=by
 have f:Hid (∀ (args:Array Value) (W:World),Sem.run prog (callFunc 182 args) W=.ok (.enter 182 args) W):=λargs W=>by simp[go_sem,func182]
 go_enter func117,ntmps117;go_wp2_with fail;refine (jI5 182 #[] (λx=>ι 0 x (.slice none 0 0)) key v ps w o m s l f (λv=>⟨_,rfl⟩) (λW x _ hx=>jY2 x W hx)).mono ?_;rintro e w1 ⟨a,rfl,r,n,c,k,b⟩;go_wp2;go_ret;refine⟨a,rfl,⟨r,by rw[c];exact qL0 n,?_⟩,b⟩;have e:qD5 key ps=(qD4 KV.k key (qB7 ρ ps)).map λx=>(⟨x.1,none,x.2⟩:Lnk (Tn 0)):=xI2 _ _ _;refine⟨by rw[c,e,List.length_map,qQ4],λi h C=>?_⟩;have j:i<(qD4 KV.k key (qB7 ρ ps)).length:=by rw[qQ4];omega
 obtain⟨t,u,y,q,x,z,A,B⟩:=k i h j;have g:(qD5 key ps)[i]=(⟨(qD4 KV.k key (qB7 ρ ps))[i].1,none,(qD4 KV.k key (qB7 ρ ps))[i].2⟩:Lnk (Tn 0)):=by
  simp only[e];exact List.getElem_map _
 rw[g];exact⟨t,u,y,q,z,x,A,B.keep0 b⟩
theorem xA0{α d:Type}{f:α->Nat}{g:d->Nat}(c:Nat):∀ (a:List α) (b:List d) (n:Nat),a.map f=b.map g->qH0 f c a n=qH0 g c b n
 | [],[],_,_=>rfl
 | [],_::_,_,h=>by simp at h
 | _::_,[],_,h=>by simp at h
 | x::a,y::b,n,h=>by
  simp only[List.map_cons,List.cons.injEq] at h;unfold qH0;rw[h.1,xA0 c a b _ h.2]
theorem xI7{α c:Type}{f:α->Nat}{g:c->Nat}{a:List α}{b:List c}(h:a.map f=b.map g):meas f a=meas g b:=by unfold meas;rw[h]
theorem xY5{O:qE5}{n:Nat}{w}{hs}{ls}(h:Both (RL O n w) hs ls):Both (Both (RL O n w)) (qB7 qA0 hs) (qB7 qA2 ls):=by
 have e:hs.map qA0=ls.map qA2:=h.map_eq λx y f=>by unfold qA0 qA2;rw[f.1]
 have b:=xI7 e;have c:qH0 qA0 (meas qA0 hs) hs 0=qH0 qA2 (meas qA2 ls) ls 0:=by rw[b];exact xA0 _ _ _ _ e
 unfold qB7;rw[c,b];split
 .exact⟨rfl,λi a d=>by
   have:i=0:=by simp at a;omega
   subst this;exact h⟩
 .refine⟨rfl,λi a d=>?_⟩;have:i=0\/i=1:=by simp at a;omega
  rcases this with rfl|rfl
  .exact h.take _
  .exact h.drop _
theorem xY6{O:qE5}{n:Nat}{w}{c:List (List HL)}{d:List (List (Lnk (Tn n)))}(h:Both (Both (RL O n w)) c d)(key):Both (λx y=>x.1=y.1/\Both (RL O n w) x.2 y.2) (qD4 HL.key key c) (qD4 Lnk.key key d):=by
 refine⟨by rw[qQ4,qQ4,h.1],λi a b=>?_⟩;rw[qQ4] at a b;have e:=zF3 (low:=HL.key) (key:=key) a;have j:=zF3 (low:=Lnk.key) (key:=key) b;rw[gQ (by rw[qQ4];exact a)] at e;rw[gQ (by rw[qQ4];exact b)] at j;rw[Option.some.inj e,Option.some.inj j];have k:=h.2 i a b;refine⟨?_,k⟩;have m:=k.map_eq (f:=HL.key) (g:=Lnk.key) λx y o=>o.1;have l:(c[i].head?.map HL.key)=(d[i].head?.map Lnk.key):=by rw[<-List.head?_map,<-List.head?_map,m]
 simp only[l]
theorem zD0(O:qE5)(n:Nat)(d:Int)(z:d=((n+1:Nat):Int))(key)(v)(ls)(w)(f:RLs O n w v ls)(S:ls.length<=1000000)(Y:∀ l∈ls,qA2 l<=21)(Q:meas qA2 ls<=210):
  Calls prog 160 #[.string key,.int .i64 d,v] w λe B=>∃ j,e=.returned j/\RLs O (n+1) B j (qC4 n key ls)/\Kp [] w B:=by
 have aa:=zM;have D:Hid (∀ (args:Array Value) (W:World),Sem.run prog (callFunc 224 args) W=.ok (.enter 224 args) W):=λargs W=>by simp[go_sem,func224]
 obtain⟨c,V,g⟩:=f;have m:c.map qA0=ls.map qA2:=g.map_eq λx y f=>by unfold qA0 qA2;rw[f.1]
 have Z:∀ h∈c,qA0 h<=21:=λh hh=>by
  have:qA0 h∈c.map qA0:=List.mem_map_of_mem hh;rw[m] at this;obtain⟨l,P,e⟩:=List.mem_map.1 this;rw[<-e];exact Y l P
 have C:=zh g;have R:meas qA0 c<=210:=by rw[xI7 m];exact Q
 have T:c.length<=1000000:=by rw[g.1];exact S
 clear g m;have E:=zh z;clear z;go_enter func160,ntmps160;go_wp2_with fail;have J:=υ w (.cells #[ϊ d] 3);have o:Kp [] w (w.alloc (.cells #[ϊ d] 3)):=kF.alloc _;refine (jI4 224 _ (λx=>ι d (.slice none 0 0) x) key v c _ (V.keep0 o) T Z R D (λv=>⟨_,rfl⟩) ?_).mono ?_
 .intro W x I X;exact xY7 x w.heap.size d W X (I.hp J)
 rintro e w1 ⟨j,rfl,A,U,u,K,p⟩;have r:=o.tr p;go_wp2;go_ret;refine⟨j,rfl,⟨A,by rw[u];exact qL0 U,?_⟩,r⟩;have e:qC4 n key ls=(qD4 Lnk.key key (qB7 qA2 ls)).map λx=>(⟨x.1,none,x.2⟩:Lnk (Tn (n+1))):=xI2 _ _ _;have s:=xY6 (xY5 C) key;have t:=s.1;refine⟨by rw[u,e,List.length_map,<-t,qQ4],λi G h2=>?_⟩;have k:i<(qD4 HL.key key (qB7 qA0 c)).length:=by rw[qQ4];omega
 have H:i<(qD4 Lnk.key key (qB7 qA2 ls)).length:=by rw[<-t];exact k
 obtain⟨k1,k2,k3,q,x,k4,k5,k6⟩:=K i G k;obtain⟨m1,m2⟩:=s.2 i k H;have F:(qC4 n key ls)[i]=(⟨(qD4 Lnk.key key (qB7 qA2 ls))[i].1,none,(qD4 Lnk.key key (qB7 qA2 ls))[i].2⟩:Lnk (Tn (n+1))):=by
  simp only[e];exact List.getElem_map _
 rw[F];have L:RLs O n w1 x ((qD4 Lnk.key key (qB7 qA2 ls))[i].2):=⟨_,k6.keep0 p,m2.mono λa b f=>RL.keep f r (Apt.nil _ _)⟩;have M:RN O (n+1) w1 q ((qD4 Lnk.key key (qB7 qA2 ls))[i].2):=⟨x,by rw[<-E.out];exact k5,L⟩;have N:A[i].key=(qD4 Lnk.key key (qB7 qA2 ls))[i].1:=by rw[k1,m1]
 exact⟨N,k2,k3,q,k4,M⟩
theorem xL5(ps):∀ u∈qA3 ps,u.oneCell'=true:=by
 intro u a;simp only[qA3,pcs,List.mem_flatMap,mC,lN,or_false] at a;obtain⟨p,_,rfl|rfl⟩:=a<;>rfl
theorem jY0(ps):∀ u∈qA7 ps,u.oneCell'=true:=by
 intro u a;simp only[qA7,lcs,List.mem_flatMap,mC,lN,or_false] at a;obtain⟨p,_,rfl|rfl|rfl|rfl⟩:=a<;>rfl
theorem kH6(a b):qA3 (a++b)=qA3 a++qA3 b:=by simp[qA3]
theorem jX9(a b):qA7 (a++b)=qA7 a++qA7 b:=by simp[qA7]
theorem jN9{α:Type}(l:List (List α))(j:Nat)(h:j<l.length):(l.take (j+1)).flatten=(l.take j).flatten++l[j]:=by
 rw[tA h,List.flatten_append];simp only[List.flatten_cons,List.flatten_nil,aN]
theorem jO0{α:Type}(l:List (List α))(j:Nat):(l.take j).flatten.length<=l.flatten.length:=by
 have h:=congrArg (λl=>l.flatten.length) (tD j l);simp only[List.flatten_append,lA] at h;omega
def qM0{α:Type}(l:List (List α))(j:Nat):List α:=(l.take j).flatten
def tot{α:Type}(l:List (List α))(j:Nat):Nat:=(qM0 l j).length
theorem zL0{α:Type}(l:List (List α))(j:Nat)(h:j<l.length):qM0 l (j+1)=qM0 l j++l[j]:=jN9 l j h
theorem zI3{α:Type}(l:List (List α))(j:Nat)(h:j<l.length):tot l (j+1)=tot l j+l[j].length:=by unfold tot;rw[zL0 l j h,lA]
theorem xQ0{α:Type}(l:List (List α))(j:Nat):tot l j<=l.flatten.length:=jO0 l j
theorem zD2{α:Type}(l:List (List α)):qM0 l l.length=l.flatten:=by unfold qM0;rw[List.take_length]
theorem zI9(z)(n:Nat):(Builtin.zeroCells z n).size=z.size*n:=by
 simp[Builtin.zeroCells,Nat.mul_comm]
theorem jR0(n:Nat)(w)(s:n<=1000000):
  Calls prog 259 #[.slice none 0 0,.int .i64 n] w λe i=>∃ v',e=.returned v'/\i.ownsRow w.heap.size 185 2 v' 0 []/\Kp [] w i:=by
 obtain⟨g,l,m,o,f⟩:=info_parts zN3;by_cases j:n=0
 .subst j;go_enter func259,ntmps259;go_wp2;go_ret;exact⟨_,rfl,wN _ _ _ _,Kp.refl _ _⟩
 .have p:¬((n:Int)<0):=oM
  have q:(0:Int)<(n:Int):=oM
  have d:∀ b,(Builtin.append_ #[186,3] b #[.slice none 0 0,ϊ (n:Int)]).run prog w =
    .ok (.slice (some ⟨w.heap.size,0,none⟩) n (grownCap w n 0 185)) (w.drew.alloc (.cells (Builtin.zeroCells (Value.agg _).cells n++Builtin.zeroCells (Value.agg _).cells (grownCap w n 0 185-n)) 185)):=λb=>by
   have h:=Lib.run_append_grow_zeros (P:=prog) w 186 3 b 185 g _ .i64 .i64 underlying186 underlying3 l m none 0 0 [] (run_firstCells_none w.drew g.size 0 0 0) n oM (by rw[o];decide) oM oM (by rw[f];omega) (by rw[f];exact growslice_fits oM oM);simpa using h
  have k:n<=grownCap w n 0 185:=grownCap_ge w _ _ _;have a:=grownCap_le_maxLen w n 0 185 (by unfold maxLen;omega);obtain⟨G,c⟩:=eX (grownCap w n 0 185);rw[<-c] at d k a;have r:G<=9223372036854775807:=by unfold maxLen at a;omega
  clear c;go_enter func259,ntmps259
  go_wp2_with (at_builtin;refine Lib.wpList_append_run _ rfl _ _ _ _ rfl _ _ rfl rfl _ _ (d _) ?_)
  go_ret;refine⟨_,rfl,⟨rfl,.inr ⟨w.heap.size,G,_,rfl,lR,υ _ _,zL _,a,?_,?_⟩⟩,(kF.drew).alloc _⟩
  .rw[Array.size_append,zI9,zI9];show 2*n+2*(G-n)=G*2;omega
  .simp
theorem zZ7(O:Nat)(vs:List Value)(d:List (List KV))(w)(P:w.heap[O]?=some (.cells vs.toArray 186))(G:zC4 w 185 2 vs (d.map λl=>(l.length,qA3 l)))(ps)(A:d.flatten=ps)(W:ps.length<=1000000)(hl:d.length<=1000):
  Calls prog 225 #[.slice (some ⟨O,0,none⟩) d.length d.length] w λe w'=>∃ v',e=.returned v'/\w'.ownsRow w.heap.size 185 2 v' ps.length (qA3 ps)/\Kp [] w w':=by
 obtain⟨Y,T,aj,ak,al⟩:=info_parts zN3;have ao:vs.length=d.length:=by have:=G.1;rw[List.length_map] at this;exact this
 have M:Hid (∀ i (h:i<d.length) (h':i<vs.length),Slc w 185 2 vs[i] d[i].length (qA3 d[i])):=λi h h'=>by
  have:=G.2 i (by simpa using h) h';simpa using this
 have B:=zh P;clear G P;have y:ps.length=tot d d.length:=by unfold tot;rw[zD2,A]
 rw[y] at W;have aa:=zh y;have ae:Hid (qM0 d d.length=ps):=by show _=_;rw[zD2,A]
 have H:∀ j,tot d j<=tot d d.length:=λj=>by rw[<-y,<-A];exact xQ0 d j
 clear y A;go_enter func225,ntmps225;go_wp2
 go_loop [3,11] (λs i=>∃ (j:Nat),j<=d.length/\i=.int .i64 j/\s=.int .i64 (tot d j:Nat)) (λ_ i=>d.length-(intOf i).toNat)
 case atStart=>exact⟨0,zL _,rfl,rfl⟩
 case round=>
  obtain⟨j,hj,rfl,rfl⟩:=hrel;have am:=H j;by_cases o:j<d.length
  .have F:(j:Int)<(d.length:Int):=oM
   have v:=M.out j o oM;have m:=ξ B j;rw[zG,gQ (show j<vs.length by omega)] at m;have ag:=ζ B.out;obtain⟨N,n,r⟩:∃ N n,vs[j]=.slice N d[j].length n:=by
    rcases v.val with⟨m,b,c,f,_⟩|⟨g,K,cap,cur,D,f,_⟩
    .rw[m];exact⟨b,c,f⟩
    .exact⟨_,cap,f⟩
   rw[r] at m;have q:=zh (zI3 d j o);have E:=H (j+1);rw[q.out] at E;have an:¬((tot d j:Nat):Int)+(d[j].length:Int)<0:=oM
   clear v r;go_wp2;refine⟨⟨j+1,oM,by go_num,by rw[q.out];go_num⟩,by simp[intOf];omega⟩
  .have F:¬(j:Int)<(d.length:Int):=oM
   have e:j=d.length:=oM
   subst e;go_wp2_with fail;refine (jR0 _ w W).mono ?_;rintro e w1 ⟨v1,rfl,X,R⟩;have ab:=zh R;have ac:=zh X;clear R X;go_wp2
   go_loopw [6,27] (λs i wr=>∃ (j:Nat),j<=d.length/\i=.int .i64 j/\wr.ownsRow w.heap.size 185 2 s (tot d j) (qA3 (qM0 d j))/\Kp [] w wr) (λ_ i _=>d.length-(intOf i).toNat)
   case atStart=>exact⟨0,zL _,rfl,ac,ab⟩
   case round=>
    obtain⟨j,hj,rfl,p,hK⟩:=hrel;by_cases o:j<d.length
    .have F:(j:Int)<(d.length:Int):=oM
     have v:=(M j o oM).keep0 hK;have Q:=hK.hp B.out;have m:=ξ Q j;rw[zG,gQ (show j<vs.length by omega)] at m;have ag:=ζ Q;have C:=zh (zI3 d j o);have q:Hid (qA3 (qM0 d (j+1))=qA3 (qM0 d j)++qA3 d[j]):=by show _=_;rw[zL0 d j o,kH6]
     have E:=H (j+1);rw[C.out] at E;have ai:=hK.size;obtain⟨Z,J⟩:=eY (vs[j]);rw[J] at v m;obtain⟨V,t⟩:=v;by_cases z:Z=.slice none 0 0
     .have U:d[j].length=0:=by
       rcases t with⟨m,_⟩|⟨g,K,cap,cur,D,f,_⟩
       .exact m
       .rw[z] at f;cases f
      subst z;have L:=zh U;clear t V J U
      go_wp2_with (at_builtin;refine wpList_append_own_none rfl _ _ 186 rfl w.heap.size 185 Y 2 underlying186 T _ _ _ rfl p rfl ?_)
      refine⟨⟨j+1,oM,by go_num,?_,hK⟩,by simp[intOf];omega⟩;rw[C.out,q.out,L.out,List.length_eq_zero_iff.1 L.out];simpa [qA3] using p
     .obtain⟨x,n,r⟩:∃ x n,Z=.slice (some x) d[j].length n:=by
       rcases t with⟨m,b,c,f,h2⟩|⟨g,K,cap,cur,D,f,_⟩
       .rw[m]
        cases b with
        | none=>rw[h2 rfl] at f;exact absurd f z
        | some a=>exact⟨a,c,f⟩
       .exact⟨_,cap,f⟩
      have S:∀ k u,(qA3 d[j])[k]?=some u->wr.cell? (x.add k)=some u:=by
       intro k u I;rcases t with⟨m,_⟩|⟨g,K,cap,cur,D,f,_,_,h4,h5⟩
       .rw[List.length_eq_zero_iff.1 m] at I;simp[qA3] at I
       .rw[r] at f;simp only[vJ,Option.some.injEq] at f;rw[f.1,qG4,ξ h4];exact h5 k u I
      subst r;have HC:=zh S;clear t z J S
      go_wp2_with (at_builtin;refine wpList_append_own _ rfl _ _ 186 rfl w.heap.size 185 Y _ 2 32 underlying186 T aj ak al rfl dC _ _ _ rfl p x d[j].length n (qA3 d[j]) rfl V HC (xL5 _) (by unfold maxLen;omega) oM ai ?_;intro v2 w2 ah af _)
      refine⟨⟨j+1,oM,by go_num,?_,hK.grown af (λk hk=>Or.inr (qI6 p k hk))⟩,by simp[intOf];omega⟩;rw[C.out,q.out];exact ah
    .have F:¬(j:Int)<(d.length:Int):=oM
     have e:j=d.length:=oM
     go_wp2;go_ret;subst e;rw[ae.out] at p;exact⟨_,rfl,by rw[aa.out];exact p,hK⟩
theorem jQ9(n:Nat)(w)(s:n<=1000000):
  Calls prog 260 #[.slice none 0 0,.int .i64 n] w λe i=>∃ v',e=.returned v'/\i.ownsRow w.heap.size 87 4 v' 0 []/\Kp [] w i:=by
 obtain⟨g,l,m,o,f⟩:=info_parts qV5;by_cases j:n=0
 .subst j;go_enter func260,ntmps260;go_wp2;go_ret;exact⟨_,rfl,wN _ _ _ _,Kp.refl _ _⟩
 .have p:¬((n:Int)<0):=oM
  have q:(0:Int)<(n:Int):=oM
  have d:∀ b,(Builtin.append_ #[156,3] b #[.slice none 0 0,ϊ (n:Int)]).run prog w =
    .ok (.slice (some ⟨w.heap.size,0,none⟩) n (grownCap w n 0 87)) (w.drew.alloc (.cells (Builtin.zeroCells (Value.agg _).cells n++Builtin.zeroCells (Value.agg _).cells (grownCap w n 0 87-n)) 87)):=λb=>by
   have h:=Lib.run_append_grow_zeros (P:=prog) w 156 3 b 87 g _ .i64 .i64 underlying156 underlying3 l m none 0 0 [] (run_firstCells_none w.drew g.size 0 0 0) n oM (by rw[o];decide) oM oM (by rw[f];omega) (by rw[f];exact growslice_fits oM oM);simpa using h
  have k:n<=grownCap w n 0 87:=grownCap_ge w _ _ _;have a:=grownCap_le_maxLen w n 0 87 (by unfold maxLen;omega);obtain⟨G,c⟩:=eX (grownCap w n 0 87);rw[<-c] at d k a;have r:G<=9223372036854775807:=by unfold maxLen at a;omega
  clear c;go_enter func260,ntmps260
  go_wp2_with (at_builtin;refine Lib.wpList_append_run _ rfl _ _ _ _ rfl _ _ rfl rfl _ _ (d _) ?_)
  go_ret;refine⟨_,rfl,⟨rfl,.inr ⟨w.heap.size,G,_,rfl,lR,υ _ _,zL _,a,?_,?_⟩⟩,(kF.drew).alloc _⟩
  .rw[Array.size_append,zI9,zI9];show 4*n+4*(G-n)=G*4;omega
  .simp
theorem zZ6(O:Nat)(vs:List Value)(d:List (List HL))(w)(P:w.heap[O]?=some (.cells vs.toArray 156))(G:zC4 w 87 4 vs (d.map λl=>(l.length,qA7 l)))(ps)(A:d.flatten=ps)(W:ps.length<=1000000)(hl:d.length<=1000):
  Calls prog 226 #[.slice (some ⟨O,0,none⟩) d.length d.length] w λe w'=>∃ v',e=.returned v'/\w'.ownsRow w.heap.size 87 4 v' ps.length (qA7 ps)/\Kp [] w w':=by
 obtain⟨Y,T,aj,ak,al⟩:=info_parts qV5;have ao:vs.length=d.length:=by have:=G.1;rw[List.length_map] at this;exact this
 have M:Hid (∀ i (h:i<d.length) (h':i<vs.length),Slc w 87 4 vs[i] d[i].length (qA7 d[i])):=λi h h'=>by
  have:=G.2 i (by simpa using h) h';simpa using this
 have B:=zh P;clear G P;have y:ps.length=tot d d.length:=by unfold tot;rw[zD2,A]
 rw[y] at W;have aa:=zh y;have ae:Hid (qM0 d d.length=ps):=by show _=_;rw[zD2,A]
 have H:∀ j,tot d j<=tot d d.length:=λj=>by rw[<-y,<-A];exact xQ0 d j
 clear y A;go_enter func226,ntmps226;go_wp2
 go_loop [3,11] (λs i=>∃ (j:Nat),j<=d.length/\i=.int .i64 j/\s=.int .i64 (tot d j:Nat)) (λ_ i=>d.length-(intOf i).toNat)
 case atStart=>exact⟨0,zL _,rfl,rfl⟩
 case round=>
  obtain⟨j,hj,rfl,rfl⟩:=hrel;have am:=H j;by_cases o:j<d.length
  .have F:(j:Int)<(d.length:Int):=oM
   have v:=M.out j o oM;have m:=ξ B j;rw[zG,gQ (show j<vs.length by omega)] at m;have ag:=ζ B.out;obtain⟨N,n,r⟩:∃ N n,vs[j]=.slice N d[j].length n:=by
    rcases v.val with⟨m,b,c,f,_⟩|⟨g,K,cap,cur,D,f,_⟩
    .rw[m];exact⟨b,c,f⟩
    .exact⟨_,cap,f⟩
   rw[r] at m;have q:=zh (zI3 d j o);have E:=H (j+1);rw[q.out] at E;have an:¬((tot d j:Nat):Int)+(d[j].length:Int)<0:=oM
   clear v r;go_wp2;refine⟨⟨j+1,oM,by go_num,by rw[q.out];go_num⟩,by simp[intOf];omega⟩
  .have F:¬(j:Int)<(d.length:Int):=oM
   have e:j=d.length:=oM
   subst e;go_wp2_with fail;refine (jQ9 _ w W).mono ?_;rintro e w1 ⟨v1,rfl,X,R⟩;have ab:=zh R;have ac:=zh X;clear R X;go_wp2
   go_loopw [6,27] (λs i wr=>∃ (j:Nat),j<=d.length/\i=.int .i64 j/\wr.ownsRow w.heap.size 87 4 s (tot d j) (qA7 (qM0 d j))/\Kp [] w wr) (λ_ i _=>d.length-(intOf i).toNat)
   case atStart=>exact⟨0,zL _,rfl,ac,ab⟩
   case round=>
    obtain⟨j,hj,rfl,p,hK⟩:=hrel;by_cases o:j<d.length
    .have F:(j:Int)<(d.length:Int):=oM
     have v:=(M j o oM).keep0 hK;have Q:=hK.hp B.out;have m:=ξ Q j;rw[zG,gQ (show j<vs.length by omega)] at m;have ag:=ζ Q;have C:=zh (zI3 d j o);have q:Hid (qA7 (qM0 d (j+1))=qA7 (qM0 d j)++qA7 d[j]):=by show _=_;rw[zL0 d j o,jX9]
     have E:=H (j+1);rw[C.out] at E;have ai:=hK.size;obtain⟨Z,J⟩:=eY (vs[j]);rw[J] at v m;obtain⟨V,t⟩:=v;by_cases z:Z=.slice none 0 0
     .have U:d[j].length=0:=by
       rcases t with⟨m,_⟩|⟨g,K,cap,cur,D,f,_⟩
       .exact m
       .rw[z] at f;cases f
      subst z;have L:=zh U;clear t V J U
      go_wp2_with (at_builtin;refine wpList_append_own_none rfl _ _ 156 rfl w.heap.size 87 Y 4 underlying156 T _ _ _ rfl p rfl ?_)
      refine⟨⟨j+1,oM,by go_num,?_,hK⟩,by simp[intOf];omega⟩;rw[C.out,q.out,L.out,List.length_eq_zero_iff.1 L.out];simpa [qA7] using p
     .obtain⟨x,n,r⟩:∃ x n,Z=.slice (some x) d[j].length n:=by
       rcases t with⟨m,b,c,f,h2⟩|⟨g,K,cap,cur,D,f,_⟩
       .rw[m]
        cases b with
        | none=>rw[h2 rfl] at f;exact absurd f z
        | some a=>exact⟨a,c,f⟩
       .exact⟨_,cap,f⟩
      have S:∀ k u,(qA7 d[j])[k]?=some u->wr.cell? (x.add k)=some u:=by
       intro k u I;rcases t with⟨m,_⟩|⟨g,K,cap,cur,D,f,_,_,h4,h5⟩
       .rw[List.length_eq_zero_iff.1 m] at I;simp[qA7] at I
       .rw[r] at f;simp only[vJ,Option.some.injEq] at f;rw[f.1,qG4,ξ h4];exact h5 k u I
      subst r;have HC:=zh S;clear t z J S
      go_wp2_with (at_builtin;refine wpList_append_own _ rfl _ _ 156 rfl w.heap.size 87 Y _ 4 40 underlying156 T aj ak al rfl dC _ _ _ rfl p x d[j].length n (qA7 d[j]) rfl V HC (jY0 _) (by unfold maxLen;omega) oM ai ?_;intro v2 w2 ah af _)
      refine⟨⟨j+1,oM,by go_num,?_,hK.grown af (λk hk=>Or.inr (qI6 p k hk))⟩,by simp[intOf];omega⟩;rw[C.out,q.out];exact ah
    .have F:¬(j:Int)<(d.length:Int):=oM
     have e:j=d.length:=oM
     go_wp2;go_ret;subst e;rw[ae.out] at p;exact⟨_,rfl,by rw[aa.out];exact p,hK⟩
theorem zR9(v vb)(ps bs)(i j:Nat)(w)(p:Slc w 185 2 v ps.length (qA3 ps))(z:Slc w 185 2 vb bs.length (qA3 bs))(ah:i<=j)(hj:j<=ps.length)(d:1<=ps.length)(hn:ps.length<=10000)(ak:bs.length<=10000):
  Calls prog 162 #[v,.int .i64 i,.int .i64 j,vb] w λe N=>∃ v',e=.returned v'/\Slc N 185 2 v' (ps.take i++bs++ps.drop j).length (qA3 (ps.take i++bs++ps.drop j))/\Kp [] w N:=by
 obtain⟨l,f,a,cur,U,rfl,af,B,_⟩:=p.pair d;have I:∀ k u,(qA3 ps)[k]?=some u->cur[f+k]?=some u:=by
  rcases p.val with⟨E,_⟩|⟨g',al,ac,ad,ae,d,_,_,F,V⟩
  .omega
  .simp only[vJ,Option.some.injEq,Addr.mk.injEq] at d;obtain⟨⟨rfl,rfl,_⟩,_,_⟩:=d;rw[B] at F;cases F;exact V
 obtain⟨n,o,ab⟩:∃ n o,vb=.slice n bs.length o:=by
  rcases z.val with⟨E,b,c,d,_⟩|⟨g,f,cap,cur,U,d,_⟩
  .rw[E];exact⟨b,c,d⟩
  .exact⟨_,cap,d⟩
 subst ab;obtain⟨r,aa,H,L⟩:∃ r,(∃ q m c,r=.slice (some q) m c)/\Slc w 185 2 r (ps.drop j).length (qA3 (ps.drop j))/\((j=a/\r=.slice (some ⟨l,f,none⟩) 0 0)\/(j≠a/\r=.slice (some ⟨l,f+j*2,none⟩) (ps.length-j) (a-j))):=by
  by_cases A:j=a
  .refine⟨_,⟨_,_,_,rfl⟩,⟨?_,.inl ⟨?_,_,_,rfl,sM⟩⟩,.inl ⟨A,rfl⟩⟩
   .rw[qQ9]
   .simp;omega
  .refine⟨_,⟨_,_,_,rfl⟩,?_,.inr ⟨A,rfl⟩⟩;have:=qS1 (T:=185) (sz:=2) B I p.len j (ps.length-j) (a-j) oM oM;rw[<-xL4,tL (by rw[qQ9];simp)] at this;simpa using this
 have G:Slc w 185 2 (.slice (some ⟨l,f,none⟩) i a) (ps.take i).length (qA3 (ps.take i)):=by
  have:=qS1 (T:=185) (sz:=2) B I p.len 0 i a oM oM;simp only[Nat.zero_mul,Nat.add_zero,dZ] at this;rw[<-xL7] at this;simpa [Nat.min_eq_left (show i<=ps.length by omega)] using this
 obtain⟨D,C,t,rfl⟩:=aa;have Q:=zh G;have R:=zh H;have O:=zh z;have ag:(i:Int)<=(a:Int):=oM
 have ai:(j:Int)<=(ps.length:Int):=oM
 have A:(j:Int)<=(a:Int):=oM
 have S:=zh L;clear G H z p L;go_enter func162,ntmps162;go_wp2_with fail;refine wp_region_any kR ?_;change wpAny _ _ _ _ _ _ _ (World.drew _);refine zu 0 (.slice (some ⟨l,f,none⟩) ps.length a) ?_;refine zu 1 (ϊ i) ?_;refine zu 2 (.slice (some ⟨l,f,none⟩) i a) ?_;refine zu 3 (.slice n bs.length o) ?_;refine zu 4 (.slice (some ⟨l,f,none⟩) ps.length a) ?_;refine zu 5 (ϊ j) ?_;refine wpAny_take (i:=6) (v:=.slice (some D) C t) rfl kR kR kR (λ_ _ _ h=>h) (Or.inl ⟨by rfl,λw=>by
  rcases S with⟨x,y⟩|⟨x,y⟩
  .have e3:ps.length=a:=oM
   rw[y];subst x;go_simp
  .rw[y];have aj:¬a=j:=λe=>x e.symm;go_simp⟩) ?_
 try simp only[zZ]
 refine zQ 7 λK hK=>?_;go_simp;obtain⟨w2,M,W,s⟩:=alF w (.cells #[.slice (some ⟨l,f,none⟩) i a,.slice n bs.length o,.slice (some D) C t] 186);rw[<-M];clear M;refine hK _ _ ?_
 try simp only[zZ]
 refine zQ 8 λK hK=>?_;go_simp;refine (zZ7 w.heap.size [.slice (some ⟨l,f,none⟩) i a,.slice n bs.length o,.slice (some D) C t] [ps.take i,bs,ps.drop j] w2 W ⟨rfl,λk d h2=>?_⟩ (ps.take i++bs++ps.drop j) sM sO sM).mono ?_
 .have hk:k=0\/k=1\/k=2:=by simp at d;omega
  rcases hk with rfl|rfl|rfl
  .exact Q.keep0 s
  .exact O.keep0 s
  .exact R.keep0 s
 rintro e w3 ⟨v3,rfl,J,X⟩;have Y:=s.tr X;refine hK _ _ ?_
 try simp only[zZ]
 refine zQ 9 λK hK=>?_;go_simp;refine hK _ _ ?_;refine wpAny_done kR ?_ _;have P:=zh (qL0 J);clear J;go_wp2;go_ret;have Z:=P.out;exact⟨v3,rfl,by simpa using Z,Y⟩
theorem zG9(v vb)(ps bs)(i j:Nat)(w)(p:Slc w 87 4 v ps.length (qA7 ps))(z:Slc w 87 4 vb bs.length (qA7 bs))(ah:i<=j)(hj:j<=ps.length)(d:1<=ps.length)(hn:ps.length<=10000)(ak:bs.length<=10000):
  Calls prog 163 #[v,.int .i64 i,.int .i64 j,vb] w λe N=>∃ v',e=.returned v'/\Slc N 87 4 v' (ps.take i++bs++ps.drop j).length (qA7 (ps.take i++bs++ps.drop j))/\Kp [] w N:=by
 obtain⟨l,f,a,cur,U,rfl,af,B,_⟩:=p.link d;have I:∀ k u,(qA7 ps)[k]?=some u->cur[f+k]?=some u:=by
  rcases p.val with⟨E,_⟩|⟨g',al,ac,ad,ae,d,_,_,F,V⟩
  .omega
  .simp only[vJ,Option.some.injEq,Addr.mk.injEq] at d;obtain⟨⟨rfl,rfl,_⟩,_,_⟩:=d;rw[B] at F;cases F;exact V
 obtain⟨n,o,ab⟩:∃ n o,vb=.slice n bs.length o:=by
  rcases z.val with⟨E,b,c,d,_⟩|⟨g,f,cap,cur,U,d,_⟩
  .rw[E];exact⟨b,c,d⟩
  .exact⟨_,cap,d⟩
 subst ab;obtain⟨r,aa,H,L⟩:∃ r,(∃ q m c,r=.slice (some q) m c)/\Slc w 87 4 r (ps.drop j).length (qA7 (ps.drop j))/\((j=a/\r=.slice (some ⟨l,f,none⟩) 0 0)\/(j≠a/\r=.slice (some ⟨l,f+j*4,none⟩) (ps.length-j) (a-j))):=by
  by_cases A:j=a
  .refine⟨_,⟨_,_,_,rfl⟩,⟨?_,.inl ⟨?_,_,_,rfl,sM⟩⟩,.inl ⟨A,rfl⟩⟩
   .rw[zO9]
   .simp;omega
  .refine⟨_,⟨_,_,_,rfl⟩,?_,.inr ⟨A,rfl⟩⟩;have:=qS1 (T:=87) (sz:=4) B I p.len j (ps.length-j) (a-j) oM oM;rw[<-xG5,tL (by rw[zO9];simp)] at this;simpa using this
 have G:Slc w 87 4 (.slice (some ⟨l,f,none⟩) i a) (ps.take i).length (qA7 (ps.take i)):=by
  have:=qS1 (T:=87) (sz:=4) B I p.len 0 i a oM oM;simp only[Nat.zero_mul,Nat.add_zero,dZ] at this;rw[<-xG7] at this;simpa [Nat.min_eq_left (show i<=ps.length by omega)] using this
 obtain⟨D,C,t,rfl⟩:=aa;have Q:=zh G;have R:=zh H;have O:=zh z;have ag:(i:Int)<=(a:Int):=oM
 have ai:(j:Int)<=(ps.length:Int):=oM
 have A:(j:Int)<=(a:Int):=oM
 have S:=zh L;clear G H z p L;go_enter func163,ntmps163;go_wp2_with fail;refine wp_region_any kR ?_;change wpAny _ _ _ _ _ _ _ (World.drew _);refine zu 0 (.slice (some ⟨l,f,none⟩) ps.length a) ?_;refine zu 1 (ϊ i) ?_;refine zu 2 (.slice (some ⟨l,f,none⟩) i a) ?_;refine zu 3 (.slice n bs.length o) ?_;refine zu 4 (.slice (some ⟨l,f,none⟩) ps.length a) ?_;refine zu 5 (ϊ j) ?_;refine wpAny_take (i:=6) (v:=.slice (some D) C t) rfl kR kR kR (λ_ _ _ h=>h) (Or.inl ⟨by rfl,λw=>by
  rcases S with⟨x,y⟩|⟨x,y⟩
  .have e3:ps.length=a:=oM
   rw[y];subst x;go_simp
  .rw[y];have aj:¬a=j:=λe=>x e.symm;go_simp⟩) ?_
 try simp only[zZ]
 refine zQ 7 λK hK=>?_;go_simp;obtain⟨w2,M,W,s⟩:=alF w (.cells #[.slice (some ⟨l,f,none⟩) i a,.slice n bs.length o,.slice (some D) C t] 156);rw[<-M];clear M;refine hK _ _ ?_
 try simp only[zZ]
 refine zQ 8 λK hK=>?_;go_simp;refine (zZ6 w.heap.size [.slice (some ⟨l,f,none⟩) i a,.slice n bs.length o,.slice (some D) C t] [ps.take i,bs,ps.drop j] w2 W ⟨rfl,λk d h2=>?_⟩ (ps.take i++bs++ps.drop j) sM sO sM).mono ?_
 .have hk:k=0\/k=1\/k=2:=by simp at d;omega
  rcases hk with rfl|rfl|rfl
  .exact Q.keep0 s
  .exact O.keep0 s
  .exact R.keep0 s
 rintro e w3 ⟨v3,rfl,J,X⟩;have Y:=s.tr X;refine hK _ _ ?_
 try simp only[zZ]
 refine zQ 9 λK hK=>?_;go_simp;refine hK _ _ ?_;refine wpAny_done kR ?_ _;have P:=zh (qL0 J);clear J;go_wp2;go_ret;have Z:=P.out;exact⟨v3,rfl,by simpa using Z,Y⟩
def τ(V:Nat)(h:HL):Value:=.agg #[.pointer (some ⟨V,0,none⟩),.string h.key,.int .i64 h.b,.int .u64 h.s,.pointer h.ptr]
def qC0(h:HL):Value:=.agg #[.string h.key,.int .i64 h.b,.int .u64 h.s,.pointer h.ptr]
def zF8:List TypeId:=[87,89,42]
structure Env where
 O:qE5
 V:Nat
 S:List Nat
 Dev:World→Prop
 keep:∀ w w' L,Dev w→Kp L w w'→(∀ k∈L,∃ c t fr,w.heap[k]?=some (.cells c t fr)∧t∈zF8)→Dev w'
 apt:∀ w,Dev w→Apt w S qF5
 low:∀ w,Dev w→∀ k∈S,k<w.heap.size
 pos:∀ (n b:Nat) (s:Int) (t:Tn n),O n b s t→1≤b
 lvl:∀ (n b:Nat) (s:Int) (t:Tn n),O n b s t→n<6
 read:∀ (n:Nat) (h r:HL) (l:Lnk (Tn n)) (a:Int) (w:World),Dev w→RL O n w h l→h.p=none→(n:Int)<a→Calls prog 150 #[τ V r,qC0 h,.int .i64 a] w fun e w'=>∃ q,e=.returned (.pointer (some ⟨q,0,none⟩))∧RN O n w' q l.sub∧Dev w'∧Kp S w w'
structure Env.To(E:Env)(w w':World):Prop where
 dev:E.Dev w'
 kp:Kp E.S w w'
theorem Env.To.of0{E:Env}{w a:World}(h:E.Dev w)(hK:Kp [] w a):E.To w a:=⟨E.keep _ _ [] h hK sM,hK.mono sM⟩
theorem Env.To.trans{E:Env}{a b c:World}(h:E.To a b)(k:E.To b c):E.To a c:=⟨k.dev,h.kp.trans k.kp (λi d _=>d)⟩
theorem Env.To.tail{E:Env}{a b c:World}(h:E.To a b)(k:Kp [] b c):E.To a c:=h.trans (Env.To.of0 h.dev k)
theorem Env.RN{E:Env}{n:Nat}{w a:World}{q:Nat}{t:Tn n}(h:RN E.O n w q t)(c:E.Dev w)(b:E.To w a):YtdohpenfkdckiaaGreatDoor.RN E.O n a q t:=RN.keep b.kp (E.apt w c) n q t h
theorem Env.RL{E:Env}{n:Nat}{w a:World}{h:HL}{l:Lnk (Tn n)}(d:RL E.O n w h l)(c:E.Dev w)(b:E.To w a):YtdohpenfkdckiaaGreatDoor.RL E.O n a h l:=RL.keep d b.kp (E.apt w c)
theorem Env.RLs{E:Env}{n:Nat}{w a:World}{v:Value}{ls:List (Lnk (Tn n))}(d:RLs E.O n w v ls)(c:E.Dev w)(b:E.To w a):YtdohpenfkdckiaaGreatDoor.RLs E.O n a v ls:=RLs.keep d b.kp (E.apt w c)
theorem Env.To.new{E:Env}{a w b:World}{k:Nat}{o:Obj}(c:E.To w b)(d:E.Dev a)(f:a.heap.size<=k)(h:w.heap[k]?=some o):b.heap[k]?=some o:=
 c.kp.heap h (λe=>by have:=E.low a d k e;omega)
theorem xJ7(E:Env)(n:Nat)(h r:HL)(l:Lnk (Tn n))(a:Int)(w:World)(g:E.Dev w)(i:RL E.O n w h l)(o:h.p=none->(n:Int)<a):
  Calls prog 150 #[τ E.V r,qC0 h,.int .i64 a] w λe j=>∃ q,e=.returned (.pointer (some ⟨q,0,none⟩))/\RN E.O n j q l.sub/\E.To w j:=by
 cases hp:h.p with
 | none=>
  refine (E.read n h r l a w g i hp (o hp)).mono ?_;rintro e j ⟨q,t,b,c,f⟩;exact⟨q,t,b,c,f⟩
 | some q=>
  have m:RN E.O n w q l.sub:=by
   have b:=i.2
   cases hl:l.ref with
   | none=>
    rw[hl] at b;obtain⟨_,_,q',c,f⟩:=b;rw[hp] at c;cases c;exact f
   | some x=>
    rw[hl] at b;rw[hp] at b;cases b.2.2.1
  have p:h.ptr=some ⟨q,0,none⟩:=by simp[HL.ptr,hp]
  have k:qC0 h=.agg #[.string h.key,ϊ h.b,.int .u64 h.s,ϖ q]:=by rw[qC0,p]
  rw[k,τ];have s:=zh m;have d:=zh g;clear m i g k p o;go_enter func150,ntmps150;go_wp2;go_ret;exact⟨q,rfl,Env.RN s d (Env.To.of0 d ((kF.alloc _).alloc _)),Env.To.of0 d ((kF.alloc _).alloc _)⟩
theorem qJ4(E:Env)(n:Nat)(h r:HL)(l:Lnk (Tn n))(a:Int)(w:World)(d:E.Dev w)(f:RL E.O n w h l)(c:(n:Int)<a):
  Calls prog 150 #[τ E.V r,qC0 h,.int .i64 a] w λe b=>∃ q,e=.returned (.pointer (some ⟨q,0,none⟩))/\RN E.O n b q l.sub/\E.To w b:=
 xJ7 E n h r l a w d f λ_=>c
theorem Env.low6{E:Env}{n:Nat}{w:World}{h:HL}{l:Lnk (Tn n)}(d:YtdohpenfkdckiaaGreatDoor.RL E.O n w h l)(c:h.p=none):(n:Int)<6:=by
 have a:=d.2
 cases hl:l.ref with
 | none=>
  rw[hl] at a;obtain⟨_,_,q,b,e⟩:=a;rw[c] at b;cases b
 | some x=>
  rw[hl] at a;have:=E.lvl _ _ _ _ a.2.2.2;omega
theorem qX3(E:Env)(n:Nat)(h:HL)(l:Lnk (Tn n))(w:World)(c:E.Dev w)(b:RL E.O n w h l):
  Calls prog 94 #[τ E.V h] w λe a=>∃ q,e=.returned (.pointer (some ⟨q,0,none⟩))/\RN E.O n a q l.sub/\E.To w a:=by
 have d:=zh c;have o:=zh b;have f:Hid (∀ W:World,E.To w W->Ω 150 #[.agg (ϟ E.V h),.agg (ϡ h),ϊ 6] W λe a=>∃ q,e=ϱ (ϖ q)/\RN E.O n a q l.sub/\E.To W a):=
  λW i=>xJ7 E n h h l 6 W i.dev (Env.RL b c i) (Env.low6 b)
 clear c b;rw[τ];go_enter func94,ntmps94;go_wp2_with fail;refine (f _ (Env.To.of0 d (kF.alloc _))).mono ?_;rintro e w1 ⟨q,rfl,g,j⟩;have k:=zh g;have m:=zh ((Env.To.of0 d (kF.alloc _)).trans j);clear g j f;go_wp2;go_ret;exact⟨q,rfl,k,m⟩
theorem RLof.new{O:qE5}{n:Nat}{w}{h}{l}(d:RL O n w h l):(l.ref=none/\∃ q,h.p=some q/\RN O n w q l.sub)\/(l.ref.isSome=true/\h.p=none):=by
 have a:=d.2
 cases hl:l.ref with
 | none=>
  rw[hl] at a;obtain⟨_,_,q,b,c⟩:=a;exact .inl ⟨rfl,q,b,c⟩
 | some x=>
  rw[hl] at a;exact .inr ⟨rfl,a.2.2.1⟩
def qX9:(n:Nat)→Tn n→Prop
 | 0,t=>(prs t).length≤10000
 | n+1,t=>(η t).length≤10000∧∀ l∈η t,qX9 n l.sub
theorem qK1{α:Type}(f:α->Nat):∀ (l:List α),(∀ x∈l,1<=f x)->l.length<=meas f l
 | [],_=>by simp[meas]
 | x::l,h=>by
  have b:=h x sM;have c:=qK1 f l λy a=>h y (by simp[a]);rw[qC1,lC];omega
theorem qK0:∀ (n:Nat) (lo) (t),Good n lo t->qX9 n t
 | 0,lo,ps,h=>by
  have a:meas ρ (prs ps)<=126:=h.fits;have b:=qK1 ρ (prs ps) λx _=>by unfold ρ;omega
  show (prs ps).length<=10000;omega
 | n+1,lo,ls,h=>by
  have a:meas qA2 (η ls)<=126:=h.fits;have b:=qK1 qA2 (η ls) λx _=>by unfold qA2;omega
  exact⟨oM,λl c=>qK0 n l.key l.sub (h.all l c).1⟩
theorem jI1(O:qE5):∀ (n:Nat) (h) (l) (w),RL O n w h l->qX9 n l.sub->qB6 n l.sub<=1000000->
  Calls prog 120 #[qC0 h] w λe w'=>e=.returned (.int .i64 (news n l))/\Kp [] w w':=by
 intro n
 induction n with
 | zero=>
  intro h l w o P v;rcases o.new with⟨a,q,d,vp,r,t⟩|⟨a,d⟩
  .have k:h.ptr=some ⟨q,0,none⟩:=by simp[HL.ptr,d]
   rw[qC0,k];have ag:=ζ r;have E:=ξ r 2;simp only[ι,zG,zH,zI] at E;clear o t;go_enter func120,ntmps120;go_wp2_with fail;refine wp_loop_rounds 1 ?_;rw[rounds_succ];go_wp2;go_ret;exact⟨qJ5 (by simp[news,a]),kF.alloc _⟩
  .have k:h.ptr=none:=by simp[HL.ptr,d]
   rw[qC0,k];clear o;go_enter func120,ntmps120;go_wp2;go_ret;exact⟨qJ5 (by simp[news,a]),kF.alloc _⟩
 | succ n ih=>
  intro h l w o P v;rcases o.new with⟨a,q,d,vl,r,p,t,y⟩|⟨a,d⟩
  .have k:h.ptr=some ⟨q,0,none⟩:=by simp[HL.ptr,d]
   rw[qC0,k];obtain⟨ai,D⟩:=P;have B:news (n+1) l=1+meas (λm:Lnk (Tn n)=>news n m) (η l.sub):=by simp[news,a]
   have L:qB6 (n+1) l.sub=1+meas (λm:Lnk (Tn n)=>qB6 n m.sub) (η l.sub):=rfl;have C:=zP6 (f:=λm:Lnk (Tn n)=>news n m) (g:=λm=>qB6 n m.sub) (η l.sub) λm _=>zQ0 n m;rw[L] at v;have ac:=y.1;obtain⟨ls,J⟩:=eX (η l.sub);rw[<-J] at y ai D B C v ac;clear J L;have ag:=ζ r;obtain⟨G,H,A⟩:∃ G H,vl=.slice G p.length H:=by
    rcases t.val with⟨h0,b,c,a,_⟩|⟨g,x,cap,cur,fr,a,_⟩
    .rw[h0];exact⟨b,c,a⟩
    .exact⟨_,cap,a⟩
   subst A;have E:=ξ r 2;simp only[ι,zG,zH,zI] at E;have X:=zh t;have Q:=zh y;have S:=zh B;have Y:=zh D;have V:=zh v;have U:=zh C;have R:=ih;clear o t y B D a d ih v C;go_enter func120,ntmps120;go_wp2
   go_loopw [3,15] (λs i wr=>∃ (j:Nat),j<=p.length/\i=.int .i64 j/\s=.int .i64 (1+meas (λm:Lnk (Tn n)=>news n m) (ls.take j):Nat)/\Kp [] w wr) (λ_ i _=>p.length-(intOf i).toNat)
   case atStart=>exact⟨0,zL _,rfl,rfl,kF.alloc _⟩
   case round=>
    obtain⟨j,hj,rfl,rfl,hK⟩:=hrel;have am:=qO6 (λm:Lnk (Tn n)=>news n m) ls j;have an:=U.out;have ao:=V.out;by_cases K:j<p.length
    .have ad:(j:Int)<(p.length:Int):=oM
     obtain⟨gb,x,aj,cur,fr,A,ak,ah,I⟩:=X.out.link oM;obtain⟨c0,c1,c2,c3⟩:=I j K;simp only[vJ,true_and] at A;obtain⟨rfl,rfl⟩:=A;have u:=hK.hp ah;have Z:=ξ u (x+j*4);rw[c0] at Z;have a1:=ξ u (x+j*4+1);rw[c1] at a1;have a2:=ξ u (x+j*4+2);rw[c2] at a2;have a3:=ξ u (x+j*4+3);rw[c3] at a3;have al:=ζ u;have z:j<ls.length:=oM
     have N:=Q.out.2 j K z;have F:Hid (meas (λm:Lnk (Tn n)=>news n m) (ls.take (j+1))=meas (λm:Lnk (Tn n)=>news n m) (ls.take j)+news n ls[j]):=qL6 _ ls j z;have ae:=qO6 (λm:Lnk (Tn n)=>news n m) ls (j+1);rw[F.out] at ae;have af:qB6 n ls[j].sub<=meas (λm:Lnk (Tn n)=>qB6 n m.sub) ls:=by
      have a:=qL6 (λm:Lnk (Tn n)=>qB6 n m.sub) ls j z;have d:=qO6 (λm:Lnk (Tn n)=>qB6 n m.sub) ls (j+1);omega
     have W:=zh N;have T:Hid (qB6 n ls[j].sub<=1000000):=by show _<=_;omega
     clear I N af;generalize meas (λm:Lnk (Tn n)=>news n m) (ls.take j)=M at *;go_wp2_with fail;refine (R p[j] ls[j] _ (RL.keep W (hK.alloc _) (Apt.nil _ _)) (Y _ (gM z)) T).mono ?_;rintro e w1 ⟨rfl,aa⟩;have ab:=(hK.alloc _).tr aa;go_wp2;refine⟨⟨j+1,oM,by go_num,by rw[F.out];go_num,ab⟩,by simp[intOf];omega⟩
    .have ad:¬(j:Int)<(p.length:Int):=oM
     go_wp2;go_ret;refine⟨qJ5 ?_,hK⟩;rw[S.out,tL oM];omega
  .have k:h.ptr=none:=by simp[HL.ptr,d]
   rw[qC0,k];clear o;go_enter func120,ntmps120;go_wp2;go_ret;exact⟨qJ5 (by simp[news,a]),kF.alloc _⟩
theorem RN.obj{O:qE5}{n:Nat}{w}{q:Nat}{t}(h:RN O n w q t):∃ v l x r k s,w.heap[q]?=some (ι (n:Int) (.slice v l x) (.slice r k s))/\l+k=cnt n t:=by
 cases n with
 | zero=>
  obtain⟨z,a,i⟩:=h;obtain⟨d,e,j⟩:∃ d e,z=.slice d (prs t).length e:=by
   rcases i.val with⟨f,b,c,a,_⟩|⟨g,u,cap,cur,m,a,_⟩
   .rw[f];exact⟨b,c,a⟩
   .exact⟨_,cap,a⟩
  rw[j] at a;exact⟨_,_,_,_,_,_,a,rfl⟩
 | succ n=>
  obtain⟨y,a,p,i,o⟩:=h;obtain⟨d,e,j⟩:∃ d e,y=.slice d p.length e:=by
   rcases i.val with⟨f,b,c,a,_⟩|⟨g,u,cap,cur,m,a,_⟩
   .rw[f];exact⟨b,c,a⟩
   .exact⟨_,cap,a⟩
  rw[j] at a;refine⟨_,_,_,_,_,_,a,?_⟩;rw[Nat.zero_add,o.1];rfl
theorem qU0(O:qE5)(n:Nat)(q:Nat)(t)(w)(h:RN O n w q t)(d:cnt n t<=1000000):
  Calls prog 161 #[.pointer (some ⟨q,0,none⟩)] w λe g=>e=.returned (.int .i64 (cnt n t))/\Kp [] w g:=by
 obtain⟨m,p,o,j,l,k,a,b⟩:=h.obj;have c:=zh b;rw[<-b] at d;have i:=ζ a;have f:=ξ a;simp only[ι,zG,zH,zI] at f;clear h a b;go_enter func161,ntmps161;go_wp2_with fail
 go_quiet (fail)
 go_wp2;go_ret;exact⟨qJ5 (by rw[<-c.out];omega),kF.drewN _⟩
theorem kP5(O:qE5)(V n:Nat)(h)(l)(w)(d:RL O n w h l)(f:qX9 n l.sub)(c:qB6 n l.sub<=1000000):
  Calls prog 76 #[τ V h] w λe g=>e=.returned (.int .i64 (news n l))/\Kp [] w g:=by
 rw[τ];go_enter func76,ntmps76;go_wp2_with fail;refine (jI1 O n h l _ (RL.keep d (kF.alloc _) (Apt.nil _ _)) f c).mono ?_;rintro e w1 ⟨rfl,a⟩;have b:Kp [] w w1:=(kF.alloc _).tr a;go_wp2;go_ret;exact⟨rfl,b⟩
def RR(E:Env)(w:World)(h:HL):Root→Prop
 | .none=>h=⟨⟨#[]⟩,0,0,none⟩
 | .at n l=>RL E.O n w h l
theorem RR.to{E}{w w'}{h}{r}(a:RR E w h r)(c:E.Dev w)(b:E.To w w'):RR E w' h r:=by
 cases r with
 | none=>exact a
 | «at» n l=>exact Env.RL a c b
theorem zD9(d:Nat)(W):Sem.run prog (Op.equalIn (d+1) 85 (.pointer none) (.pointer none)) W=.ok true W:=by
 simp[Op.equalIn,run_underlying underlying85]
theorem xA7(d:Nat)(a)(W):Sem.run prog (Op.equalIn (d+1) 85 (.pointer (some a)) (.pointer none)) W=.ok false W:=by
 simp[Op.equalIn,run_underlying underlying85]
theorem qY7(V:Nat)(w):
  Calls prog 92 #[τ V ⟨⟨#[]⟩,0,0,none⟩] w λe a=>e=.returned (.bool true)/\Kp [] w a:=by
 have b:∀ W:World,Sem.run prog (Op.equalIn 9999 85 (.pointer none) (.pointer none)) W=.ok true W:=λW=>zD9 9998 W;rw[τ,show HL.ptr ⟨⟨#[]⟩,0,0,none⟩=none from rfl];go_enter func92,ntmps92;go_wp2;go_ret;exact⟨rfl,kF.alloc _⟩
theorem jJ8(V q:Nat)(w):
  Calls prog 92 #[.agg #[.pointer (some ⟨V,0,none⟩),.string ⟨#[]⟩,.int .i64 0,.int .u64 0,.pointer (some ⟨q,0,none⟩)]] w λe a=>e=.returned (.bool false)/\Kp [] w a:=by
 have b:∀ W:World,Sem.run prog (Op.equalIn 9999 85 (ϖ q) (.pointer none)) W=.ok false W:=λW=>xA7 9998 _ W;go_enter func92,ntmps92;go_wp2;go_ret;exact⟨rfl,kF.alloc _⟩
theorem jK0(V:Nat)(b s:Int)(c:1<=b)(w):
  Calls prog 92 #[.agg #[.pointer (some ⟨V,0,none⟩),.string ⟨#[]⟩,.int .i64 b,.int .u64 s,.pointer none]] w λe a=>e=.returned (.bool false)/\Kp [] w a:=by
 have f:∀ W:World,Sem.run prog (Op.equalIn 9999 85 (.pointer none) (.pointer none)) W=.ok true W:=λW=>zD9 9998 W;have d:¬b=0:=oM
 go_enter func92,ntmps92;go_wp2;go_ret;exact⟨rfl,kF.alloc _⟩
theorem qV1(E:Env)(n:Nat)(h:HL)(l:Lnk (Tn n))(w:World)(g:RL E.O n w h l)(j:l.key=⟨#[]⟩):
  Calls prog 92 #[τ E.V h] w λe k=>e=.returned (.bool false)/\Kp [] w k:=by
 have f:h.key=⟨#[]⟩:=by rw[g.1,j]
 have a:=g.2
 cases hx:l.ref with
 | none=>
  rw[hx] at a;obtain⟨b,d,q,c,_⟩:=a;have e:τ E.V h=.agg #[ϖ E.V,.string ⟨#[]⟩,ϊ 0,.int .u64 0,ϖ q]:=by rw[τ,f,b,d,HL.ptr,c];rfl
  rw[e];exact jJ8 E.V q w
 | some x=>
  rw[hx] at a;obtain⟨b,d,c,i⟩:=a;have m:=E.pos n _ _ _ i;have e:τ E.V h=.agg #[ϖ E.V,.string ⟨#[]⟩,ϊ h.b,.int .u64 h.s,.pointer none]:=by rw[τ,f,HL.ptr,c];rfl
  rw[e];exact jK0 E.V h.b h.s (by rw[b];omega) w
def qG1(l:List KV)(k:ByteArray):Option KV:=l.find? fun q=>decide (q.k=k)
def qN2(l:List KV)(k:ByteArray):ByteArray:=((qG1 l k).map KV.v).getD ⟨#[]⟩
theorem jQ3{k}{a b c}(g:∀ q∈a,q.k≠k)(h:∀ q∈c,q.k≠k):qG1 (a++b++c) k=qG1 b k:=by
 unfold qG1;rw[List.find?_append,List.find?_append];have e:a.find? (λq=>decide (q.k=k))=none:=by rw[List.find?_eq_none];intro q d;simp[g q d]
 have f:c.find? (λq=>decide (q.k=k))=none:=by rw[List.find?_eq_none];intro q d;simp[h q d]
 rw[e,f];simp
theorem jQ4{l}(b:Sorted l)(k):qG1 l k=if qG7 l (qB0 l k) k then l[qB0 l k]? else none:=by
 by_cases h:qG7 l (qB0 l k) k=true
 .rw[if_pos h];unfold qG7 at h;split at h
  .next q a=>
   have f:q.k=k:=by simpa using h
   have c:=(gS a).1;rw[a];unfold qG1;rw[<-tD (qB0 l k) l,List.find?_append,List.find?_eq_none.2 (λx g=>?_),dG c,(gS a).2]
   .simp[f]
   .have:kl x.k k=true:=zI1 x (by rw[<-xP4 b k];exact g);simp[qI9 this]
  .cases h
 .rw[if_neg h];have d:¬∃ q∈l,q.k=k:=λa=>h ((zM8 b k).2 a);unfold qG1;rw[List.find?_eq_none];intro q a;simp only[decide_eq_true_eq];exact λe=>d ⟨q,a,e⟩
theorem Good.row{n:Nat}{lo}{t}(h:Good (n+1) lo t):Row0 n lo (η t):=⟨h.head,λm a=>⟨(h.all m a).1,(h.all m a).2.2⟩,h.pair⟩
theorem zB0{O:qE5}{n:Nat}{w}{hs}{ls}(a:Both (RL O n w) hs ls)(e:ls.Pairwise (qQ2 n)):Rise hs:=by
 unfold Rise;rw[List.pairwise_iff_getElem];intro i j b d c;have f:=a.1;have:=pG e i j oM oM c;rw[(a.2 i b oM).1,(a.2 j d oM).1];exact this.1
theorem zU0{O:qE5}{n:Nat}{w}{hs}{ls}(c:Both (RL O n w) hs ls)(k):hs.findIdx (λl=>kl k l.key)=ls.findIdx (λl=>kl k l.key):=by
 have e:=c.map_eq λx y d=>d.1;have a:∀ (l:List HL),l.findIdx (λl=>kl k l.key)=(l.map HL.key).findIdx (λx=>kl k x):=λl=>by rw[List.findIdx_map];rfl
 have b:∀ (l:List (Lnk (Tn n))),l.findIdx (λl=>kl k l.key)=(l.map Lnk.key).findIdx (λx=>kl k x):=λl=>by rw[List.findIdx_map];rfl
 rw[a,b,e]
def zF9(w:World)(s:Value):Nat:=match s with
 | .pointer (some a)=>match w.cell? ⟨a.block,0,none⟩ with
  | some (.int _ i)=>i.toNat
  | _=>0
 | _=>0
theorem zP3{O:qE5}{n:Nat}{w}{q:Nat}{t}(h:RN O n w q t):zF9 w (.pointer (some ⟨q,0,none⟩))=n:=by
 obtain⟨f,i,g,c,e,d,a,b⟩:=h.obj;have:=ξ a 0;simp only[ι,zG,zH] at this;simp[zF9,this]
theorem xR2{n:Nat}{lo k}{t}(d:Good (n+1) lo t)(u:kl k lo=false)(s:1<=cnt (n+1) t):
  ∃ (h:qA6 (η t) k<(η t).length),Good n (η t)[qA6 (η t) k].key (η t)[qA6 (η t) k].sub/\3<=cnt n (η t)[qA6 (η t) k].sub/\kl k (η t)[qA6 (η t) k].key=false/\qG1 (cont (n+1) t) k=qG1 (cont n (η t)[qA6 (η t) k].sub) k:=by
 have x:η t≠[]:=λe=>by
  have f:1<=(η t).length:=s;rw[e] at f;simp at f
 obtain⟨A,m,B,e,g,v,y,z⟩:=zB6 d.row x u;have o:qA6 (η t) k<(η t).length:=by rw[<-g,e];simp
 have w:(η t)[qA6 (η t) k]=m:=by
  have:(η t)[qA6 (η t) k]?=some m:=by rw[<-g,e];simp
  rw[gQ o] at this;exact Option.some.inj this
 have i:=d.all m (by show m∈η t;rw[e];simp);refine⟨o,?_⟩;rw[w];refine⟨i.1,i.2.1,v,?_⟩;show qG1 ((η t).flatMap λl=>cont n l.sub) k=_;rw[e,fA,fC,<-aA];refine jQ3 (λq c=>?_) (λq c=>?_)
 .obtain⟨a,r,c⟩:=mF c;exact qI9 (y a r q c)
 .obtain⟨b,j,c⟩:=mF c;have p:=d.all b (by show b∈η t;rw[e];simp[j]);exact (qI9 (qN6 (z b j) ((qK9 n b.key b.sub p.1).2 q c).2)).symm
def zU5(E:Env)(w0 w:World)(k:ByteArray)(all:List KV)(s:Value):Prop:=
 ∃ (m:Nat) (t:Tn m) (lo:ByteArray) (q:Nat),s=.pointer (some ⟨q,0,none⟩)∧RN E.O m w q t∧Good m lo t∧kl k lo=false∧1≤cnt m t∧qG1 all k=qG1 (cont m t) k∧m≤1000000
theorem qZ0(E)(r)(h)(k)(w)(X:E.Dev w)(x:RR E w h r)(hg:RGood r)(a8:r.cont.length<=1000000):
  Calls prog 102 #[τ E.V h,.string k] w λe w'=>e=.returned (.tuple #[.string (qN2 r.cont k),.bool (qG1 r.cont k).isSome])/\E.To w w':=by
 cases r with
 | none=>
  have x:h=⟨⟨#[]⟩,0,0,none⟩:=x;subst x;have v:=zh X;clear X;rw[τ];go_enter func102,ntmps102;go_wp2_with fail;refine (qY7 E.V _).mono ?_;rintro e w1 ⟨rfl,H⟩;have bi:Kp [] w w1:=(kF.alloc _).tr H;go_wp2
  go_ret2
  exact⟨rfl,Env.To.of0 v bi⟩
 | «at» n l=>
  have x:RL E.O n w h l:=x;obtain⟨g1,g2,g3⟩:=hg;have bt:=zS1 ⟨g1,g2,g3⟩;have a8:(cont n l.sub).length<=1000000:=a8;obtain⟨F,ax⟩:=eX (cont n l.sub);have HA:Hid (Root.cont (.at n l)=F):=ax.symm;have v:=zh X;have HG:=zh g2;clear X;obtain⟨tc,bv,bw⟩:∃ tc:Array Value,tc=(ϟ E.V h)/\τ E.V h=.agg tc:=⟨_,rfl,rfl⟩;rw[τ];go_enter func102,ntmps102;go_wp2_with fail;obtain⟨w0,a9,an,ap⟩:=alA w (.cells (ϟ E.V h) 89);rw[<-a9];clear a9;have ac:=Env.To.of0 v ap;refine (qV1 E n h l w0 (Env.RL x v ac) g1).mono ?_;rintro e w1 ⟨rfl,H⟩;have V:=ac.tail H;have R:=H.hp an;have bh:=ζ R;have b0:=ξ R;go_wp2_with fail;refine (qX3 E n h l w1 V.dev (Env.RL x v V)).mono ?_;rintro e w2 ⟨q,rfl,ar,ad⟩;have av:=V.trans ad;have ao:=ad.new v lR R;have bg:=zh av;have bc:=zh ao;have be:=zh ar;clear ad av ao ar H V R ap ac an b0 bh;go_wp2
  go_loopw [6] (λs wr=>zU5 E w wr k F s/\E.To w wr/\Ϙ wr w.heap.size (.cells (ϟ E.V h) 89)) (λs wr=>zF9 wr s)
  case atStart=>exact⟨⟨n,l.sub,l.key,q,rfl,be,HG,by rw[g1];exact qN5 _,oM,by rw[ax],oM⟩,bg,bc⟩
  case round=>
   obtain⟨⟨m,t,lo,q',rfl,T,g,bm,bj,N,Y⟩,U,hB⟩:=hrel
   cases m with
   | zero=>
    have bn:=zP3 T;obtain⟨vp,b,z⟩:=T;have ae:=ζ b;have P:=ξ b 0;simp only[ι,zG,zH,zI] at P;have bk:(prs t).length<=10000:=qK0 0 lo t g;clear bn;go_wp2_with fail;refine (zH7 q' 0 vp _ (prs t) k wr b z oM g.sorted).mono ?_;rintro e Q ⟨rfl,o⟩;have p:=U.tail o;have a6:=o.hp b;have af:=z.keep0 o;have C:Hid (qG1 F k=if qG7 (prs t) (qB0 (prs t) k) k then (prs t)[qB0 (prs t) k]? else none):=by
     show _=_;rw[N];exact jQ4 (l:=prs t) g.sorted k
    have al:=zh p;have bu:=ζ a6;have r1:=ξ a6 1;simp only[ι,zG,zH,zI] at r1;obtain⟨i,B⟩:=eY (qB0 (prs t) k);rw[B] at C |-;by_cases A:qG7 (prs t) i k=true
    .have a5:i<(prs t).length:=by
      unfold qG7 at A;by_cases h:i<(prs t).length
      .exact h
      .rw[gN oM] at A;cases A
     have y:=C.out;rw[if_pos A,gQ a5] at y;have Z:=zh y;obtain⟨G,j,cp,cur,fr,rfl,bl,O,M⟩:=af.pair oM;obtain⟨_,c1⟩:=M i a5;have a1:=ξ O (j+i*2+1);rw[c1] at a1;have bq:=ζ O;have br:(i:Int)<((prs t).length:Int):=oM
     rw[A];clear M af z y C N g b U o p B P ae;go_wp2
     go_ret2
     refine⟨?_,al⟩;rw[HA.out,qN2,Z.out];rfl
    .have ay:qG7 (prs t) i k=false:=by simpa using A
     have y:=C.out;rw[ay] at y;have az:qG1 F k=none:=by simpa using y
     have Z:=zh az;rw[ay];clear af z y az C N g b U o p B P ae;go_wp2
     go_ret2
     refine⟨?_,al⟩;rw[HA.out,qN2,Z.out];rfl
   | succ m=>
    have bo:=zP3 T;have bd:=zh bo;obtain⟨vl,b,d,z,L⟩:=T;obtain⟨bb,ag,ba,ah,ai⟩:=xR2 g bm bj;have bk:=(qK0 (m+1) lo t g).1;have bp:=L.1;have aj:d.findIdx (λl=>kl k l.key)-1=qA6 (η t) k:=by unfold qA6;rw[zU0 L]
    have a7:=zB0 L g.pair;obtain⟨G,j,cp,cur,fr,rfl,bl,O,M⟩:=z.link oM;obtain⟨i,B⟩:=eY (qA6 (η t) k);simp only[B] at bb ag ba ah ai aj;have a4:i<d.length:=oM
    obtain⟨c0,c1,c2,c3⟩:=M i a4;have bf:Hid (RL E.O m wr d[i] (η t)[i]):=L.2 i a4 bb;have ae:=ζ b;have P:=ξ b 0;simp only[ι,zG,zH,zI] at P;have bs:(0:Int)<((m+1:Nat):Int):=oM
    have ak:Hid (∀ (W:World) (u:Nat),RN E.O m W u (η t)[i].sub->E.To w W->Ϙ W w.heap.size (.cells (ϟ E.V h) 89)->(zU5 E w W k F (ϖ u)/\E.To w W/\Ϙ W w.heap.size (.cells (ϟ E.V h) 89))/\zF9 W (ϖ u)<m+1):=by
     show ∀ (W:World) (u:Nat),_;intro W u h1 h2 h3;refine⟨⟨⟨m,_,_,u,rfl,h1,ag,ah,oM,by rw[N,ai],oM⟩,h2,h3⟩,?_⟩;rw[zP3 h1];omega
    have am:Hid (∀ W:World,Kp [] wr W->Ω 158 #[ϖ q',.string k] W λe w'=>e=ϱ (ϊ (i:Nat))/\Kp [] W w'):=by
     show ∀ W:World,_;intro W aq;have:=zU1 q' _ _ _ d k W (aq.hp b) (z.keep0 aq) oM a7;rw[aj] at this;exact this
    clear N ag ba ah ai aj a7 M L g B;go_wp2_with fail;have a:=n3 b O hB;refine wp_region_held_drew (S:=λW=>Ϙ W q' (ι ((m+1:Nat):Int) (.slice none 0 0) (.slice (some ⟨G,j,none⟩) d.length cp))/\Ϙ W G (.cells cur 87 fr)/\Ϙ W w.heap.size (.cells (ϟ E.V h) 89)) kR a (λ_=>?_);refine zW 0 (.agg (ϟ E.V h)) a (·.2.2) ?_;refine zP 1 q' 0 a ?_;refine zP 2 q' 0 a ?_;refine zP 3 q' 2 a ?_;refine zV 4 (.slice (some ⟨G,j,none⟩) d.length cp) rfl (λW c=>by have D:=ξ c.1 2;simp only[ι,zG,zH,zI] at D;clear c;go_simp) a ?_;refine zP 5 q' 0 a ?_;refine zU 6 (.string k) a ?_;refine zP 10 q' 0 a ?_;refine zP 11 q' 0 a ?_;refine zP 12 q' 0 a ?_;refine zV 13 (ϊ ((m+1:Nat):Int)) rfl (λW c=>by have D:=ξ c.1 0;simp only[ι,zG,zH,zI] at D;clear c;go_simp) a ?_;refine zq 7 λK hK=>?_;go_simp;refine (am wr.drew (kF.drew)).mono ?_;rintro e Q ⟨rfl,o⟩;have I:Kp [] wr Q:=((Kp.refl _ wr).drew).tr o;have f:=And.intro (I.hp b) (And.intro (I.hp O) (I.hp hB));have p:=U.tail I;refine hK.out _ _ f (λ_=>?_);clear hK K o a
    try simp only[zZ]
    refine zU 8 (.pointer (some ⟨G,j+i*4,none⟩)) f ?_;refine zV 9 (.agg #[.string d[i].key,ϊ d[i].b,.int .u64 d[i].s,.pointer d[i].ptr]) rfl (λW c=>by have D:=ξ c.2.1 (j+i*4);have a1:=ξ c.2.1 (j+i*4+1);have a2:=ξ c.2.1 (j+i*4+2);have a3:=ξ c.2.1 (j+i*4+3);rw[c0] at D;rw[c1] at a1;rw[c2] at a2;rw[c3] at a3;clear c;go_simp) f ?_;refine zq 14 λK hK=>?_;go_simp;refine (qJ4 E m d[i] h (η t)[i] ((m+1:Nat):Int) Q p.dev (RL.keep bf I (Apt.nil _ _)) oM).mono ?_;rintro e w4 ⟨u,rfl,au,J⟩;have aw:=p.trans J;have aa:=J.new v lR f.2.2;have ab:=n3 (J.kp.heap f.1 (λY=>E.apt Q p.dev _ Y _ _ _ f.1 dC)) (J.kp.heap f.2.1 (λY=>E.apt Q p.dev _ Y _ _ _ f.2.1 dC)) aa
    refine zk hK ab ?_
    refine zq 15 λK hK=>?_;go_simp;refine hK.out _ _ ab (λ_=>?_);refine zd ?_;have HR:=ak.out w4 u au aw aa;clear f ab au J aw aa ak am;go_wp2;rw[bd.out];exact HR
theorem kN3{n:Nat}{lo k}{t}(b:Good (n+1) lo t)(l:kl k lo=false)(j:1<=cnt (n+1) t){W}{d:Nat}(h:qA6 (η t) k<(η t).length)(f:Made n (η t)[qA6 (η t) k] d W)(c:∀ x∈W,x.key.size<=8):
  (∀ x∈(η t).take (qA6 (η t) k)++W++(η t).drop (qA6 (η t) k+1),x.key.size<=8)/\meas qA2 ((η t).take (qA6 (η t) k)++W++(η t).drop (qA6 (η t) k+1))<=145:=by
 constructor
 .intro x a;simp only[List.mem_append] at a;rcases a with (a|a)|a
  .exact (b.all x (mT a)).2.2
  .exact c x a
  .exact (b.all x (mD a)).2.2
 .have g:=f.meas c;have i:meas qA2 (η t)<=126:=b.fits;have e:=qN8 qA2 (η t) (qA6 (η t) k);rw[dG h,qC1] at e;rw[qD7,qD7];omega
theorem kR7(E:Env)(r h:HL)(l:Lnk (Tn 0))(q:Nat)(p:KV)(w:World)(hd:E.Dev w)(ac:h.key=l.key)(hN:RN E.O 0 w q l.sub)(D:Good 0 l.key l.sub)(hp:qC6 p)(hc:1<=cnt 0 l.sub)(d:qG7 (prs l.sub) (qB0 (prs l.sub) p.k) p.k=true):
  Calls prog 118 #[τ E.V r,qC0 h,.pointer (some ⟨q,0,none⟩),.agg #[.string p.k,.string p.v]] w λe w'=>∃ v',e=.returned v'/\RLs E.O 0 w' v' (qD8 0 l p)/\E.To w w':=by
 have av:(prs l.sub).length<=10000:=qK0 0 l.key l.sub D;have au:1<=(prs l.sub).length:=hc;have F:Sorted (prs l.sub):=D.sorted;have ax:ρ p<=21:=by obtain⟨k,O,h3⟩:=hp;unfold ρ;omega
 have aa:meas ρ (qH4 p (prs l.sub))<=210:=by
  have e:qH4 p (prs l.sub)=ins p (prs l.sub):=(qT3 F p).symm;rw[e];have k:=zP5 p F;have O:meas ρ (prs l.sub)<=126:=D.fits;omega
 have ai:∀ q∈qH4 p (prs l.sub),ρ q<=21:=by
  have e:qH4 p (prs l.sub)=ins p (prs l.sub):=(qT3 F p).symm;rw[e];intro q f;rcases zG1 f with rfl|f
  .exact ax
  .obtain⟨⟨k,O,h3⟩,_⟩:=D.all q f;unfold ρ;omega
 have an:=zh ac;have al:=zh d;clear d;have HD:=zh hd;have G:=zh (n2 aa ai);obtain⟨vp,f,ah⟩:=hN;have ay:=ζ f;have az:q<w.heap.size+1:=oM
 have a0:q<w.heap.size+1+1:=oM
 have q0:=ξ f 0;simp only[ι,zG,zH,zI] at q0;clear hd ac aa ai;rw[τ,qC0];go_enter func118,ntmps118;go_wp2_with fail;obtain⟨w1,aj,aq,Q,T,C,a1⟩:=alD w (.cells (ϟ E.V r) 89) (.cells (ϡ h) 87) (.cells #[.string p.k,.string p.v] 185)
 rw[<-aj];clear aj aq a1 q0 ay az a0;have V:=Env.To.of0 HD C;have J:=C.hp f;have M:=ah.keep0 C;clear f ah;refine (zH7 q 0 vp _ (prs l.sub) p.k w1 J M oM F).mono ?_;rintro e N ⟨rfl,m⟩;have ar:=V.tail m;have ad:=m.hp J;have ae:=M.keep0 m;have R:=m.hp Q;have U:=m.hp T;clear m J M Q T V C;obtain⟨A,B,hv⟩:∃ A B,vp=.slice A (prs l.sub).length B:=by
  rcases ae.val with⟨h0,b,c,k,_⟩|⟨g,a3,cap,cur,fr,k,_⟩
  .rw[h0];exact⟨b,c,k⟩
  .exact⟨_,cap,k⟩
 subst hv;obtain⟨i,z⟩:=eY (qB0 (prs l.sub) p.k);have a2:i<=(prs l.sub).length:=by rw[<-z];exact qX0 _ _
 rw[z];have d:=al.out;rw[z] at d;have aw:i+1<=(prs l.sub).length:=by
  by_cases h:i<(prs l.sub).length
  .omega
  .unfold qG7 at d;rw[gN oM] at d
   first | (cases d;done) | omega
 have ab:(prs l.sub).take i++[p]++(prs l.sub).drop (i+1)=qH4 p (prs l.sub):=by unfold qH4;rw[z,d];rfl
 have am:=zh ab;clear ab;rw[d];clear d z;go_wp2_with fail;have a:=n3 ad R U;refine wp_region_held_drew (S:=λW=>Ϙ W q (ι 0 (.slice A (prs l.sub).length B) (.slice none 0 0))/\W.heap[w.heap.size+1]?=some (.cells (ϡ h) 87)/\W.heap[w.heap.size+1+1]?=some (.cells #[.string p.k,.string p.v] 185)) kR a (λ_=>?_);refine zU 0 (ϖ (w.heap.size+1)) a ?_;refine zV 1 (.string h.key) rfl (λW t=>by have c:=ξ t.2.1 0;simp at c;clear t;go_simp) a ?_;refine zP 2 q 0 a ?_;refine zP 3 q 0 a ?_;refine zP 4 q 1 a ?_;refine zV 5 (.slice A (prs l.sub).length B) rfl (λW t=>by have c:=ξ t.1 1;simp[ι] at c;clear t;go_simp) a ?_;refine zU 6 (ϊ i) a ?_;refine zU 7 (ϊ ((i+1:Nat):Int)) a ?_;refine zW 8 (.agg #[.string p.k,.string p.v]) a (·.2.2) ?_;refine zq 9 λK hK=>?_;go_simp;obtain⟨w3,ak,P,n⟩:=alF N (.cells #[.string p.k,.string p.v] 185);rw[<-ak];clear ak;have v:=And.intro (n.hp ad) (And.intro (n.hp R) (n.hp U));have af:=ae.keep0 n;have X:=ar.tail n;refine hK.out _ _ v (λ_=>?_);clear hK K a
 try simp only[zZ]
 refine zq 10 λK hK=>?_;go_simp;have ag:Slc w3 185 2 (.slice (some ⟨N.heap.size,0,none⟩) 1 1) [p].length (qA3 [p]):=⟨rfl,.inr ⟨N.heap.size,0,1,_,_,rfl,lR,lR,P,λj u hu=>by simpa [qA3,pcs] using hu⟩⟩
 try rw[show ((i:Int)+1)=((i+1:Nat):Int) from by omega]
 refine (zR9 _ _ (prs l.sub) [p] i (i+1) w3 af ag oM aw au av sM).mono ?_;rintro e w4 ⟨v4,rfl,L,o⟩;rw[am.out] at L;have Y:=X.tail o;have y:=And.intro (o.hp v.1) (And.intro (o.hp v.2.1) (o.hp v.2.2));refine hK.out _ _ y (λ_=>?_);clear hK K v o X ag P n af
 try simp only[zZ]
 refine zq 11 λK hK=>?_;go_simp;refine (qZ6 E.O h.key v4 (qH4 p (prs l.sub)) w4 L (by have:=qK1 ρ (qH4 p (prs l.sub)) (λx _=>by unfold ρ;omega);have:=G.out.1;omega) G.2 G.1).mono ?_;rintro e w5 ⟨v5,rfl,H,s⟩;have Z:=Y.tail s;have I:=And.intro (s.hp y.1) (And.intro (s.hp y.2.1) (s.hp y.2.2));refine hK.out _ _ I (λ_=>?_);clear hK K y s Y
 try simp only[zZ]
 refine zq 12 λK hK=>?_;go_simp;refine hK.out _ _ I (λ_=>?_);refine zd ?_;rw[an.out] at H;have ao:=zh H;have ap:=zh Z;clear I H Z L;go_wp2;go_ret;exact⟨v5,rfl,ao,ap⟩
theorem kR8(E:Env)(r h:HL)(l:Lnk (Tn 0))(q:Nat)(p:KV)(w:World)(hd:E.Dev w)(ac:h.key=l.key)(hN:RN E.O 0 w q l.sub)(D:Good 0 l.key l.sub)(hp:qC6 p)(hc:1<=cnt 0 l.sub)(d:qG7 (prs l.sub) (qB0 (prs l.sub) p.k) p.k=false):
  Calls prog 118 #[τ E.V r,qC0 h,.pointer (some ⟨q,0,none⟩),.agg #[.string p.k,.string p.v]] w λe w'=>∃ v',e=.returned v'/\RLs E.O 0 w' v' (qD8 0 l p)/\E.To w w':=by
 have av:(prs l.sub).length<=10000:=qK0 0 l.key l.sub D;have au:1<=(prs l.sub).length:=hc;have F:Sorted (prs l.sub):=D.sorted;have ax:ρ p<=21:=by obtain⟨k,O,h3⟩:=hp;unfold ρ;omega
 have aa:meas ρ (qH4 p (prs l.sub))<=210:=by
  have e:qH4 p (prs l.sub)=ins p (prs l.sub):=(qT3 F p).symm;rw[e];have k:=zP5 p F;have O:meas ρ (prs l.sub)<=126:=D.fits;omega
 have ai:∀ q∈qH4 p (prs l.sub),ρ q<=21:=by
  have e:qH4 p (prs l.sub)=ins p (prs l.sub):=(qT3 F p).symm;rw[e];intro q f;rcases zG1 f with rfl|f
  .exact ax
  .obtain⟨⟨k,O,h3⟩,_⟩:=D.all q f;unfold ρ;omega
 have an:=zh ac;have al:=zh d;clear d;have HD:=zh hd;have G:=zh (n2 aa ai);obtain⟨vp,f,ah⟩:=hN;have ay:=ζ f;have az:q<w.heap.size+1:=oM
 have a0:q<w.heap.size+1+1:=oM
 have q0:=ξ f 0;simp only[ι,zG,zH,zI] at q0;clear hd ac aa ai;rw[τ,qC0];go_enter func118,ntmps118;go_wp2_with fail;obtain⟨w1,aj,aq,Q,T,C,a1⟩:=alD w (.cells (ϟ E.V r) 89) (.cells (ϡ h) 87) (.cells #[.string p.k,.string p.v] 185)
 rw[<-aj];clear aj aq a1 q0 ay az a0;have V:=Env.To.of0 HD C;have J:=C.hp f;have M:=ah.keep0 C;clear f ah;refine (zH7 q 0 vp _ (prs l.sub) p.k w1 J M oM F).mono ?_;rintro e N ⟨rfl,m⟩;have ar:=V.tail m;have ad:=m.hp J;have ae:=M.keep0 m;have R:=m.hp Q;have U:=m.hp T;clear m J M Q T V C;obtain⟨A,B,hv⟩:∃ A B,vp=.slice A (prs l.sub).length B:=by
  rcases ae.val with⟨h0,b,c,k,_⟩|⟨g,a3,cap,cur,fr,k,_⟩
  .rw[h0];exact⟨b,c,k⟩
  .exact⟨_,cap,k⟩
 subst hv;obtain⟨i,z⟩:=eY (qB0 (prs l.sub) p.k);have a2:i<=(prs l.sub).length:=by rw[<-z];exact qX0 _ _
 rw[z];have d:=al.out;rw[z] at d;have aw:i<=(prs l.sub).length:=by
  by_cases h:i<(prs l.sub).length
  .omega
  .unfold qG7 at d;rw[gN oM] at d
   first | (cases d;done) | omega
 have ab:(prs l.sub).take i++[p]++(prs l.sub).drop (i)=qH4 p (prs l.sub):=by unfold qH4;rw[z,d];rfl
 have am:=zh ab;clear ab;rw[d];clear d z;go_wp2_with fail;have a:=n3 ad R U;refine wp_region_held_drew (S:=λW=>Ϙ W q (ι 0 (.slice A (prs l.sub).length B) (.slice none 0 0))/\W.heap[w.heap.size+1]?=some (.cells (ϡ h) 87)/\W.heap[w.heap.size+1+1]?=some (.cells #[.string p.k,.string p.v] 185)) kR a (λ_=>?_);refine zU 0 (ϖ (w.heap.size+1)) a ?_;refine zV 1 (.string h.key) rfl (λW t=>by have c:=ξ t.2.1 0;simp at c;clear t;go_simp) a ?_;refine zP 2 q 0 a ?_;refine zP 3 q 0 a ?_;refine zP 4 q 1 a ?_;refine zV 5 (.slice A (prs l.sub).length B) rfl (λW t=>by have c:=ξ t.1 1;simp[ι] at c;clear t;go_simp) a ?_;refine zU 6 (ϊ i) a ?_;refine zU 7 (ϊ ((i:Nat):Int)) a ?_;refine zW 8 (.agg #[.string p.k,.string p.v]) a (·.2.2) ?_;refine zq 9 λK hK=>?_;go_simp;obtain⟨w3,ak,P,n⟩:=alF N (.cells #[.string p.k,.string p.v] 185);rw[<-ak];clear ak;have v:=And.intro (n.hp ad) (And.intro (n.hp R) (n.hp U));have af:=ae.keep0 n;have X:=ar.tail n;refine hK.out _ _ v (λ_=>?_);clear hK K a
 try simp only[zZ]
 refine zq 10 λK hK=>?_;go_simp;have ag:Slc w3 185 2 (.slice (some ⟨N.heap.size,0,none⟩) 1 1) [p].length (qA3 [p]):=⟨rfl,.inr ⟨N.heap.size,0,1,_,_,rfl,lR,lR,P,λj u hu=>by simpa [qA3,pcs] using hu⟩⟩
 try rw[show ((i:Int)+1)=((i+1:Nat):Int) from by omega]
 refine (zR9 _ _ (prs l.sub) [p] i (i) w3 af ag oM aw au av sM).mono ?_;rintro e w4 ⟨v4,rfl,L,o⟩;rw[am.out] at L;have Y:=X.tail o;have y:=And.intro (o.hp v.1) (And.intro (o.hp v.2.1) (o.hp v.2.2));refine hK.out _ _ y (λ_=>?_);clear hK K v o X ag P n af
 try simp only[zZ]
 refine zq 11 λK hK=>?_;go_simp;refine (qZ6 E.O h.key v4 (qH4 p (prs l.sub)) w4 L (by have:=qK1 ρ (qH4 p (prs l.sub)) (λx _=>by unfold ρ;omega);have:=G.out.1;omega) G.2 G.1).mono ?_;rintro e w5 ⟨v5,rfl,H,s⟩;have Z:=Y.tail s;have I:=And.intro (s.hp y.1) (And.intro (s.hp y.2.1) (s.hp y.2.2));refine hK.out _ _ I (λ_=>?_);clear hK K y s Y
 try simp only[zZ]
 refine zq 12 λK hK=>?_;go_simp;refine hK.out _ _ I (λ_=>?_);refine zd ?_;rw[an.out] at H;have ao:=zh H;have ap:=zh Z;clear I H Z L;go_wp2;go_ret;exact⟨v5,rfl,ao,ap⟩
theorem zK5{α c:Type}{R:α->c->Prop}{a:List α}{b:List c}(h:Both R a b){i:Nat}(d:i<a.length)(e:i<b.length):R a[i] b[i]:=h.2 i d e
theorem kR6(E:Env)(n:Nat)
  (ih:∀ (r h:HL) (l:Lnk (Tn n)) (q:Nat) (p:KV) (w:World),E.Dev w->h.key=l.key->RN E.O n w q l.sub->Good n l.key l.sub->qC6 p->kl p.k l.key=false->1<=cnt n l.sub->l.key.size<=8->Calls prog 118 #[τ E.V r,qC0 h,.pointer (some ⟨q,0,none⟩),.agg #[.string p.k,.string p.v]] w λe w'=>∃ v',e=.returned v'/\RLs E.O n w' v' (qD8 n l p)/\E.To w w')
  (hn:n<=100000) (r h:HL) (l:Lnk (Tn (n+1))) (q:Nat) (p:KV) (w:World) (hd:E.Dev w) (bq:h.key=l.key) (hN:RN E.O (n+1) w q l.sub) (Q:Good (n+1) l.key l.sub) (hp:qC6 p) (hk:kl p.k l.key=false) (hc:1<=cnt (n+1) l.sub):
  Calls prog 118 #[τ E.V r,qC0 h,.pointer (some ⟨q,0,none⟩),.agg #[.string p.k,.string p.v]] w λe w'=>∃ v',e=.returned v'/\RLs E.O (n+1) w' v' (qD8 (n+1) l p)/\E.To w w':=by
 have b9:=(qK0 (n+1) l.key l.sub Q).1;obtain⟨J,C,af,D,_⟩:=xR2 Q hk hc;have aa:=(Q.all _ (gM J)).2.2;obtain⟨ah,a4,ab⟩:=zB7 n (η l.sub)[qA6 (η l.sub) p.k] p C hp D aa oM;obtain⟨ad,am⟩:=kN3 Q hk hc J ab (λx L=>(ah.all x L).2);have bz:(qD8 n (η l.sub)[qA6 (η l.sub) p.k] p).length<=2:=by
  rcases ab with⟨a,e,_⟩|⟨a,b,e,_⟩<;>rw[e]<;>simp
 have ag:qD8 (n+1) l p=qC4 n l.key ((η l.sub).take (qA6 (η l.sub) p.k)++qD8 n (η l.sub)[qA6 (η l.sub) p.k] p++(η l.sub).drop (qA6 (η l.sub) p.k+1)):=by
  show (match (η l.sub)[qA6 (η l.sub) p.k]? with
   | some m=>qC4 n l.key ((η l.sub).take (qA6 (η l.sub) p.k)++qD8 n m p++(η l.sub).drop (qA6 (η l.sub) p.k+1))
   | none=>[])=_
  rw[gQ J]
 have br:=Q.pair;obtain⟨i,an⟩:=eY (qA6 (η l.sub) p.k);simp only[an] at J C af D aa ah a4 ab ad am bz ag;obtain⟨ls,ap⟩:=eY (η l.sub);simp only[ap] at J C af D aa ah a4 ab ad am bz ag b9 an;have b3:=zh ap;have b0:=zh an;have b7:=zh ag;have HF:Hid ((∀ x∈ls.take i++qD8 n ls[i] p++ls.drop (i+1),qA2 x<=21)/\meas qA2 (ls.take i++qD8 n ls[i] p++ls.drop (i+1))<=210):=⟨λx L=>by have:=ad x L;unfold qA2;omega,oM⟩;have b4:Hid (ls.Pairwise (qQ2 n)):=by show List.Pairwise _ _;rw[<-ap];exact br
 have ac:Hid (Good n ls[i].key ls[i].sub/\3<=cnt n ls[i].sub/\kl p.k ls[i].key=false/\ls[i].key.size<=8):=⟨C,af,D,aa⟩;have b2:=zh bq;have z:=zh hd;have HP:=zh hp;have b1:=ih;clear hd bq Q hk hc C af D aa ah a4 ab ad am ag br hp ih;obtain⟨vl,Y,g,aw,P⟩:=hN;rw[b3.out] at P;have a7:=zh P.1;have ao:i<g.length:=by have:=a7.out;omega
 have cb:g.length<=10000:=by have:=a7.out;omega
 obtain⟨gb,U,cp,cur,fr,rfl,ch,bu,bo⟩:=aw.link oM;obtain⟨c0,c1,c2,c3⟩:=bo i ao;obtain⟨F,aq⟩:∃ F:Int,((n+1:Nat):Int)=F:=⟨_,rfl⟩;rw[aq] at Y;have a8:=zh aq.symm;have ci:¬F=0:=oM
 have bt:=zB0 P b4.out;have bx:g.findIdx (λl=>kl p.k l.key)-1=i:=by rw[zU0 P];exact b0
 have HB:=zh P;have cd:=ζ Y;have ce:q<w.heap.size+1:=oM
 have au:q<w.heap.size+1+1:=oM
 have q0:=ξ Y 0;simp only[ι,zG,zH,zI] at q0;clear bo P aq;rw[τ,qC0];go_enter func118,ntmps118;go_wp2_with fail;obtain⟨w1,C,a9,bb,be,N,cf⟩:=alD w (.cells (ϟ E.V r) 89) (.cells (ϡ h) 87) (.cells #[.string p.k,.string p.v] 185)
 rw[<-C];clear C;have bg:=Env.To.of0 z N;have ar:=N.hp Y;have ax:=aw.keep0 N;have bv:=N.hp bu;have a5:Hid (Both (RL E.O n w1) g ls):=HB.out.mono λx y u=>RL.keep u N (Apt.nil _ _);clear Y aw bu HB q0 cd ce au N;have az:=zU1 q _ _ _ g p.k w1 ar ax oM bt;rw[bx] at az;refine az.mono ?_;rintro e w2 ⟨rfl,v⟩;have bh:=bg.tail v;have ae:=v.hp ar;have bw:=ax.keep0 v;have ba:=v.hp a9;have bc:=v.hp bb;have bf:=v.hp be;have R:=v.hp bv;have ay:w.heap.size<=w2.heap.size:=by have:=v.size;omega
 have a6:Hid (Both (RL E.O n w2) g ls):=a5.out.mono λx y u=>RL.keep u v (Apt.nil _ _);clear v ar ax bb be bg a9 bv az bx bt a5 cf;have au:=ζ ae;have ca:=ζ R;obtain⟨x,L⟩:=eY (g[i]);rw[L] at c0 c1 c2 c3;have HX:=zh L;clear L;have a0:=ξ R (U+i*4);rw[c0] at a0;have a1:=ξ R (U+i*4+1);rw[c1] at a1;have a2:=ξ R (U+i*4+2);rw[c2] at a2;have a3:=ξ R (U+i*4+3);rw[c3] at a3;have q2:=ξ ae 2;simp only[ι,zG,zH,zI] at q2;go_wp2_with fail;obtain⟨G,D,al,A⟩:=alA w2 (.cells (ϡ x) 87);rw[<-D];clear D;have o:=bh.tail A;have bs:=A.hp ae;have Z:=bw.keep0 A;have M:Hid (Both (RL E.O n G) g ls):=a6.out.mono λx y u=>RL.keep u A (Apt.nil _ _);obtain⟨X,bl⟩:=eY w2.heap.size;rw[bl] at al ay |-;have d:=n5 bs (A.hp bc) (A.hp bf) (A.hp ba) al;clear ae bw bc bf ba R A al a6 bh a0 a1 a2 a3 q2 au ca bl c0 c1 c2 c3 bs;obtain⟨j,hj⟩:=eX (i+1);have cj:IntKind.i64.wrap ((i:Int)+1)=(j:Int):=by rw[wK];omega
 have HJ:=zh hj;clear hj;refine wp_region_held_drew (S:=λW=>Ϙ W q (ι F (.slice none 0 0) (.slice (some ⟨gb,U,none⟩) g.length cp))/\W.heap[w.heap.size+1]?=some (.cells (ϡ h) 87)/\W.heap[w.heap.size+1+1]?=some (.cells #[.string p.k,.string p.v] 185)/\Ϙ W w.heap.size (.cells (ϟ E.V r) 89)/\Ϙ W X (.cells (ϡ x) 87)) kR d (λ_=>?_);refine zU 0 (ϖ (w.heap.size+1)) d ?_;refine zV 1 (.string h.key) rfl (λW t=>by have c:=ξ t.2.1 0;simp at c;clear t;go_simp) d ?_;refine zP 2 q 0 d ?_;refine zP 3 q 0 d ?_;refine zP 4 q 0 d ?_;refine zV 5 (ϊ F) rfl (λW t=>by have c:=ξ t.1 0;simp[ι] at c;clear t;go_simp) d ?_;refine zP 6 q 0 d ?_;refine zP 7 q 0 d ?_;refine zP 8 q 2 d ?_;refine zV 9 (.slice (some ⟨gb,U,none⟩) g.length cp) rfl (λW t=>by have c:=ξ t.1 2;simp[ι] at c;clear t;go_simp) d ?_;refine zU 10 (ϊ i) d ?_;refine zU 11 (ϊ i) d ?_;refine zU 12 (ϊ (j:Int)) d ?_;refine zW 13 (.agg (ϟ E.V r)) d (·.2.2.2.1) ?_;refine zW 14 (.agg (ϡ x)) d (·.2.2.2.2) ?_;refine zW 15 (.agg (ϟ E.V r)) d (·.2.2.2.1) ?_;refine zW 16 (.agg (ϡ x)) d (·.2.2.2.2) ?_;refine zP 17 q 0 d ?_;refine zP 18 q 0 d ?_;refine zP 19 q 0 d ?_;refine zV 20 (ϊ F) rfl (λW t=>by have c:=ξ t.1 0;simp[ι] at c;clear t;go_simp) d ?_;refine zW 22 (.agg #[.string p.k,.string p.v]) d (·.2.2.1) ?_;refine zq 21 λK hK=>?_;go_simp;have O:=o.tail (kF.drew);have bk:RL E.O n G.drew x ls[i]:=by have:=RL.keep (zK5 M ao J) ((Kp.refl [] _).drew) (Apt.nil _ _);rw[HX.out] at this;exact this
 refine (qJ4 E n x r ls[i] F G.drew O.dev bk (by have:=a8.out;omega)).mono ?_;rintro e w4 ⟨q4,rfl,bd,s⟩;have V:=O.trans s;have f:=n5 (s.kp.heap (k:=q) d.1 (λhm=>E.apt _ O.dev _ hm _ _ _ d.1 dC)) (s.new (k:=w.heap.size+1) z oM d.2.1) (s.new (k:=w.heap.size+1+1) z oM d.2.2.1) (s.new (k:=w.heap.size) z oM d.2.2.2.1) (s.new (k:=X) z ay d.2.2.2.2)
 have T:=Slc.keep (w:=G.drew) (Z.keep0 ((Kp.refl [] _).drew)) s.kp ((E.apt _ O.dev).sub dC);have ai:Hid (Both (RL E.O n w4) g ls):=M.out.mono λx y u=>Env.RL (RL.keep u ((Kp.refl [] G).drew) (Apt.nil _ _)) O.dev s;refine hK.out _ _ f (λ_=>?_);clear hK K d O bk Z M s o
 try simp only[zZ]
 refine zq 23 λK hK=>?_;go_simp;refine (b1 r x ls[i] q4 p w4 V.dev (by have:=(zK5 ai ao J).1;rw[HX.out] at this;exact this) bd ac.1 HP ac.2.2.1 (by have:=ac.out.2.1;omega) ac.2.2.2).mono ?_;rintro e G ⟨v3,rfl,b8,o⟩;have bi:=V.trans o;have I:=n5 (o.kp.heap (k:=q) f.1 (λhm=>E.apt _ V.dev _ hm _ _ _ f.1 dC)) (o.new (k:=w.heap.size+1) z oM f.2.1) (o.new (k:=w.heap.size+1+1) z oM f.2.2.1) (o.new (k:=w.heap.size) z oM f.2.2.2.1) (o.new (k:=X) z ay f.2.2.2.2)
 have Z:=Slc.keep T o.kp ((E.apt _ V.dev).sub dC);have M:Hid (Both (RL E.O n G) g ls):=ai.out.mono λx y u=>Env.RL u V.dev o;refine hK.out _ _ I (λ_=>?_);clear hK K f T ai bd
 try simp only[zZ]
 refine zq 24 λK hK=>?_;go_simp;obtain⟨av,cg,bm⟩:=b8;have cc:av.length<=10000:=by rw[bm.1];omega
 have bp:=HJ.out;refine (zG9 _ v3 g av i j G Z cg oM oM oM cb cc).mono ?_;rintro e w4 ⟨v4,rfl,T,B⟩;rw[bp] at T;clear bp;have s:=bi.tail B;have bn:Both (RL E.O n w4) (g.take i++av++g.drop (i+1)) (ls.take i++qD8 n ls[i] p++ls.drop (i+1)):=(((M.take i).append bm).append (M.drop (i+1))).mono λx y u=>RL.keep u B (Apt.nil _ _);have f:=And.intro (B.hp I.1) (And.intro (B.hp I.2.1) (And.intro (B.hp I.2.2.1) (And.intro (B.hp I.2.2.2.1) (B.hp I.2.2.2.2))));refine hK.out _ _ f (λ_=>?_);clear hK K I B Z bi o
 try simp only[zZ]
 refine zq 25 λK hK=>?_;go_simp;refine (zD0 E.O n F a8 h.key v4 (ls.take i++qD8 n ls[i] p++ls.drop (i+1)) w4 ⟨_,T,bn⟩ (by have:=qK1 qA2 (ls.take i++qD8 n ls[i] p++ls.drop (i+1)) (λx _=>by unfold qA2;omega);have:=HF.out.2;omega) HF.1 HF.2).mono ?_;rintro e w5 ⟨v5,rfl,aj,H⟩;have bj:=s.tail H;have ak:=And.intro (H.hp f.1) (And.intro (H.hp f.2.1) (And.intro (H.hp f.2.2.1) (And.intro (H.hp f.2.2.2.1) (H.hp f.2.2.2.2))));refine hK.out _ _ ak (λ_=>?_);clear hK K f H s
 try simp only[zZ]
 refine zq 26 λK hK=>?_;go_simp;refine hK.out _ _ ak (λ_=>?_);refine zd ?_;rw[b2.out,<-b7.out] at aj;have b5:=zh aj;have b6:=zh bj;clear ak aj bj T bn;go_wp2;go_ret;exact⟨v5,rfl,b5,b6⟩
theorem kR9(E:Env):∀ (n:Nat),n<=100000->∀ (r h:HL) (l:Lnk (Tn n)) (q:Nat) (p:KV) (w:World),E.Dev w->h.key=l.key->RN E.O n w q l.sub->Good n l.key l.sub->qC6 p->kl p.k l.key=false->1<=cnt n l.sub->l.key.size<=8->
  Calls prog 118 #[τ E.V r,qC0 h,.pointer (some ⟨q,0,none⟩),.agg #[.string p.k,.string p.v]] w λe j=>∃ v',e=.returned v'/\RLs E.O n j v' (qD8 n l p)/\E.To w j:=by
 intro n
 induction n with
 | zero=>
  intro _ r h l q p w c g a d f i b _
  cases hat:qG7 (prs l.sub) (qB0 (prs l.sub) p.k) p.k with
  | true=>exact kR7 E r h l q p w c g a d f b hat
  | false=>exact kR8 E r h l q p w c g a d f b hat
 | succ n ih=>
  intro k r h l q p w c g a d f i b _;exact kR6 E n (ih oM) oM r h l q p w c g a d f i b
theorem kA3(E:Env)(n:Nat)(O:Int)(r:HL)(v:Value)(ls:List (Lnk (Tn n)))(i:Nat)(w:World)(l:E.Dev w)(N:RLs E.O n w v ls)(c:i<ls.length)(J:ls.length<=10000)(K:ls[i].ref=none)(I:3<=cnt n ls[i].sub)(T:cnt n ls[i].sub<=10000):
  Calls prog 164 #[τ E.V r,v,.int .i64 O,.int .i64 i] w λe y=>∃ v',e=.returned v'/\RLs E.O n y v' (qC2 n ls i)/\E.To w y:=by
 have o:qC2 n ls i=ls:=by
  unfold qC2;rw[gQ c];simp only[I,if_true]
 obtain⟨b,d,a⟩:=N;have m:i<b.length:=by rw[a.1];exact c
 have W:b.length<=10000:=by rw[a.1];exact J
 obtain⟨F,x,D,cur,R,rfl,U,t,k⟩:=d.link oM;obtain⟨c0,P,Q,g⟩:=k i m;have s:=zK5 a m c;rcases s.new with⟨_,q,M,p⟩|⟨u,_⟩
 .have L:b[i].ptr=some ⟨q,0,none⟩:=by simp[HL.ptr,M]
  rw[L] at g;have z:=zh o;have f:=zh l;have B:Hid (RLs E.O n w (.slice (some ⟨F,x,none⟩) b.length D) ls):=⟨b,d,a⟩;have A:=zh p;have V:=ζ t;have C:=ξ t (x+i*4+3);rw[g] at C;have S:(3:Int)<=((cnt n ls[i].sub:Nat):Int):=oM
  clear a d s p k l o;rw[τ];go_enter func164,ntmps164;go_wp2_with fail;have h:Kp [] w (w.alloc (.cells (ϟ E.V r) 89)):=kF.alloc _;refine (qU0 E.O n q ls[i].sub _ (RN.keep h (Apt.nil _ _) n q _ A) oM).mono ?_;rintro e w1 ⟨rfl,G⟩;have H:=h.tr G;go_wp2;go_ret;have j:=Env.To.of0 f H;exact⟨_,rfl,by rw[z.out];exact Env.RLs B f j,j⟩
 .rw[K] at u;cases u
end Go.Proofs.YtdohpenfkdckiaaGreatDoor
