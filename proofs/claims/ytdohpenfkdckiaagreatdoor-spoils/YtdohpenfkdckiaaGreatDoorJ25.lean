import Derived.Test.YtdohpenfkdckiaaGreatDoorJ21
import Derived.LaidEqlPtr
set_option linter.all false
set_option maxRecDepth 100000
set_option maxHeartbeats 20000000
namespace Go.Proofs.YtdohpenfkdckiaaGreatDoor
open Go.Proofs.Tryz
open Go.RowKit
def Sto.led(s:Sto)(qb qs:Int):Sto:={ s with N:=upN s.N,rb:=qb,rs:=qs }
theorem xI4(St A n C:Nat)(s)(b d:Int)(l)(wr:Int)(w)(Q:w.heap[St]?=some (ν 1 s))(hd:Devl s.V A n C l wr w)(hn:n<=1000)(a1:2<=n)(hl:n*128<=l.length)(ai:C≠A)(af:s.V≠A)(ag:s.V≠C)(ak:0<=b)(al:b<=1000)(am:0<=d)(i:Nat)(hi:upN s.N % 2=i):
  Calls prog 114 #[.pointer (some ⟨St,0,none⟩),.agg #[.int .i64 b,.int .u64 d]] w λe T=>e=.returned (.tuple #[])/\T.heap[St]?=some (ν 1 (s.led b d))/\Devl s.V A n C (qC7 l i (qB6 (upN s.N) b d)) (nx wr) T/\Kp [St,A,C] w T:=by
 have ay:=ζ Q;have E:=zh Q;have t:=zh hd;have N:=zh hi;clear Q hd hi;go_enter func114,ntmps114;go_wp2_with fail;rename_i F aa;obtain⟨r,ah,ad,L,an⟩:=qD5 w (.cells #[ϊ b,.int .u64 d] 84);rw[<-ah];clear ah;have p:r.drew.heap[St]?=some (ν 1 s)/\r.drew.heap[w.heap.size]?=some (.cells #[ϊ b,.int .u64 d] 84):=⟨L.hp E,ad⟩;refine zJ1 (α:=Nat->Act) (R:=λA0=>∀ H W,W.heap[H]?=some (.cells #[.int .u64 (upN s.N),ϊ b,.int .u64 d] 166)->Kp [] w W->w.heap.size<=H->F (A0 H) W) ?_;apply Exists.intro;apply And.intro
 rotate_left
 .intro HREST;refine wp_region_held_drew (S:=λW=>W.heap[St]?=some (ν 1 s)/\W.heap[w.heap.size]?=some (.cells #[ϊ b,.int .u64 d] 84)) kR p (λ_=>?_);refine zP 0 St 0 p ?_;refine zV 1 (ϖ St) rfl (λW f=>by have c:=ζ f.1;clear f;go_simp) p ?_;refine zP 2 St 3 p ?_;refine zV 3 (.agg #[.int .u64 s.N,ϊ s.rb,.int .u64 s.rs]) rfl (λW f=>by have a3:=ξ f.1 3;have a4:=ξ f.1 4;have a5:=ξ f.1 5;simp only[ν,zG,zH,zI] at a3 a4 a5;clear f;go_simp) p ?_;refine zV 4 (.agg #[ϊ b,.int .u64 d]) rfl (λW f=>by have a:=ξ f.2;clear f;go_simp) p ?_;refine zr 5 6 (λK hK=>?_) λK hK=>?_
  .skip
   go_simp;refine (zH8 s.N s.rb s.rs b d r.drew).mono ?_;rintro e x ⟨rfl,y⟩;have q:=Kp.of_below y lR;have k:=And.intro (q.hp p.1) (q.hp p.2);refine hK.out _ _ k (λ_=>?_);clear hK K y
   try simp only[zZ]
   refine zq 6 λK hK=>?_;go_simp;obtain⟨j,D,u,o,ap⟩:=qD5 x (.cells #[.int .u64 0,ϊ 0,.int .u64 0] 166);obtain⟨B,I⟩:=eX x.heap.size;rw[<-D,<-I];rw[<-I] at u;have ao:=q.size;have ar:w.heap.size<B:=by rw[I];have:r.heap.size<=x.heap.size:=ao;omega
   clear D I;have g:=And.intro (o.hp k.1) (o.hp k.2);refine zk hK g ?_
   refine zq 7 λK hK=>?_;have z0:=ξ u;have f0:=ψ u;have Z:=ζ u;have M:=zh u;go_simp;have m:Kp [B] j (((j.setCell ⟨B,0,none⟩ (.int .u64 (upN s.N))).setCell ⟨B,1,none⟩ (ϊ b)).setCell ⟨B,2,none⟩ (.int .u64 d)):=((kF.sc _).sc _).sc _;have z:=μ (μ (μ M 0 (.int .u64 (upN s.N))) 1 (ϊ b)) 2 (.int .u64 d);generalize ((j.setCell ⟨B,0,none⟩ (.int .u64 (upN s.N))).setCell ⟨B,1,none⟩ (ϊ b)).setCell ⟨B,2,none⟩ (.int .u64 d)=w5 at m z |-;refine hK.out _ _ ⟨m.heap g.1 (by simp<;>omega),m.heap g.2 (by simp<;>omega)⟩ (λ_=>?_);refine zd ?_
   try simp only[zZ]
   show F _ w5;exact HREST B w5 z ((((L.drew).tr q).tr o).trans m (by simp<;>omega)) oM
  .go_simp;obtain⟨j,D,u,o,ap⟩:∃ j,j=(r.alloc (.cells #[.int .u64 0,ϊ 0,.int .u64 0] 166)).drew/\j.heap[w.heap.size+1]?=some (.cells #[.int .u64 0,ϊ 0,.int .u64 0] 166)/\Kp [] r j/\j.heap.size=r.heap.size+1:=⟨_,rfl,by rw[<-an];exact υ r _,(kF.alloc _).drew,sM⟩;rw[<-D];clear D;have g:=And.intro (o.hp p.1) (o.hp p.2);refine zk hK g ?_
   refine zq 5 λK hK=>?_;go_simp;refine (zH8 s.N s.rb s.rs b d j).mono ?_;rintro e x ⟨rfl,y⟩;have q:=Kp.of_below y lR;have k:=And.intro (q.hp g.1) (q.hp g.2);refine hK.out _ _ k (λ_=>?_);clear hK K y
   try simp only[zZ]
   have J:=q.hp u;refine zq 7 λK hK=>?_;have z0:=ξ J;have f0:=ψ J;have Z:=ζ J;have M:=zh J;go_simp;have m:Kp [(w.heap.size+1)] x (((x.setCell ⟨(w.heap.size+1),0,none⟩ (.int .u64 (upN s.N))).setCell ⟨(w.heap.size+1),1,none⟩ (ϊ b)).setCell ⟨(w.heap.size+1),2,none⟩ (.int .u64 d)):=((kF.sc _).sc _).sc _;have z:=μ (μ (μ M 0 (.int .u64 (upN s.N))) 1 (ϊ b)) 2 (.int .u64 d);generalize ((x.setCell ⟨(w.heap.size+1),0,none⟩ (.int .u64 (upN s.N))).setCell ⟨(w.heap.size+1),1,none⟩ (ϊ b)).setCell ⟨(w.heap.size+1),2,none⟩ (.int .u64 d)=w5 at m z |-;refine hK.out _ _ ⟨m.heap k.1 (by simp<;>omega),m.heap k.2 (by simp<;>omega)⟩ (λ_=>?_);refine zd ?_
   try simp only[zZ]
   show F _ w5;exact HREST (w.heap.size+1) w5 z (((L.tr o).tr q).tr m) oM
 intro H W P v aw;refine aa _ _ ?_;clear aa F p L ad;go_wp2_with fail;have Z:=ζ P;have a0:=ζ t.hV;have au:=ζ t.hC;have k:W.drew.heap[St]?=some (ν 1 s)/\W.drew.heap[H]?=some (.cells #[.int .u64 (upN s.N),ϊ b,.int .u64 d] 166):=⟨v.hp E,P⟩;obtain⟨U,G⟩:=t.out.hA;have aq:=ζ G;have ab:St≠A:=by intro e;subst e;rw[E.out] at G;simp[ν,qA6] at G
 have ac:St≠C:=by intro e;subst e;have h:=t.out.hC;rw[E.out] at h;simp[ν] at h
 refine wp_region_held_drew (S:=λW=>W.heap[St]?=some (ν 1 s)/\W.heap[H]?=some (.cells #[.int .u64 (upN s.N),ϊ b,.int .u64 d] 166)) kR k (λ_=>?_);refine zP 0 St 0 k ?_;refine zV 1 (ϖ St) rfl (λW f=>by have c:=ζ f.1;clear f;go_simp) k ?_;refine zP 2 St 2 k ?_;refine zV 3 (ϖ s.V) rfl (λW f=>by have a:=ξ f.1 2;simp only[ν,zG,zH,zI] at a;clear f;go_simp) k ?_;refine zV 4 (.agg #[.int .u64 (upN s.N),ϊ b,.int .u64 d]) rfl (λW f=>by have a:=ξ f.2;clear f;go_simp) k ?_;refine zq 5 λK hK=>?_;go_simp;refine (zO0 s.V A n C U wr i (upN s.N) b d l W.drew (v.hp t.hV) (v.hp G) (by have:=N.out;omega) hn (v.hp t.hC) hl ai af ag N (qP4 _).1 ak al am).mono ?_;rintro e j ⟨rfl,X,Y,o⟩;have g:=And.intro (o.heap k.1 (by simp[ab,ac])) (o.heap k.2 (by simp<;>omega));have ae:=o.heap (v.hp t.hV) (by simp[af,ag]);refine hK.out _ _ g (λ_=>?_);refine zd ?_
 try simp only[zZ]
 have az:=ζ g.1;have ax:=ζ g.2;have y3:=ξ g.1 3;have y4:=ξ g.1 4;have y5:=ξ g.1 5;simp only[ν,zG,zH,zI] at y3 y4 y5;have g3:=ψ g.1;have z0:=ξ g.2;have av:H≠St:=oM
 have HE:Hid (j.heap[St]?=some (ν 1 s)/\j.heap[s.V]?=some (qE4 A n)/\j.heap[A]?=some (qA6 ((qC7 l i (qB6 (upN s.N) b d)).length / 128) n C (.slice none 0 0) (nx (nx U)) (nx wr))/\j.heap[C]?=some (.cells (enc (qC7 l i (qB6 (upN s.N) b d))) 115)/\Kp [A,C] w j):=⟨g.1,ae,by rw[qX2 l _ i n (qI7 _ _ _) hl (by have:=N.out;omega)];exact X,Y,(Kp.mono (S':=[A,C]) v sM).trans (((Kp.refl [A,C] W).drew).tr o) sM⟩;clear k g X Y ae o P v;go_wp2
 go_end0
 obtain⟨V,O,e3,e4,e5⟩:=HE.out;have m:Kp [St] j (((j.setCell ⟨St,3,none⟩ (.int .u64 (upN s.N))).setCell ⟨St,4,none⟩ (ϊ b)).setCell ⟨St,5,none⟩ (.int .u64 d)):=((kF.sc _).sc _).sc _;have aj:s.V≠St:=by intro e;rw[e,V] at O;simp[ν,qE4] at O
 exact⟨rfl,μ (μ (μ V 3 _) 4 _) 5 _,⟨m.heap O (by simpa using aj),⟨_,m.heap e3 (by simpa using ab.symm)⟩,m.heap e4 (by simpa using ac.symm)⟩,(e5.mono (by simp +contextual)).tr m⟩
theorem zT8{a b}(h:qM4 a=qM4 b):a=b:=by
 have e:=congrArg toB h;rw[qS8,qS8] at e;cases a;cases b;simp only at e
 congr 1
 exact Array.toList_inj.1 e
theorem kA1{p p'}(j:qC3 p)(k:qC3 p'){r c:List Int}(h:qD7 p++r=qD7 p'++c):p=p'/\r=c:=by
 obtain⟨q,s,t⟩:=j;obtain⟨m,n,o⟩:=k;simp only[qD7,aA,cA,nA,List.cons.injEq] at h;obtain⟨l,d⟩:=h;have g:p.k.size=p'.k.size:=oM
 have i:p.v.size=p'.v.size:=oM
 obtain⟨a,e⟩:=List.append_inj d (by rw[qS2,qS2,g]);obtain⟨b,f⟩:=List.append_inj e (by rw[qS2,qS2,i]);refine⟨?_,f⟩;cases p;cases p';simp only at a b;rw[zT8 a,zT8 b]
theorem zI3:∀ (ps a:List KV) (r c:List Int),(∀ p∈ps,qC3 p)->(∀ p∈a,qC3 p)->ps.length=a.length->ps.flatMap qD7++r=a.flatMap qD7++c->ps=a
 | [],[],_,_,_,_,_,_=>rfl
 | [],_::_,_,_,_,_,h,_=>by cases h
 | _::_,[],_,_,_,_,h,_=>by cases h
 | p::ps,p'::a,r,c,h1,h2,hl,h=>by
  rw[fC,fC,aA,aA] at h;obtain⟨d,e⟩:=kA1 (h1 p sM) (h2 p' sM) h;rw[d,zI3 ps a r c (λq b=>h1 q (by simp[b])) (λq b=>h2 q (by simp[b])) (by simpa using hl) e]
theorem jT5{h h'}(t:h.key.size<=8)(u:h'.key.size<=8)(g:h.p=none)(i:h'.p=none)(b:0<=h.b/\h.b<65536)(c:0<=h'.b/\h'.b<65536)(k:0<=h.s/\h.s<18446744073709551616)(l:0<=h'.s/\h'.s<18446744073709551616){r j:List Int}(e:qD9 h++r=qD9 h'++j):h=h'/\r=j:=by
 simp only[qD9,aA] at e;obtain⟨m,n⟩:=List.append_inj e (by rw[qH9,qH9]);obtain⟨o,d⟩:=List.append_inj n (by rw[qH9,qH9]);simp only[cA,nA,List.cons.injEq] at d;obtain⟨s,p⟩:=d;obtain⟨f,q⟩:=List.append_inj p (by rw[qS2,qS2];omega);have a:=congrArg qG6 m;rw[qP1 2 _ oM b.1 (by simpa using b.2),qP1 2 _ oM c.1 (by simpa using c.2)] at a;have n2:=congrArg qG6 o;rw[qP1 8 _ oM k.1 (by simpa using k.2),qP1 8 _ oM l.1 (by simpa using l.2)] at n2;refine⟨?_,q⟩;cases h;cases h';simp only at g i a n2 f;rw[zT8 f,a,n2,g,i]
def xM2(h:HL):Prop:=h.p=none∧h.key.size≤8∧0≤h.b∧h.b<65536∧0≤h.s∧h.s<18446744073709551616
theorem zQ0:∀ (ps a:List HL) (r c:List Int),(∀ p∈ps,xM2 p)->(∀ p∈a,xM2 p)->ps.length=a.length->ps.flatMap qD9++r=a.flatMap qD9++c->ps=a
 | [],[],_,_,_,_,_,_=>rfl
 | [],_::_,_,_,_,_,h,_=>by cases h
 | _::_,[],_,_,_,_,h,_=>by cases h
 | p::ps,p'::a,r,c,h1,h2,hl,h=>by
  rw[fC,fC,aA,aA] at h;obtain⟨d,e,f,g,i,j⟩:=h1 p sM;obtain⟨k,l,m,n,o,s⟩:=h2 p' sM;obtain⟨t,u⟩:=jT5 e l d k ⟨f,g⟩ ⟨m,n⟩ ⟨i,j⟩ ⟨o,s⟩ h;rw[t,zQ0 ps a r c (λq b=>h1 q (by simp[b])) (λq b=>h2 q (by simp[b])) (by simpa using hl) u]
theorem qS7{xs a:List Int}(b:∀ x∈xs,0<=x/\x<256)(c:∀ x∈a,0<=x/\x<256)(h:toB xs=toB a):xs=a:=by
 rw[<-qM8 xs b,<-qM8 a c,h]
theorem qU4{a b:Int}{ps ps'}{hs hs'}(h:qA3 a ps hs=qA3 b ps' hs'):a=b/\ps.length+hs.length=ps'.length+hs'.length/\∃ r c,ps.flatMap qD7++(hs.flatMap qD9++r)=ps'.flatMap qD7++(hs'.flatMap qD9++c):=by
 simp only[qA3,qL5,aA,cA,nA,List.cons.injEq] at h;exact⟨h.1,by have:=h.2.1;omega,_,_,h.2.2⟩
theorem zO8{N:Nat}{l}(k:N<=1000):∀ {n b:Nat} {s:Int} {t},Laid N l n b s t->∃ ps a,ω l b=toB (qA3 (n:Int) ps a)/\∀ x∈qA3 (n:Int) ps a,0<=x/\x<256
 | 0,b,s,t,h=>by
  obtain⟨_,_,_,c,d,e,f⟩:=h;exact⟨prs t,[],c,qG5 0 _ [] oM oM sO d sM⟩
 | n+1,b,s,t,h=>by
  obtain⟨_,_,g,a,c,d,e,f,i,j⟩:=h;exact⟨[],a,e,qG5 _ [] a oM oM sO sM f⟩
theorem qW3{N:Nat}{l}(d:N<=1000){n a b:Nat}{s j:Int}{t}{t':Tn a}(h:Laid N l n b s t)(i:Laid N l a b j t'):n=a:=by
 obtain⟨ps,k,e,f⟩:=zO8 d h;obtain⟨o,m,c,g⟩:=zO8 d i;rw[e] at c;have:=(qU4 (qS7 f g c)).1;omega
theorem zG6{N:Nat}{l}(D:N<=1000):∀ (n b:Nat) (s y:Int) (t t'),Laid N l n b s t->Laid N l n b y t'->s=y/\t=t'
 | 0,b,s,y,t,t',h,h'=>by
  obtain⟨_,_,a,B,j,C,S⟩:=h;obtain⟨_,_,c,g,d,A,R⟩:=h';rw[B] at g;have e:=qS7 (qG5 0 _ [] oM oM sO j sM) (qG5 0 _ [] oM oM sO d sM) g;refine⟨by rw[a,c,e],?_⟩;obtain⟨_,F,r,V,f⟩:=qU4 e;exact zI3 (prs t) (prs t') _ _ j d (by simpa using F) f
 | n+1,b,s,y,t,t',h,h'=>by
  obtain⟨_,_,h2,K,a,B,j,C,S,h8⟩:=h;obtain⟨_,_,g2,L,c,g,d,A,R,g8⟩:=h';rw[j] at d;have e:=qS7 (qG5 _ [] K oM oM sO sM C) (qG5 _ [] L oM oM sO sM A) d;refine⟨by rw[B,g,e],?_⟩;obtain⟨_,F,r,V,f⟩:=qU4 e;simp only[List.flatMap_nil,nA] at f;have P:=zQ0 K L _ _ (λp G=>Laid.links a C D p G) (λp G=>Laid.links c A D p G) (by simpa using F) f;subst P;refine (List.ext_getElem (a.1.symm.trans c.1) λi z O=>?_:η t=η t');have W:=a.2 i (by rw[a.1];exact z) z;have X:=c.2 i (by rw[a.1];exact z) O;obtain⟨T,w⟩:=W;obtain⟨U,x⟩:=X
  cases x1:(η t)[i].ref with
  | none=>rw[x1] at w;obtain⟨_,_,q,_,E⟩:=w;exact E.elim
  | some y1=>
   cases x2:(η t')[i].ref with
   | none=>rw[x2] at x;obtain⟨_,_,q,_,E⟩:=x;exact E.elim
   | some y2=>
    rw[x1] at w;rw[x2] at x;obtain⟨Y,s1,_,M⟩:=w;obtain⟨Z,s2,_,H⟩:=x;have I:y1.1=y2.1:=oM
    rw[<-I] at H;have J:=zG6 D n y1.1 _ _ _ _ M H;have Q:=Prod.ext I J.1;have k:=T.symm.trans U;have o:(η t)[i].ref=(η t')[i].ref:=by rw[x1,x2,Q]
    have m:=J.2
    revert k o m
    generalize (η t)[i]=u;generalize (η t')[i]=v;intro k o m;cases u;cases v;simp only at k o m;rw[k,o,m]
def Cl(N:Nat)(l:List UInt8)(n:Nat)(ks:List Nat):Prop:=∀ (m b:Nat) (s:Int) (t:Tn m),m<n→Laid N l m b s t→b∈ks→∀ k∈Blk m b t,k∈ks
def xU0(N:Nat)(l:List UInt8)(n:Nat)(ks ks':List Nat):Prop:=∀ k∈ks',k∈ks∨∃ (m:Nat) (s:Int) (t:Tn m),m<n∧Laid N l m k s t
structure Bel(N:Nat)(l:List UInt8)(n:Nat)(ks ks':List Nat):Prop where
 sub:∀ k∈ks,k∈ks'
 new:xU0 N l n ks ks'
 cl:Cl N l n ks'
theorem Bel.refl{N n:Nat}{l}{ks}(h:Cl N l n ks):Bel N l n ks ks:=⟨λ_ h=>h,λ_ h=>Or.inl h,h⟩
theorem Bel.trans{N n:Nat}{l}{a b c}(h:Bel N l n a b)(k:Bel N l n b c):Bel N l n a c:=
 ⟨λx e=>k.sub x (h.sub x e),λx e=>by
  rcases k.new x e with d|d
  .exact h.new x d
  .exact Or.inr d,k.cl⟩
def zK6(N:Nat)(l:List UInt8)(n:Nat):Prop:=∀ (t:Tn n) (ks:List Nat),Cl N l n ks→(∀ n' (e:n=n'+1),∀ m∈η (e ▸ t:Tn (n'+1)),qJ9 N l n' m)→
 Bel N l n ks (qF6 n t ks)∧∀ n' (e:n=n'+1),∀ m∈η (e ▸ t:Tn (n'+1)),∀ k∈qH8 n' m,k∈qF6 n t ks
theorem zI0{N:Nat}{l}:∀ {n:Nat} {m},qJ9 N l n m->∀ n' (e:n=n'+1),∀ u∈η (e ▸ m.sub:Tn (n'+1)),qJ9 N l n' u
 | 0,_,_,n',e=>by cases e
 | n+1,m,h,n',e=>by
  cases e;intro u f
  cases hx:m.ref with
  | none=>exact h.2 hx u f
  | some x=>
   obtain⟨_,_,_,k,c,_⟩:=h.1 x hx;obtain⟨i,d,rfl⟩:=gO f;have a:=(c.2 i (by rw[c.1];exact d) d).2;have key:∀ y,(η m.sub)[i].ref=some y->Laid N l n y.1 y.2 (η m.sub)[i].sub:=λy hy=>by rw[hy] at a;exact a.2.2.2
   have j:(η m.sub)[i].ref≠none:=λb=>by rw[b] at a;obtain⟨_,_,q,_,g⟩:=a;exact g
   cases n with
   | zero=>exact key
   | succ n=>exact⟨key,λb=>absurd b j⟩
theorem qO1{n:Nat}{m}{x:Nat × Int}(h:m.ref=some x):qH8 n m=Blk n x.1 m.sub:=by
 cases n<;>simp only[qH8,h]
theorem xM6{N:Nat}{l}{n:Nat}{m}(h:qJ9 N l n m){x:Nat × Int}(a:m.ref=some x):Laid N l n x.1 x.2 m.sub:=by
 cases n with
 | zero=>exact h x a
 | succ n=>exact h.1 x a
theorem xZ5{n b:Nat}{t}{k:Nat}(h:k∈Blk n b t):k=b\/∃ c,∃ e:n=c+1,∃ u∈η (e ▸ t:Tn (c+1)),k∈qH8 c u:=by
 cases n with
 | zero=>exact Or.inl (by simpa [Blk] using h)
 | succ n=>
  simp only[Blk,mC,List.mem_flatMap] at h;rcases h with h|⟨u,d,a⟩
  .exact Or.inl h
  .refine Or.inr ⟨n,rfl,u,d,?_⟩
   cases hx:u.ref with
   | none=>rw[hx] at a;cases a
   | some x=>rw[hx] at a;rw[qO1 hx];exact a
theorem xR4{N:Nat}{l}(p:N<=1000)(n:Nat)(B:zK6 N l n)(m)(y:qJ9 N l n m)(ks)(o:Cl N l (n+1) ks):
  Bel N l (n+1) ks (qF9 (qF6 n) ks m)/\∀ k∈qH8 n m,k∈qF9 (qF6 n) ks m:=by
 cases hx:m.ref with
 | none=>
  have e:qF9 (qF6 n) ks m=qF6 n m.sub ks:=by simp only[qF9,hx]
  rw[e];obtain⟨d,v⟩:=B m.sub ks (λf b s t h=>o f b s t oM) (zI0 y);refine⟨⟨d.sub,λk c=>?_,λf b s t q g hbk k c=>?_⟩,λk c=>?_⟩
  .rcases d.new k c with h|⟨a,s,t,r,i⟩
   .exact Or.inl h
   .exact Or.inr ⟨a,s,t,oM,i⟩
  .by_cases z:f<n
   .exact d.cl f b s t z g hbk k c
   .rcases d.new b hbk with h|⟨a,H,t',r,i⟩
    .exact d.sub k (o f b s t q g h k c)
    .have:=qW3 p g i;omega
  .cases n with
   | zero=>simp[qH8,hx] at c
   | succ n=>
    simp only[qH8,hx,List.mem_flatMap] at c;obtain⟨u,A,c⟩:=c;exact v n rfl u A k c
 | some x=>
  have g:=xM6 y hx;by_cases w:x.1∈ks
  .have e:qF9 (qF6 n) ks m=ks:=by simp only[qF9,hx,if_pos w]
   rw[e];exact⟨Bel.refl o,λk c=>by rw[qO1 hx] at c;exact o n x.1 x.2 m.sub oM g w k c⟩
  .have e:qF9 (qF6 n) ks m=qF6 n m.sub (x.1::ks):=by simp only[qF9,hx,if_neg w]
   rw[e];have E:Cl N l n (x.1::ks):=λf b s t q j d k c=>by
    rcases List.mem_cons.1 d with rfl|d
    .have:=qW3 p j g;omega
    .exact mM _ (o f b s t oM j d k c)
   obtain⟨d,v⟩:=B m.sub (x.1::ks) E (zI0 y);have C:∀ k∈Blk n x.1 m.sub,k∈qF6 n m.sub (x.1::ks):=λk c=>by
    rcases xZ5 c with rfl|⟨G,D,u,A,c⟩
    .exact d.sub _ List.mem_cons_self
    .exact v G D u A k c
   refine⟨⟨λk c=>d.sub k (mM _ c),λk c=>?_,λf b s t q j hbk k c=>?_⟩,λk c=>by rw[qO1 hx] at c;exact C k c⟩
   .rcases d.new k c with h|⟨a,s,t,r,i⟩
    .rcases List.mem_cons.1 h with rfl|h
     .exact Or.inr ⟨n,x.2,m.sub,oM,g⟩
     .exact Or.inl h
    .exact Or.inr ⟨a,s,t,oM,i⟩
   .by_cases z:f<n
    .exact d.cl f b s t z j hbk k c
    .have F:f=n:=oM
     subst F;rcases d.new b hbk with h|⟨a,H,t',r,i⟩
     .rcases List.mem_cons.1 h with rfl|h
      .rw[(zG6 p _ _ _ _ _ _ j g).2] at c;exact C k c
      .exact d.sub k (mM _ (o _ b s t q j h k c))
     .have:=qW3 p j i;omega
theorem xD8{N:Nat}{l:List UInt8}(f:N<=1000)(n:Nat)(c:zK6 N l n):∀ (ls:List (Lnk (Tn n))) (ks:List Nat),(∀ m∈ls,qJ9 N l n m)->Cl N l (n+1) ks->
  Bel N l (n+1) ks (ls.foldl (qF9 (qF6 n)) ks)/\∀ m∈ls,∀ k∈qH8 n m,k∈ls.foldl (qF9 (qF6 n)) ks
 | [],ks,_,hc=>⟨Bel.refl hc,λm b=>by cases b⟩
 | a::ls,ks,h,hc=>by
  obtain⟨d,i⟩:=xR4 f n c a (h a sM) ks hc;obtain⟨e,j⟩:=xD8 f n c ls (qF9 (qF6 n) ks a) (λm b=>h m (by simp[b])) d.cl;refine⟨d.trans e,λm b k g=>?_⟩;rcases List.mem_cons.1 b with rfl|b
  .exact e.sub k (i k g)
  .exact j m b k g
theorem zX6{N:Nat}{l}(b:N<=1000):∀ n,zK6 N l n
 | 0=>λt ks a _=>⟨Bel.refl a,λg e=>by cases e⟩
 | n+1=>λt ks a f=>by
  obtain⟨c,d⟩:=xD8 b n (zX6 b n) (η t) ks (f n rfl) a;exact⟨c,λg e=>by cases e;exact d⟩
def ClA(N:Nat)(l:List UInt8)(ks:List Nat):Prop:=∀ n,Cl N l n ks
def qO0:Root→List Nat
 | .none=>[]
 | .at n l=>qH8 n l
def qL2(N:Nat)(l:List UInt8):Root→Prop
 | .none=>True
 | .at n m=>qJ9 N l n m
theorem ClA.nil(N:Nat)(l):ClA N l []:=λn m b s t _ _ h=>by cases h
theorem zL3{N:Nat}{l}(f:N<=1000)(rt)(ks)(u:qL2 N l rt)(g:ClA N l ks):(∀ k∈ks,k∈qA7 ks rt)/\ClA N l (qA7 ks rt)/\∀ k∈qO0 rt,k∈qA7 ks rt:=by
 cases rt with
 | none=>exact⟨λ_ h=>h,g,λk d=>by cases d⟩
 | «at» n m=>
  obtain⟨c,q⟩:=xR4 f n (zX6 f n) m u ks (g (n+1));refine⟨c.sub,λp j b s t r e i k d=>?_,q⟩;rcases c.new b i with h|⟨a,w,t',v,o⟩
  .exact c.sub k (g p j b s t r e h k d)
  .exact c.cl j b s t (by have:=qW3 f e o;omega) e i k d
theorem zL4{N:Nat}{l:List UInt8}(e:N<=1000):∀ (rs:List Root) (ks:List Nat),(∀ r∈rs,qL2 N l r)->ClA N l ks->(∀ k∈ks,k∈rs.foldl qA7 ks)/\ClA N l (rs.foldl qA7 ks)/\∀ r∈rs,∀ k∈qO0 r,k∈rs.foldl qA7 ks
 | [],ks,_,hc=>⟨λ_ h=>h,hc,λr b=>by cases b⟩
 | a::rs,ks,h,hc=>by
  obtain⟨i,j,m⟩:=zL3 e a ks (h a sM) hc;obtain⟨d,f,g⟩:=zL4 e rs (qA7 ks a) (λr b=>h r (by simp[b])) j;refine⟨λk c=>d k (i k c),f,λr b k c=>?_⟩;rcases List.mem_cons.1 b with rfl|b
  .exact d k (m k c)
  .exact g r b k c
theorem zF5{N:Nat}{ks}:∀ b∈qC4 N ks,2<=b/\b<N/\b ∉ ks:=by
 intro b a;simp only[qC4,List.mem_filter,List.mem_range'_1,decide_eq_true_eq] at a;exact⟨a.1.1,oM,a.2⟩
theorem xE1(N:Nat)(ks):(qC4 N ks).Nodup:=List.Pairwise.filter _ List.nodup_range'
theorem jE2{N:Nat}{l:List UInt8}(m:N<=1000)(s:N*128<=l.length)(n:Nat)(L:Lnk (Tn n))(rs:List Root)(t:qJ9 N l n L)(u:OkL n L)(A:n<6)(D:∀ r∈rs,qL2 N l r)
  (p:news n L<=(qC4 N (rs.foldl qA7 (qA7 [] (.at n L)))).length) (a:List (Nat × List UInt8)) (j:a=(qA0 n L (qC4 N (rs.foldl qA7 (qA7 [] (.at n L))))).2.1):
  (∀ x∈a,x.1<N/\x.2.length=128)/\(∃ x,(qA0 n L (qC4 N (rs.foldl qA7 (qA7 [] (.at n L))))).1.ref=some x/\Laid N (laidAll l a) n x.1 x.2 (qA0 n L (qC4 N (rs.foldl qA7 (qA7 [] (.at n L))))).1.sub)/\
  (∀ r∈rs,∀ k∈qO0 r,ω (laidAll l a) k=ω l k)/\(∀ k,k<2->ω (laidAll l a) k=ω l k):=by
 obtain⟨E,v,w⟩:=zL3 m (.at n L) [] t (ClA.nil N l);obtain⟨y,F,z⟩:=zL4 m rs _ D v;have e:=zF5 (N:=N) (ks:=rs.foldl qA7 (qA7 [] (.at n L)));have B:=xE1 N (rs.foldl qA7 (qA7 [] (.at n L)));generalize rs.foldl qA7 (qA7 [] (.at n L))=ks at *;have f:=zP4 n L (qC4 N ks) p;rw[<-j] at f;have q:∀ x∈a,x.1∈qC4 N ks:=λx d=>by
  have h:x.1∈a.map Prod.fst:=List.mem_map_of_mem d;rw[f] at h;exact mT h
 have i:∀ x∈a,x.1<N/\x.2.length=128:=λx d=>⟨(e x.1 (q x d)).2.1,zP5 n L _ u x (by rw[<-j];exact d)⟩;have g:∀ k,(k∈ks\/k<2)->ω (laidAll l a) k=ω l k:=λk c=>zX9 N k a l s i (λhm=>by
  obtain⟨x,d,rfl⟩:=List.mem_map.1 hm;have h:=e _ (q x d);rcases c with c|c
  .exact h.2.2 c
  .omega)
 refine⟨i,?_,λr C k c=>g k (Or.inl (z r C k c)),λk c=>g k (Or.inr c)⟩;refine xH2 N l (laidAll l a) n L (qC4 N ks) t u A (λb o=>⟨(e b o).1,(e b o).2.1⟩) p (λx d=>?_) (λk c=>g k (Or.inl (y k (w k c))));rw[<-j] at d;refine xZ4 N a x l s i ?_ d;rw[f];exact B.sublist (List.take_sublist _ _)
theorem jO1:(prog.info? 263).map (·.size)=some 2:=kR
theorem xC5(d:Nat)(a)(W):Sem.run prog (Op.equalIn (d+1) 82 (.pointer (some a)) (.pointer (some a))) W=.ok true W:=by
 obtain⟨i,b,c⟩:=Option.map_eq_some_iff.1 jO1;simp[Op.equalIn,run_underlying underlying82,run_sizeOf W b,c,run_sameAddr_same]
theorem xS4(V:Nat)(h)(a rs:Int)(e:h.p=none)(d:h.key=⟨#[]⟩)(W):
  Sem.run prog (Op.equalIn 10000 89 (τ V h) (τ V ⟨⟨#[]⟩,a,rs,none⟩)) W=.ok (decide (h.b=a/\h.s=rs)) W:=by
 have g:∀ W:World,Sem.run prog (Op.equalIn 9998 85 (.pointer none) (.pointer none)) W=.ok true W:=λW=>qZ1 9997 W;have i:∀ W:World,Sem.run prog (Op.equalIn 9997 85 (.pointer none) (.pointer none)) W=.ok true W:=λW=>qZ1 9996 W;have j:=xC5 9998 ⟨V,0,none⟩;have f:h.ptr=none:=by simp[HL.ptr,e]
 rw[τ,τ,f,d,show HL.ptr ⟨⟨#[]⟩,a,rs,none⟩=none from rfl];go_simp;by_cases b:h.b=a<;>by_cases c:h.s=rs<;>simp[b,c]
theorem kN9(V q:Nat)(h)(a rs:Int)(c:h.p=some q)(b:h.key=⟨#[]⟩)(W):
  Sem.run prog (Op.equalIn 10000 89 (τ V h) (τ V ⟨⟨#[]⟩,a,rs,none⟩)) W=.ok false W:=by
 have e:∀ W:World,Sem.run prog (Op.equalIn 9998 85 (ϖ q) (.pointer none)) W=.ok false W:=λW=>xC4 9997 _ W;have f:=xC5 9998 ⟨V,0,none⟩;have d:h.ptr=some ⟨q,0,none⟩:=by simp[HL.ptr,c]
 rw[τ,τ,d,b,show HL.ptr ⟨⟨#[]⟩,a,rs,none⟩=none from rfl];go_simp
def Sto.cmt(s:Sto)(qb qs bl:Int):Sto:={ s with N:=upN (upN s.N),rb:=qb,rs:=qs,bl:=bl }
def qC5:Root→List Nat→HL × List (Nat × List UInt8)
 | .none,_=>(⟨⟨#[]⟩,0,0,none⟩,[])
 | .at n L,fr=>(lhl (qA0 n L fr).1,(qA0 n L fr).2.1)
def qW6(s:Sto):HL:=⟨⟨#[]⟩,s.rb,s.rs,none⟩
def OkR:Root→Prop
 | .none=>True
 | .at n L=>OkL n L
theorem zP2{N:Nat}{rt}{a}(g:OkR rt)(f:rt.news<=a.length)(e:∀ b∈a,b<N):∀ x∈(qC5 rt a).2,x.1<N/\x.2.length=128:=by
 cases rt with
 | none=>intro x c;simp[qC5] at c
 | «at» n L=>
  intro x c;refine⟨e x.1 ?_,zP5 n L a g x c⟩;have d:x.1∈((qA0 n L a).2.1).map Prod.fst:=List.mem_map_of_mem c;rw[zP4 n L a f] at d;exact mT d
theorem kC6(V A N C:Nat)(l)(a:Int)(E)(u:∀ (n b:Nat) (s:Int) (t),E.O n b s t->b<=1000000/\0<=s)(f:V≠A)(c:C≠A)(g:V≠C)(d:N<=1000)(p:N*128<=l.length)(rt)(h)(fr)(v)(w)(i:Devl V A N C l a w)(o:RR E w h rt)(m:OkR rt)(k:rt.news<=fr.length)(j:∀ b∈fr,b<N)(y:fr.length<=10000)(q:Slc w 3 1 v fr.length (qH6 fr)):
  Calls prog 115 #[τ V h,v] w λe r=>e=.returned (.agg #[.int .i64 (qC5 rt fr).1.b,.int .u64 (qC5 rt fr).1.s])/\Devl V A N C (laidAll l (qC5 rt fr).2) (nk a (qC5 rt fr).2.length) r/\Kp [A,C] w r:=by
 cases rt with
 | none=>
  have x:h=⟨⟨#[]⟩,0,0,none⟩:=o;subst x;exact kM9 V A N C l a f c g d p fr v w i q
 | «at» n L=>
  exact kN0 V A N C l a E.O u f c g d p n h L fr v w i o m k j y q (zP2 (rt:=.at n L) m k j)
theorem jW5{w:World}{a b:Nat}{c d:Array Value}{g h:Nat × Nat}(i:w.heap[a]?=some (.cells c 169 g))(f:w.heap[b]?=some (.cells d 115 h)):a≠b:=λe=>by
 subst e;rw[i] at f;simp at f
theorem xK4{α:Type}(f:α->Nat)(c:Nat):∀ (l:List α),(∀ x∈l,c<=f x)->c*l.length<=meas f l
 | [],_=>by simp[meas]
 | x::l,h=>by
  have b:=h x sM;have d:=xK4 f c l λy a=>h y (by simp[a]);rw[qC2,lC,Nat.mul_succ];omega
theorem jJ7{α a:Type}(f:α->List a)(l:List α):(l.flatMap f).length=meas (λx=>(f x).length) l:=by simp[meas,List.length_flatMap]
theorem xE9:∀ (n:Nat) (lo) (t),Good n lo t->cnt n t*3 ^ n<=(cont n t).length
 | 0,lo,t,h=>by simp[cnt,cont]
 | n+1,lo,t,h=>by
  have a:∀ x∈η t,3 ^ (n+1)<=(cont n x.sub).length:=λx hx=>by
   have f:=xE9 n x.key x.sub (h.all x hx).1;have b:=(h.all x hx).2.1;have g:3*3 ^ n<=cnt n x.sub*3 ^ n:=Nat.mul_le_mul_right _ b;rw[Nat.pow_succ];omega
  have c:=xK4 (λx:Lnk (Tn n)=>(cont n x.sub).length) (3 ^ (n+1)) (η t) a;have d:(cont (n+1) t).length=meas (λx:Lnk (Tn n)=>(cont n x.sub).length) (η t):=jJ7 (λx:Lnk (Tn n)=>cont n x.sub) (η t);have e:cnt (n+1) t=(η t).length:=rfl;rw[d,e,Nat.mul_comm];exact c
theorem xF0:∀ (n:Nat) (L:Lnk (Tn n)),Good n L.key L.sub->L.key.size<=8->n<256->OkL n L
 | 0,L,h,hk,hn=>⟨hk,λ_=>by
   have b:meas θ (prs L.sub)<=126:=h.fits;have c:=qK0 θ (prs L.sub) λx _=>by unfold θ;omega
   exact⟨λp d=>(h.all p d).1,oM,oM⟩⟩
 | n+1,L,h,hk,hn=>⟨hk,λ_=>by
   have b:meas qA2 (η L.sub)<=126:=h.fits;have c:=qK0 qA2 (η L.sub) λx _=>by unfold qA2;omega
   exact⟨hn,λm a=>xF0 n m (h.all m a).1 (h.all m a).2.2 oM,oM,oM⟩⟩
theorem xO5{N:Nat}{l}{w}:∀ (n:Nat) (h) (L),RL (Laid N l) n w h L->qJ9 N l n L
 | 0,h,L,hr=>λx d=>by
  have a:=hr.2;rw[d] at a;exact a.2.2.2
 | n+1,h,L,hr=>by
  refine⟨λx d=>?_,λhn m hm=>?_⟩
  .have a:=hr.2;rw[d] at a;exact a.2.2.2
  .have a:=hr.2;rw[hn] at a;obtain⟨_,_,q,_,f,_,e,_,b⟩:=a;obtain⟨i,c,rfl⟩:=gO hm;exact xO5 n (e[i]'(by rw[b.1];exact c)) _ (b.2 i (by rw[b.1];exact c) c)
theorem zJ0{V A N C:Nat}{l}{wr:Int}{b:N<=1000}{e:N*128<=l.length}{a:C≠A}{c:V≠A}{w}{h}{r}(d:RR (EL V A N C l wr b e a c).toEnv w h r):qL2 N l r:=by
 cases r with
 | none=>trivial
 | «at» n L=>exact xO5 n h L d
theorem zP1{X:Type}(f:Lnk X->List Nat->Lnk X × List (Nat × List UInt8) × List Nat)(R:Lnk X->Lnk X->Prop):∀ (ls:List (Lnk X)) (fr),(∀ l∈ls,∀ fr,R l (f l fr).1)->Both R ls (qB4 f ls fr).1
 | [],fr,_=>⟨rfl,λi h=>by simp at h⟩
 | l::ls,fr,h=>by
  obtain⟨a,b⟩:=zP1 f R ls (f l fr).2.2 λx hx=>h x (by simp[hx]);refine⟨by simp[qB4,a],λi c d=>?_⟩
  cases i with
  | zero=>exact h l sM fr
  | succ i=>exact b i (by simpa using c) (by simpa [qB4] using d)
theorem zP6:∀ (n:Nat) (L:Lnk (Tn n)) (a:List Nat),(qA0 n L a).1.key=L.key
 | 0,L,a=>by unfold qA0;split<;>rfl
 | n+1,L,a=>by unfold qA0;split<;>rfl
theorem xH8:∀ (n:Nat) (L:Lnk (Tn n)) (a:List Nat),cnt n (qA0 n L a).1.sub=cnt n L.sub
 | 0,L,a=>by unfold qA0;split<;>rfl
 | n+1,L,a=>by
  unfold qA0;split
  .rfl
  .exact (zP1 (qA0 n) (λ_ _=>True) (η L.sub) a λ_ _ _=>trivial).1.symm
theorem zY3{α:Type}(f:α->Nat):∀ (a b:List α),Both (λx y=>f x=f y) a b->meas f b=meas f a
 | [],[],_=>rfl
 | [],_::_,h=>by have:=h.1;simp at this
 | _::_,[],h=>by have:=h.1;simp at this
 | x::a,y::b,h=>by
  have c:=h.2 0 sM sM;simp only[zF] at c;have e:=zY3 f a b ⟨by simpa using h.1,λi g j=>by have d:=h.2 (i+1) (by simp;exact g) (by simp;exact j);simp only[zE] at d;exact d⟩;rw[qC2,qC2,c,e]
theorem xH9:∀ (n:Nat) (L) (fr) (lo),Good n lo L.sub->Good n lo (qA0 n L fr).1.sub
 | 0,L,fr,lo,h=>by unfold qA0;split<;>exact h
 | n+1,L,fr,lo,h=>by
  unfold qA0;split
  .exact h
  .have c:=zP1 (qA0 n) (λa b=>b.key=a.key/\cnt n b.sub=cnt n a.sub/\cont n b.sub=cont n a.sub/\(Good n a.key a.sub->Good n a.key b.sub)) (η L.sub) fr λl m fr=>⟨zP6 n l fr,xH8 n l fr,zP3 n l fr,xH9 n l fr l.key⟩;have d:=c.1;refine⟨?_,?_,?_,?_⟩
   .intro l m;have o:(qB4 (qA0 n) (η L.sub) fr).1.head?=some l:=m
    cases hx:(qB4 (qA0 n) (η L.sub) fr).1 with
    | nil=>rw[hx] at o;cases o
    | cons y ys=>
     rw[hx] at o c d;cases o
     cases hz:η L.sub with
     | nil=>rw[hz] at d;simp at d
     | cons z zs=>
      have t:=c.2 0 (by rw[hz];simp) sM;simp only[zF] at t;rw[t.1];have:=h.head z (by show (η L.sub).head?=some z;rw[hz];rfl);simp only[hz,zF];exact this
   .intro l m;obtain⟨i,f,rfl⟩:=gO m;have g:i<(η L.sub).length:=by rw[d];exact f
    obtain⟨k,p,q,r⟩:=c.2 i g f;have:=h.all _ (gM g);refine⟨?_,?_,?_⟩
    .rw[k];exact r this.1
    .rw[p];exact this.2.1
    .rw[k];exact this.2.2
   .rw[List.pairwise_iff_getElem];intro i j f u A;have g:i<(η L.sub).length:=by rw[d];exact f
    have v:j<(η L.sub).length:=by rw[d];exact u
    obtain⟨k,p,q,r⟩:=c.2 i g f;obtain⟨s,B,C,D⟩:=c.2 j v u;have:=(pG h.pair) i j g v A;refine⟨?_,?_⟩
    .rw[k,s];exact this.1
    .rw[q,s];exact this.2
   .have e:=zY3 qA2 (η L.sub) (qB4 (qA0 n) (η L.sub) fr).1 ⟨d,λi w x=>by show 11+_=11+_;rw[(c.2 i w x).1]⟩;show meas qA2 (qB4 (qA0 n) (η L.sub) fr).1<=126;rw[e];exact h.fits
theorem zU0{X:Type}(f:X->List Nat->List Nat)(g:X->Nat)(a:∀ t ks,(f t ks).length+1<=ks.length+g t):∀ (ls:List (Lnk X)) (ks),(ls.foldl (qF9 f) ks).length<=ks.length+meas (λm=>g m.sub) ls
 | [],ks=>by simp[meas]
 | m::ls,ks=>by
  have b:=zU0 f g a ls (qF9 f ks m);have c:(qF9 f ks m).length<=ks.length+g m.sub:=by
   unfold qF9;split
   .have:=a m.sub ks;omega
   .rename_i x _;split
    .omega
    .have:=a m.sub (x.1::ks);simp at this;omega
  rw[List.foldl_cons,qC2];omega
theorem zX7:∀ (n:Nat) (t) (ks),(qF6 n t ks).length+1<=ks.length+qB1 n t
 | 0,t,ks=>by simp[qF6,qB1]
 | n+1,t,ks=>by
  have h:=zU0 (qF6 n) (qB1 n) (zX7 n) (η t) ks;have e:qB1 (n+1) t=1+meas (λm:Lnk (Tn n)=>qB1 n m.sub) (η t):=rfl;rw[e];simp only[qF6];omega
theorem zL2(ks)(r):(qA7 ks r).length<=ks.length+qD2 r:=by
 cases r with
 | none=>simp[qA7,qD2]
 | «at» n L=>
  have h:=zU0 (qF6 n) (qB1 n) (zX7 n) [L] ks;simpa [qA7,qD2,meas] using h
theorem zF0:∀ (a ks:List Nat),a.Nodup->a.length<=(a.filter (λk=>decide (k ∉ ks))).length+ks.length
 | [],ks,_=>by simp
 | x::a,ks,h=>by
  obtain⟨i,c⟩:=List.nodup_cons.1 h;by_cases b:x∈ks
  .have d:=zF0 a (ks.erase x) c;have e:a.filter (λk=>decide (k ∉ ks.erase x))=a.filter (λk=>decide (k ∉ ks)):=List.filter_congr λy hy=>by
    have g:y≠x:=λe=>i (e ▸ hy);simp[List.mem_erase_of_ne g]
   have f:(x::a).filter (λk=>decide (k ∉ ks))=a.filter (λk=>decide (k ∉ ks)):=by rw[List.filter_cons_of_neg (by simp[b])]
   have j:=List.length_erase_of_mem b;have l:1<=ks.length:=List.length_pos_of_mem b;rw[e] at d;rw[f,lC];omega
  .have d:=zF0 a ks c;rw[List.filter_cons_of_pos (by simp[b]),lC,lC];omega
theorem jL5(N:Nat)(ks):N-2<=(qC4 N ks).length+ks.length:=by
 have h:=zF0 (List.range' 2 (N-2)) ks List.nodup_range';simpa [qC4] using h
theorem qX0{r}(h:RGood r):2*qD2 r<=r.cont.length+1:=by
 cases r with
 | none=>simp[qD2]
 | «at» n l=>
  have a:=zA7 n _ _ h.2.1;have b:=h.2.2;show 2*qB1 n l.sub<=(cont n l.sub).length+1;omega
open Go.Maps (Keyed)
def Lie(N:Nat)(l:List UInt8)(rb rs:Int):Root→Prop
 | .none=>rb=0∧rs=0
 | .at n L=>∃ b:Nat,rb=(b:Int)∧L.ref=some (b,rs)∧Laid N l n b rs L.sub
theorem Lie.bnd{N:Nat}{l}{a rs:Int}{r}(h:Lie N l a rs r)(d:N<=1000):0<=a/\a<=1000/\0<=rs:=by
 cases r with
 | none=>obtain⟨rfl,rfl⟩:=h;decide
 | «at» n L=>obtain⟨b,rfl,_,c⟩:=h;have:=c.at;omega
theorem Lie.sum{N:Nat}{l}{c rs:Int}{r}(h:Lie N l c rs r):rs<18446744073709551616:=by
 cases r with
 | none=>obtain⟨rfl,rfl⟩:=h;decide
 | «at» n L=>obtain⟨b,rfl,_,a⟩:=h;have:=a.at;omega
theorem Lie.rr{N:Nat}{l}{a rs:Int}{r}(h:Lie N l a rs r)(i:RGood r){V A C:Nat}{wr:Int}{f:N<=1000}{j:N*128<=l.length}{e:C≠A}{g:V≠A}(w):RR (EL V A N C l wr f j e g).toEnv w ⟨⟨#[]⟩,a,rs,none⟩ r:=by
 cases r with
 | none=>obtain⟨rfl,rfl⟩:=h;rfl
 | «at» n L=>
  obtain⟨b,rfl,c,d⟩:=h;refine⟨i.1.symm,?_⟩;rw[c];exact⟨rfl,rfl,rfl,d⟩
theorem Lie.old{N:Nat}{l}{e rs:Int}{r}(h:Lie N l e rs r):qL2 N l r:=by
 cases r with
 | none=>trivial
 | «at» n L=>
  obtain⟨b,rfl,c,d⟩:=h
  cases n with
  | zero=>intro x a;rw[c] at a;cases a;exact d
  | succ n=>exact⟨λx a=>by rw[c] at a;cases a;exact d,λa=>by rw[c] at a;cases a⟩
theorem Lie.move{N:Nat}{l l'}{c rs:Int}{r}(h:Lie N l c rs r)(f:∀ k∈qO0 r,ω l' k=ω l k):Lie N l' c rs r:=by
 cases r with
 | none=>exact h
 | «at» n L=>
  obtain⟨b,d,a,e⟩:=h;refine⟨b,d,a,e.move _ _ _ _ λk g=>f k ?_⟩;show k∈qH8 n L;rw[qO1 a];exact g
theorem zD8{N:Nat}{l}:∀ (n b:Nat) (s:Int) (t),Laid N l n b s t->∀ k∈Blk n b t,2<=k
 | 0,b,s,t,h,k,a=>by simp[Blk] at a;have:=h.at;omega
 | n+1,b,s,t,h,k,a=>by
  have q:=h.at;obtain⟨g,j,o,r,c,p⟩:=h;simp only[Blk,mC,List.mem_flatMap] at a;rcases a with rfl|⟨m,f,a⟩
  .omega
  .obtain⟨i,d,rfl⟩:=gO f;have e:=(c.2 i (by rw[c.1];exact d) d).2
   cases hx:(η t)[i].ref with
   | none=>rw[hx] at a;cases a
   | some x=>
    rw[hx] at a e;exact zD8 n x.1 x.2 _ e.2.2.2 k a
theorem Lie.ge{N:Nat}{l}{f rs:Int}{r}(h:Lie N l f rs r):∀ k∈qO0 r,2<=k:=by
 cases r with
 | none=>intro k a;cases a
 | «at» n L=>
  obtain⟨b,rfl,d,e⟩:=h;intro k a;have c:k∈qH8 n L:=a;rw[qO1 d] at c;exact zD8 n b rs L.sub e k c
theorem Lie.head{N:Nat}{l}{a rs:Int}{r}(h:Lie N l a rs r)(c:N*128<=l.length)(d:2<=N)(i:Nat)(e:i<2)(x y z:Int):Lie N (qC7 l i (qB6 x y z)) a rs r:=
 h.move λk b=>qY1 l _ i k N (qI7 _ _ _) c oM (by have:=h.ge k b;omega)
theorem xM5{N:Nat}{l c:List UInt8}(b:∀ k,2<=k->ω c k=ω l k):∀ (n:Nat) (L:Lnk (Tn n)),qJ9 N l n L->qJ9 N c n L
 | 0,L,h=>λx a=>(h x a).move _ _ _ _ λk hm=>b k (zD8 0 x.1 x.2 L.sub (h x a) k hm)
 | n+1,L,h=>⟨λx a=>(h.1 x a).move _ _ _ _ λk hm=>b k (zD8 (n+1) x.1 x.2 L.sub (h.1 x a) k hm),λhn m hm=>xM5 b n m (h.2 hn m hm)⟩
theorem jW8{N:Nat}{l l'}(a:∀ k,2<=k->ω l' k=ω l k){r}(h:qL2 N l r):qL2 N l' r:=by
 cases r with
 | none=>trivial
 | «at» n L=>exact xM5 a n L h
theorem Lie.one{N:Nat}{l}{i rs:Int}{r r'}(f:N<=1000)(h:Lie N l i rs r)(c:Lie N l i rs r'):r.cont=r'.cont/\qO0 r=qO0 r':=by
 cases r with
 | none=>
  obtain⟨rfl,rfl⟩:=h
  cases r' with
  | none=>exact⟨rfl,rfl⟩
  | «at» n L=>obtain⟨b,q,_,a⟩:=c;have:=a.at;omega
 | «at» n L=>
  obtain⟨b,rfl,k,a⟩:=h
  cases r' with
  | none=>obtain⟨e,_⟩:=c;have:=a.at;omega
  | «at» n' L'=>
   obtain⟨j,s,m,d⟩:=c;have o:b=j:=oM
   subst o;have p:=qW3 f a d;subst p;have g:=(zG6 f n b rs rs L.sub L'.sub a d).2;refine⟨?_,?_⟩
   .show cont n L.sub=cont n L'.sub;rw[g]
   .show qH8 n L=qH8 n L';rw[qO1 k,qO1 m,g]
def qP8:(n:Nat)→Nat→Tn n→List (Nat × List KV)
 | 0,b,t=>[(b,prs t)]
 | n+1,_,t=>(η t).flatMap (fun m=>match m.ref with | some x=>qP8 n x.1 m.sub | none=>[])
theorem qW2{N:Nat}{l}{n b:Nat}{s:Int}{t}(h:Laid N l (n+1) b s t):∀ m∈η t,∃ x,m.ref=some x/\Laid N l n x.1 x.2 m.sub:=by
 obtain⟨_,_,_,g,c,_⟩:=h;intro m f;obtain⟨i,d,rfl⟩:=gO f;have a:=(c.2 i (by rw[c.1];exact d) d).2
 cases hx:(η t)[i].ref with
 | none=>rw[hx] at a;obtain⟨_,_,q,_,e⟩:=a;exact e.elim
 | some x=>rw[hx] at a;exact⟨x,rfl,a.2.2.2⟩
theorem jK2{α b:Type}{l:List α}{f g:α->List b}(h:∀ a∈l,f a=g a):l.flatMap f=l.flatMap g:=by rw[List.flatMap_def,List.flatMap_def,List.map_congr_left h]
theorem xI6{N:Nat}{l}:∀ (n b:Nat) (s:Int) (t),Laid N l n b s t->(qP8 n b t).flatMap Prod.snd=cont n t
 | 0,b,s,t,h=>by
  show prs t++[]=prs t;rw[aN]
 | n+1,b,s,t,h=>by
  have a:=qW2 h;show ((η t).flatMap _).flatMap Prod.snd=(η t).flatMap λm=>cont n m.sub;rw[List.flatMap_assoc];refine jK2 λm d=>?_;obtain⟨x,e,c⟩:=a m d;rw[e];exact xI6 n x.1 x.2 m.sub c
theorem xI5{N:Nat}{l}:∀ (n b:Nat) (s:Int) (t),Laid N l n b s t->∀ y∈qP8 n b t,y.1<N/\ω l y.1=toB (qA3 0 y.2 [])/\(∀ p∈y.2,qC3 p)/\2+meas θ y.2<=128
 | 0,b,s,t,h,y,a=>by
  obtain⟨k,c,o,d,e,f,q⟩:=h;rw[mS a];exact⟨c,d,e,f⟩
 | n+1,b,s,t,h,y,a=>by
  obtain⟨m,i,a⟩:=mF a;obtain⟨x,j,g⟩:=qW2 h m i;rw[j] at a;exact xI5 n x.1 x.2 m.sub g y a
theorem xI7{N:Nat}{l}:∀ (n b:Nat) (s:Int) (t) (lo),Laid N l n b s t->Good n lo t->1<=cnt n t->∀ y∈qP8 n b t,y.2≠[]
 | 0,b,s,t,lo,h,hg,hc,y,a=>by
  rw[mS a];intro e;have:(prs t).length=0:=by rw[show prs t=[] from e];rfl
  have i:1<=(prs t).length:=hc;omega
 | n+1,b,s,t,lo,h,hg,hc,y,a=>by
  obtain⟨m,c,a⟩:=mF a;obtain⟨x,g,f⟩:=qW2 h m c;rw[g] at a;have d:=hg.all m c;exact xI7 n x.1 x.2 m.sub m.key f d.1 oM y a
theorem xL8{N:Nat}{l}:∀ (n b:Nat) (s:Int) (t) (lo),Laid N l n b s t->Good n lo t->min n 1<cnt n t->qB1 n t+1<=2*(qP8 n b t).length
 | 0,b,s,t,lo,h,hg,hc=>by simp[qB1,qP8]
 | n+1,b,s,t,lo,h,hg,hc=>by
  have i:=qW2 h;have g:∀ m∈η t,3<=cnt n m.sub/\Good n m.key m.sub:=λm c=>⟨(hg.all m c).2.1,(hg.all m c).1⟩;have p:1<(η t).length:=by
   have d:min (n+1) 1=1:=oM
   rw[d] at hc;exact hc
  have key:∀ ls:List (Lnk (Tn n)),(∀ m∈ls,∃ x,m.ref=some x/\Laid N l n x.1 x.2 m.sub)->(∀ m∈ls,3<=cnt n m.sub/\Good n m.key m.sub)->meas (λm:Lnk (Tn n)=>qB1 n m.sub) ls+ls.length<=2*(ls.flatMap (λm=>match m.ref with | some x=>qP8 n x.1 m.sub | none=>[])).length:=by
   intro ls
   induction ls with
   | nil=>intro _ _;simp[qD1]
   | cons a ls ih=>
    intro d e;have q:=ih (λm c=>d m (by simp[c])) (λm c=>e m (by simp[c]));obtain⟨x,k,j⟩:=d a sM;obtain⟨o,f⟩:=e a sM;have r:=xL8 n x.1 x.2 a.sub a.key j f oM;rw[qC2,lC,fC,lA,k];simp only;omega
  have d:=key (η t) i g;show 1+meas (λm:Lnk (Tn n)=>qB1 n m.sub) (η t)+1<=2*((η t).flatMap _).length;omega
theorem zN2{a:List Nat}{N:Nat}(h:a.Nodup)(d:∀ x∈a,x<N):a.length<=N:=by
 have b:=zF0 a (List.range N) h;have c:a.filter (λk=>decide (k ∉ List.range N))=[]:=by
  rw[List.filter_eq_nil_iff];intro x e;have:=d x e;simp[List.mem_range,this]
 rw[c,List.length_range] at b;simpa using b
theorem jU0(b:List (Nat × List KV))(h:∀ y∈b,y.2.length<=63):(b.flatMap Prod.snd).length<=b.length*63:=by
 induction b with
 | nil=>simp
 | cons a b ih=>
  have:=ih (λy c=>h y (by simp[c]));have:=h a sM;rw[fC,lA,lC,Nat.add_mul];omega
theorem zA4(ps)(h:∀ p∈ps,qC3 p):2*ps.length<=meas θ ps:=by
 induction ps with
 | nil=>simp
 | cons a ps ih=>
  have:=ih (λp b=>h p (by simp[b]));have c:=(h a sM).1;have d:θ a=1+a.k.size+a.v.size:=rfl;rw[qC2,lC];omega
theorem qW5{N:Nat}{l}{M rs:Int}{r}(h:Lie N l M rs r)(C:RGood r)(R:N<=400):qD2 r<=800/\r.cont.length<=25200:=by
 cases r with
 | none=>exact⟨zL _,zL _⟩
 | «at» n L=>
  obtain⟨b,rfl,P,d⟩:=h;obtain⟨_,f,w⟩:=C;have c:=xI5 n b rs L.sub d;have H:=xI7 n b rs L.sub L.key d f oM;have j:=xI6 n b rs L.sub d;have m:=(qK5 n L.key L.sub f).1;rw[<-j] at m;have I:=(List.pairwise_flatMap.1 m).2;have G:((qP8 n b L.sub).map Prod.fst).Nodup:=by
   refine List.pairwise_map.2 (I.imp_of_mem λ{x y} o a J=>?_);intro e;obtain⟨V,s,g,W⟩:=c x o;obtain⟨X,O,i,Y⟩:=c y a;rw[e,O] at s;have T:=zA4 x.2 g;have U:=zA4 y.2 i;have t:=qS7 (qG5 0 y.2 [] oM oM sO i sM) (qG5 0 x.2 [] oM oM sO g sM) s;obtain⟨_,D,q,q',u⟩:=qU4 t;have v:=zI3 y.2 x.2 _ _ i g (by simpa using D) u;obtain⟨p,k⟩:=List.exists_mem_of_ne_nil _ (H x o);have:=J p k p (by rw[v];exact k);rw[qO5] at this;cases this
  have E:=zN2 G (λz K=>by
   obtain⟨y,a,rfl⟩:=List.mem_map.1 K;exact (c y a).1)
  rw[List.length_map] at E;have S:=xL8 n b rs L.sub L.key d f w;have F:=jU0 (qP8 n b L.sub) (λy a=>by have:=zA4 y.2 (c y a).2.2.1;have:=(c y a).2.2.2;omega);rw[j] at F;have A:qD2 (.at n L)=qB1 n L.sub:=rfl;have B:(Root.at n L).cont=cont n L.sub:=rfl;have Q:(qP8 n b L.sub).length*63<=400*63:=Nat.mul_le_mul_right _ oM;rw[A,B];omega
theorem xL4{n:Nat}{m}{x:Nat × Int}(h:m.ref=some x):news n m=0:=by cases n<;>simp[news,h]
theorem zR6{N:Nat}{l}:∀ (n:Nat) (L),qJ9 N l n L->Hd n L
 | 0,L,h=>trivial
 | n+1,L,h=>by
  refine⟨λe=>?_,λm b=>zR6 n m (zI0 h n rfl m b)⟩;obtain⟨x,f⟩:=Option.isSome_iff_exists.1 e;have d:=qW2 (h.1 x f);have key:∀ ls:List (Lnk (Tn n)),(∀ m∈ls,news n m=0)->meas (news n) ls=0:=λls=>by
   induction ls with
   | nil=>intro _;rfl
   | cons a r ih=>intro c;rw[qC2,c a sM,ih λm b=>c m (by simp[b])]
  refine key _ λm b=>?_;obtain⟨y,g,_⟩:=d m b;exact xL4 g
def ol:(n:Nat)→Lnk (Tn n)→List (Nat × List KV)
 | 0,l=>match l.ref with | some x=>[(x.1,prs l.sub)] | none=>[]
 | n+1,l=>(η l.sub).flatMap (ol n)
theorem xD7{α d:Type}{f g:α->List d}:∀ (l:List α),(∀ a∈l,(f a).Sublist (g a))->(l.flatMap f).Sublist (l.flatMap g)
 | [],_=>List.Sublist.refl _
 | a::l,h=>by
  rw[fC,fC];exact (h a sM).append (xD7 l λb c=>h b (by simp[c]))
theorem xM4:∀ (n:Nat) (l:Lnk (Tn n)),((ol n l).flatMap Prod.snd).Sublist (cont n l.sub)
 | 0,l=>by
  unfold ol;split
  .show (prs l.sub++[]).Sublist (prs l.sub);rw[aN];exact List.Sublist.refl _
  .exact List.nil_sublist _
 | n+1,l=>by
  show (((η l.sub).flatMap (ol n)).flatMap Prod.snd).Sublist ((η l.sub).flatMap λm=>cont n m.sub);rw[List.flatMap_assoc];exact xD7 _ λm _=>xM4 n m
theorem zR2{N:Nat}{l}:∀ (n:Nat) (L),qJ9 N l n L->∀ y∈ol n L,y.1<N/\ω l y.1=toB (qA3 0 y.2 [])/\(∀ p∈y.2,qC3 p)/\2+meas θ y.2<=128/\y.1∈qH8 n L
 | 0,L,h,y,a=>by
  unfold ol at a
  cases hx:L.ref with
  | none=>rw[hx] at a;cases a
  | some x=>
   rw[hx] at a;rw[mS a];obtain⟨r,j,s,k,o,q,t⟩:=h x hx;exact⟨j,k,o,q,by rw[qO1 hx];simp[Blk]⟩
 | n+1,L,h,y,a=>by
  obtain⟨m,b,a⟩:=mF a;obtain⟨e,f,g,i,c⟩:=zR2 n m (zI0 h n rfl m b) y a;refine⟨e,f,g,i,?_⟩
  cases hx:L.ref with
  | none=>simp only[qH8,hx,List.mem_flatMap];exact⟨m,b,c⟩
  | some x=>
   rw[qO1 hx];obtain⟨z,d,_⟩:=qW2 (h.1 x hx) m b;simp only[Blk,mC,List.mem_flatMap];refine .inr ⟨m,b,?_⟩;rw[d];rw[qO1 d] at c;exact c
theorem xM3:∀ (n:Nat) (l) (lo),Good n lo l.sub->1<=cnt n l.sub->∀ y∈ol n l,y.2≠[]
 | 0,l,lo,hg,hc,y,a=>by
  unfold ol at a;split at a
  .rw[mS a];intro e;have b:1<=(prs l.sub).length:=hc;rw[show prs l.sub=[] from e] at b;exact absurd b dC
  .cases a
 | n+1,l,lo,hg,hc,y,a=>by
  obtain⟨m,d,a⟩:=mF a;have c:=hg.all m d;exact xM3 n m m.key c.1 oM y a
theorem xJ4:∀ (n:Nat) (l),Hd n l->lf n l.sub<=(ol n l).length+news n l
 | 0,l,_=>by
  unfold ol lf news;cases l.ref<;>simp
 | n+1,l,h=>by
  have f:=h.sum;have key:∀ ls:List (Lnk (Tn n)),(∀ m∈ls,Hd n m)->meas (λm:Lnk (Tn n)=>lf n m.sub) ls<=(ls.flatMap (ol n)).length+meas (news n) ls:=λls=>by
   induction ls with
   | nil=>intro _;simp[meas]
   | cons a r ih=>
    intro b;have d:=ih λm c=>b m (by simp[c]);have e:=xJ4 n a (b a sM);rw[qC2,qC2,fC,lA];omega
  have:=key (η l.sub) h.2;show meas (λm:Lnk (Tn n)=>lf n m.sub) (η l.sub)<=((η l.sub).flatMap (ol n)).length+_;omega
theorem jW7{N:Nat}{l}{n:Nat}{L}(s:qJ9 N l n L)(d:Good n L.key L.sub)(m:1<=cnt n L.sub):((ol n L).map Prod.fst).Nodup:=by
 have c:=zR2 n L s;have r:=xM3 n L L.key d m;have v:=(qK5 n L.key L.sub d).1.sublist (xM4 n L);have t:=(List.pairwise_flatMap.1 v).2;refine List.pairwise_map.2 (t.imp_of_mem λ{x y} g w u=>?_);intro e;obtain⟨C,h,a,D,_⟩:=c x g;obtain⟨E,z,b,F,_⟩:=c y w;rw[e,z] at h;have A:=zA4 x.2 a;have B:=zA4 y.2 b;have i:=qS7 (qG5 0 y.2 [] oM oM sO b sM) (qG5 0 x.2 [] oM oM sO a sM) h;obtain⟨_,o,q,q',j⟩:=qU4 i;have k:=zI3 y.2 x.2 _ _ b a (by simpa using o) j;obtain⟨p,f⟩:=List.exists_mem_of_ne_nil _ (r x g);have:=u p f p (by rw[k];exact f);rw[qO5] at this;cases this
theorem xJ2{N:Nat}{l:List UInt8}{r:Root}(f:qL2 N l r)(k:RGood r)(c:List Nat)(j:c.Nodup)(h:∀ b∈c,b<N)(t:∀ b∈c,b ∉ qO0 r):r.lf+c.length<=N+r.news:=by
 cases r with
 | none=>
  have:=zN2 j h;show 0+c.length<=N+0;omega
 | «at» n L=>
  have m:=jW7 f k.2.1 (by have:=k.2.2;omega);have i:=zR2 n L f;have u:=xJ4 n L (zR6 n L f);have o:=List.nodup_append.2 ⟨m,j,λa q b s e=>by
   obtain⟨y,g,rfl⟩:=List.mem_map.1 q;exact t b s (by rw[<-e];exact (i y g).2.2.2.2)⟩
  have p:=zN2 o (λx d=>by
   rcases mA d with d|d
   .obtain⟨y,g,rfl⟩:=List.mem_map.1 d;exact (i y g).1
   .exact h x d)
  rw[lA,List.length_map] at p;show lf n L.sub+c.length<=N+news n L;omega
theorem xJ3{N:Nat}{l}{r}(b:qL2 N l r)(a:RGood r):r.lf<=N+r.news:=by
 have:=xJ2 b a [] List.nodup_nil sM sM;simpa using this
theorem zR5{N:Nat}{l}{r}(a:qL2 N l r):∀ L,r=.at 6 L->L.ref=none:=λL e=>by
 subst e
 cases hx:L.ref with
 | none=>rfl
 | some x=>have:=(xM6 a hx).at;omega
theorem zR3{N:Nat}{l}{r}(a:qL2 N l r):r.hd:=by
 cases r with
 | none=>trivial
 | «at» n L=>exact zR6 n L a
end Go.Proofs.YtdohpenfkdckiaaGreatDoor
