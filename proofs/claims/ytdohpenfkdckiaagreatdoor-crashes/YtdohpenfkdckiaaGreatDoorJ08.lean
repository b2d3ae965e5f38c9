import Derived.Test.YtdohpenfkdckiaaGreatDoorJ07
set_option linter.all false
set_option maxRecDepth 100000
set_option maxHeartbeats 0
namespace Go.Proofs.YtdohpenfkdckiaaGreatDoor
open Go.Proofs.Tryz Go.RowKit
def WG:(prog.info? 66).map (λi=>(i.zero,i.size,i.bytes))=some (some (.agg #[ϊ 0,ϊ 0,ϊ 0,ϊ 0,ϊ 0,ϕ ⟨#[]⟩,ϕ ⟨#[]⟩]),7,72):=kR
def qB9(w)(base g:Nat)(v)(n:Nat)(xs:Ϩ)(a:Ϩ)(c:a.length=7)(ty)
  (h:w.ownsRow base 66 7 v n xs) (s:n<=1000000) (e:w.heap[g]?=some (ϲ a.toArray 66)) (k:∀u∈a,u.oneCell'=true) (d:base<=w.heap.size):
  ∃b w',Sem.run prog (Builtin.append_ #[22,22] ty #[v,.slice (some (ϰ g 0)) 1 1]) w=.ok b w'/\w'.ownsRow base 66 7 b (n+1) (xs++a)/\w.grownBy w' v.ownBlock:=by
 let⟨p,f,l,m,o⟩:=info_parts WG;let⟨b,w',i,q,r,t⟩:=run_append_own (P:=prog) w base 22 ty 66 p _ 7 72 underlying22 f l m o rfl dC v n _ h (ϰ g 0) 1 1 a (by simp[c]) (λj v hv=>by
  rw[Br,Y e];simpa using hv) k (by unfold maxLen;omega) oM d
 exact⟨b,w',i,q,r⟩
def qD2{w}{base:Nat}{p}{c:Nat}{a:List SOp}(h:w.ownsRow base 66 7 (.slice p a.length c) a.length (a.flatMap SOp.cells)):Script w p a.length (λi=>a.getD i ⟨0,0,0,0,0,⟨#[]⟩,⟨#[]⟩⟩):=by
 intro v;rcases h.2 with⟨_,n⟩|⟨g,cap,cur,j,q,d,r,s,t,k⟩
 .omega
 .cases j;refine⟨g,0,rfl,U d,λi b c u=>?_⟩;rw[Y d];have m:∀(l:List SOp)(i:Nat)(b:i<l.length),(l.flatMap SOp.cells)[i*7+c]?=(l[i]).cells[c]?:=by
   intro l
   induction l with
   | nil=>intro i b;simp at b
   | cons o l ih=>
    intro i b;rw[fC];have:o.cells.length=7:=rfl
    cases i with
    | zero=>rw[List.getElem?_append_left oM];simp
    | succ i=>rw[List.getElem?_append_right oM,show(i+1)*7+c-o.cells.length=i*7+c by omega,ih i (sU b)];simp
  have e:=m a i b;rw[<-k,List.getElem?_take_of_lt oM]at e;have f:a.getD i ⟨0,0,0,0,0,⟨#[]⟩,⟨#[]⟩⟩=a[i]:=by simp[List.getD,b]
  show _=(a.getD i _).cells[c]?;rw[f,<-e];simp
def qC5{w}{g:Nat}{a b c d e:Int}{tg}(h:w.heap[g]?=some (ϲ #[.int .u8 a,.int .u8 b,.int .u8 c,.int .u8 d,.int .u8 e] tg)):
  ∃s,Sem.run prog (convert 118 9 (.slice (some (ϰ g 0)) 5 5)) w=.ok (ϕ s) w:=by
 rw[run_convert_bytes_string w _ _ _ _ _ _ underlying118 underlying5 underlying9];have f:=Gt (P:=prog) (o:=0) (n:=5) h sM;have e:Ad #[.int .u8 a,.int .u8 b,.int .u8 c,.int .u8 d,.int .u8 e] 0 5=(([a,b,c,d,e]:List Int).map (.int .u8)).toArray:=by rfl
 rw[e]at f;exact⟨_,run_bytesToString w _ _ _ _ f⟩
def Ke(n:Int)(w):
  Ω 244 #[ϊ n] w λe w'=>∃s,e=ϱ (ϕ s)/\Kp [] w w':=by
 let⟨s,a⟩:=qC5 (μ w (ϲ #[.int .u8 (n / 16777216 % 256),.int .u8 (n / 65536 % 256),.int .u8 (n / 256 % 256),.int .u8 (n % 256),.int .u8 33] 5));go_enter func244,ntmps244;go_wp2;go_ret;exact⟨_,rfl,kF.alloc _⟩
def qC1{P:Program}(w)(dT sT ty elem)(g dCap n:Nat)(a)(sCap:Nat)(cur)(t)(cs:Ϩ)
  (o:P.underlying dT=some (.slice elem)) (b:(P.info? elem).map (·.size)=some 2)
  (f:w.heap[g]?=some (ϲ cur t (0,0))) (k:cs.length=n*2)
  (m:∀j v,cs[j]?=some v->w.cell? (a.add j)=some v) (e:cs.length<=cur.size) (d:∀v∈cs,v.oneCell'=true):
  (Builtin.copy_ #[dT,sT] ty #[.slice (some (ϰ g 0)) n dCap,.slice (some a) n sCap]).run P w =
   .ok (goInt n) (w.setRow g (cs++cur.toList.drop cs.length).toArray):=by
 have c:=run_storeCells_at P g 0 t cs 0 cur w f (sU e) d;have l:=k.symm;simp[Nat.add_zero,Nat.zero_add,List.take_zero,nA]at c
 cases hq:P.info? elem with
 | none=>simp[hq]at b
 | some i=>
  have h:i.size=2:=by simpa [hq] using b
  simp[Builtin.copy_,run_underlying o,Builtin.lenOf,Builtin.firstCells,sizeOf,typeInfo,hq,h,l,run_loadCells_list (P:=P) w a cs m,c]
def qE3:(prog.info? 42).map (·.size)=some 2:=kR
def WJ:(prog.info? 29).map (λi=>(i.zero,i.size,i.bytes))=some (some (.slice none 0 0),1,24):=kR
def PK(w)(base g:Nat)(v)(n:Nat)(xs:Ϩ)(u)(ty)
  (h:w.ownsRow base 29 1 v n xs) (p:n<=1000000) (c:w.heap[g]?=some (ϲ #[u] 29)) (e:u.oneCell'=true) (b:base<=w.heap.size):
  ∃a w',Sem.run prog (Builtin.append_ #[128,128] ty #[v,.slice (some (ϰ g 0)) 1 1]) w=.ok a w'/\w'.ownsRow base 29 1 a (n+1) (xs++[u])/\w.grownBy w' v.ownBlock/\∀k,a.ownBlock=some k->v.ownBlock=some k\/w.heap.size<=k:=by
 let⟨o,d,i,l,m⟩:=info_parts WJ;exact KI (P:=prog) w base 128 ty 29 o _ 1 24 underlying128 d i l m rfl dC v n _ h (ϰ g 0) 1 1 [u] sM (λj v f=>by
  rw[Br,Y c];simpa using f) (sU e) (by unfold maxLen;omega) oM b
def qC2{w}{l}{ps}{Z}(t:SPA w l ps)(n:Z.size=ps.length*2)(ty):
  ∃w',Sem.run prog (Builtin.copy_ #[29,29] ty #[.slice (some (ϰ w.heap.size 0)) ps.length ps.length,l]) (w.alloc (ϲ Z 42))=.ok (ϊ ps.length) w'/\w'.heap[w.heap.size]?=some (ϲ (Aa ps).toArray 42)/\Kp [] w w':=by
 have f:=μ w (ϲ Z 42);have u:=DO ps;have s:Z.toList.drop (Aa ps).length=[]:=List.drop_eq_nil_of_le sO;have key:∀(a:Addr)(c:Nat),l=ϒ (some a) ps.length c->(∀j v,(Aa ps)[j]?=some v->(w.alloc (ϲ Z 42)).cell? (a.add j)=some v)->∃w',Sem.run prog (Builtin.copy_ #[29,29] ty #[ϑ (ϳ w) 0 ps.length ps.length,l]) (w.alloc (ϲ Z 42))=.ok (ϊ ps.length) w'/\w'.heap[ϳ w]?=some (ϲ (Aa ps).toArray 42)/\Kp [] w w':=by
  intro a c e q;have d:=qC1 (P:=prog) (w.alloc (ϲ Z 42)) 29 29 ty 42 (ϳ w) ps.length ps.length a c Z 42 (Aa ps) underlying29 qE3 f u q oM (Pt ps);rw[s,aN]at d;refine⟨_,by rw[e];exact d,by rw[setRow_heap _ _ _ _ _ _ f],(kF.alloc _).setRow sM _⟩
 rcases t.val with⟨i,b,c,e,p⟩|⟨g,B,cap,cur,y,e,z,A,k,m⟩
 .have x:=List.length_eq_zero_iff.1 i;subst x
  cases b with
  | none=>
   have r:=p rfl;subst r;have d:=run_copy_nil prog (w.alloc (ϲ Z 42)) 29 29 ty 42 ⟨ϳ w,0,none⟩ 0 0 underlying29 kR;have o:=Array.size_eq_zero_iff.1 (sU n);refine⟨_,by rw[e];exact d,by rw[f,o];rfl,kF.alloc _⟩
  | some a=>exact key a c e (λj v h=>by simp[Aa]at h)
 .refine key _ cap e (λj v h=>?_);rw[Br,Y (ν _ k)];exact m j v h
structure HEnt where
 l:Value
 c:Value
 ps:List KV
structure Held(w:Ϣ)(base:Nat)(k:KF)(hs:List HEnt):Prop where
 li:w.ownsRow base 29 1 k.li hs.length (hs.map HEnt.l)
 wa:w.ownsRow base 29 1 k.wa hs.length (hs.map HEnt.c)
 two:∀i,k.li.ownBlock=some i->k.wa.ownBlock≠some i
 eq:∀x∈hs,SPA w x.l x.ps/\SPA w x.c x.ps
def ED{w:Ϣ}{base n sz:Nat}{T:Ϯ}{v:Value}{xs:Ϩ}(h:w.ownsRow base T sz v n xs):∀i,v.ownBlock=some i->∃c,w.heap[i]?=some (ϲ c T):=by
 intro i a;rcases h.2 with⟨d,b⟩|⟨g,cap,cur,b,f,e,j⟩
 .rw[d]at a;cases a
 .rw[b]at a;simp[Value.ownBlock]at a;subst a;exact⟨_,e⟩
def IP(k:KF)(B base:Nat)(d:List HEnt)(l:Value)(ps:List KV)(w w':Ϣ):Prop:=
 ∃a b c L,w'.heap[B]?=some (kob { k with li:=a,wa:=b })/\Held w' base { k with li:=a,wa:=b } (d++[⟨l,c,ps⟩])/\Kp L w w'/\(∀i∈L,i=B\/k.li.ownBlock=some i\/k.wa.ownBlock=some i)/\
  (∀i,a.ownBlock=some i->k.li.ownBlock=some i\/w.heap.size<=i)/\(∀i,b.ownBlock=some i->k.wa.ownBlock=some i\/w.heap.size<=i)
def NC(B base:Nat)(k:KF)(b:List HEnt)(l)(ps)(w)(S:w.heap[B]?=some (kob k))(d:Held w base k b)(hl:SPA w l ps)(hn:ps.length<=1000000)(hk:b.length<=100000)(hb:base<=w.heap.size):
  Ω 245 #[ϖ B,l] w λe w'=>e=ϱ (.tuple #[])/\IP k B base b l ps w w':=by
 let⟨I,K,a0⟩:=hl.form;subst a0;have bh:=U S;go_enter func245,ntmps245
 go_wp2_with (refine QD (.agg #[ϕ ⟨#[]⟩,ϕ ⟨#[]⟩]) (ϕ ⟨#[]⟩) 2 32 underlying29 JH (by simp[Value.cells]) (by simp[Value.cells]) .i64 .i64 ps.length rfl rfl oM oM ?_;intro Z hZ bj)
 let⟨o,a1,af,A⟩:=qC2 hl hZ 3;rw[a1];have D:=A.hp S;have bl:=A.size;have bi:=U af;have G:=Bp d.li A (λ_ _ _ _ _ h=>by cases h);have aa:=Bp d.wa A (λ_ _ _ _ _ h=>by cases h);have bk:=World.ownsRow.lt d.li;let⟨pl,cl,ax⟩:=DP G;let⟨pw,cw,ay⟩:=DP aa
 -- the lists
 let⟨v2,C,al,am,F,aj⟩:=PK (o.alloc (ϲ #[ϒ I ps.length K] 29)) base o.heap.size k.li b.length (b.map HEnt.l) (ϒ I ps.length K) 128 (World.ownsRow.alloc G _) oM (μ _ _) rfl sO;have y:=Ds G F D dC;have a8:=World.ownsRow.kept (World.ownsRow.alloc aa _) F (by
  cases e:k.wa.ownBlock with
  | none=>exact .inl rfl
  | some i=>exact .inr (λh=>d.two i h.symm e))
 let⟨s,v,a4⟩:=DP am;subst a4;have bm:o.heap.size+1<=C.heap.size:=by have:=((Kp.refl (k.li.ownBlock.toList) (o.alloc (ϲ #[ϒ I ps.length K] 29))).grown F (λi a=>Or.inl (by simp[a]))).size;simpa using this
 obtain⟨g,a6,T,V,a2⟩:∃g,g=C.setCell (ϰ B 12) (ϒ s (b.length+1) v)/\g.heap[B]?=some (kob { k with li:=ϒ s (b.length+1) v })/\Kp [B] C g/\g.heap.size=C.heap.size:=⟨_,rfl,ξ y 12 _,(Kp.refl _ _).sc _,by simp[World.setCell]⟩;have ad:∀i c t m,C.heap[i]?=some (ϲ c t m)->i∈[B]->t≠29:=λi c t m f p=>by
  rw[List.mem_singleton.1 p,y]at f;cases f;decide
 have ah:=Bp am V ad;have ao:=Bp a8 V ad
 -- the copies
 let⟨v4,M,H,an,X,ak⟩:=PK (g.alloc (ϲ #[ϑ w.heap.size 0 ps.length ps.length] 29)) base g.heap.size k.wa b.length (b.map HEnt.c) (ϑ w.heap.size 0 ps.length ps.length) 128 (World.ownsRow.alloc ao _) oM (μ _ _) rfl sO;have z:=Ds ao X T dC;let⟨O,Q,a5⟩:=DP an;subst a5;have HE:Hid (IP k B base b (ϒ I ps.length K) ps w (M.setCell (ϰ B 13) (ϒ O (b.length+1) Q))):=by
  show IP _ _ _ _ _ _ _ _;obtain⟨N,a7,ar,W⟩:∃N,N=M.setCell (ϰ B 13) (ϒ O (b.length+1) Q)/\N.heap[B]?=some (kob { k with li:=ϒ s (b.length+1) v,wa:=ϒ O (b.length+1) Q })/\Kp [B] M N:=⟨_,rfl,ξ z 13 _,(Kp.refl _ _).sc _⟩;rw[<-a7];let⟨L,aw⟩:=eX (B::(k.li.ownBlock.toList++k.wa.ownBlock.toList));have q:∀i,i∈L↔i=B\/k.li.ownBlock=some i\/k.wa.ownBlock=some i:=λi=>by simp[aw]
  have au:=((Kp.refl L o).alloc _).grown F (λi a=>Or.inl ((q i).2 (.inr (.inl a))));have av:=((Kp.refl L g).alloc _).grown X (λi a=>Or.inl ((q i).2 (.inr (.inr a))));have ac:=λi a=>(q i).2 (.inl (List.mem_singleton.1 a));have ag:=((au.trans V (λi a _=>ac i a)).trans av (λi a _=>a)).trans W (λi a _=>ac i a);have E:=(A.mono sM).trans ag (λi a _=>a);have aq:Apt o L [42]:=λi a c t m e=>by
   rcases(q i).1 a with h|h|h
   .rw[h,D]at e;cases e;decide
   .let⟨P,n⟩:=ED G i h;rw[n]at e;cases e;decide
   .let⟨P,n⟩:=ED aa i h;rw[n]at e;cases e;decide
  have R:Apt w L [42]:=λi a c t m e=>by
   rcases(q i).1 a with h|h|h
   .rw[h,S]at e;cases e;decide
   .let⟨P,n⟩:=ED d.li i h;rw[n]at e;cases e;decide
   .let⟨P,n⟩:=ED d.wa i h;rw[n]at e;cases e;decide
  have ai:∀i,Value.ownBlock (ϒ s (b.length+1) v)=some i->k.wa.ownBlock≠some i:=λi h h'=>by
   rcases aj i h with f|f
   .exact d.two i f h'
   .have:=((World.ownsRow.lt d.wa) i h').2;simp at f;omega
  have ae:∀i c t m,M.heap[i]?=some (ϲ c t m)->i∈[B]->t≠29:=λi c t m f p=>by
   rw[List.mem_singleton.1 p,z]at f;cases f;decide
  have az:=World.ownsRow.kept (World.ownsRow.alloc ah (ϲ #[ϑ w.heap.size 0 ps.length ps.length] 29)) X (by
   cases e:Value.ownBlock (ϒ s (b.length+1) v) with
   | none=>exact .inl rfl
   | some i=>exact .inr (λh=>ai i e h.symm))
  have a3:SPA o (ϑ w.heap.size 0 ps.length ps.length) ps:=by
   refine⟨DO ps,?_⟩;by_cases h0:ps.length=0
   .exact .inl ⟨h0,_,_,by rw[h0],λh=>by cases h⟩
   .exact .inr ⟨_,0,_,_,_,rfl,oM,Nat.le_refl _,af,λj u hj=>by simpa using hj⟩
  refine⟨_,_,ϑ w.heap.size 0 ps.length ps.length,L,ar,⟨?_,?_,?_,?_⟩,E,λi a=>(q i).1 a,?_,?_⟩
  .have e:=Bp az W ae;simpa using e
  .simpa using(Bp an W ae)
  .intro i p h4;rcases ak i h4 with h|h
   .exact ai i p h
   .have:=(World.ownsRow.lt ah i p).2;simp at h;omega
  .intro x r;rcases List.mem_append.1 r with r|r
   .exact⟨(d.eq x r).1.qM3 E R,(d.eq x r).2.qM3 E R⟩
   .rw[List.mem_singleton.1 r];exact⟨hl.qM3 E R,a3.qM3 ag aq⟩
  .intro i a;exact(aj i a).imp id (λh=>by simp at h;omega)
  .intro i a;exact(ak i a).imp id (λh=>by simp at h;omega)
 have bg:=U z;have bf:=U T;have be:=U y;have bd:=U D;have ap:=ϻ D 12;have ab:=ϻ T 13;have ba:=ρ y 12;have a9:=ϻ y 12;have bb:=ρ z 13;have bc:=ϻ z 13;rw[ax]at ap al;rw[ay]at ab H;rw[a2]at H;rw[a6]at ab H
 go_wp2_with (at_builtin;first | ((with_reducible refine CC ?_ ?_ al ?_);rfl;rfl) | ((with_reducible refine CC ?_ ?_ H ?_);rfl;rfl))
 go_end0
 exact⟨rfl,HE⟩
def Held.qY7{w}{base:Nat}{k:KF}{a:List HEnt}(h:Held w base k a){j:Nat}(i:j<a.length):∃g c,k.li=.slice (some (ϰ g 0)) a.length c/\a.length<=c/\g<w.heap.size/\w.cell? (ϰ g j)=some a[j].l:=by
 rcases h.li.2 with⟨l,b⟩|⟨g,cap,cur,b,m,d,f,n,o,p⟩
 .omega
 .refine⟨g,cap,b,f,U d,?_⟩;have e:=World.ownsRow.cells h.li (g:=g) (by rw[b];rfl) j a[j].l (by simp[i])
  rwa [Br,Nat.zero_add]at e
def Held.qY8{w}{base:Nat}{k:KF}{a:List HEnt}(h:Held w base k a){j:Nat}(i:j<a.length):∃g c,k.wa=.slice (some (ϰ g 0)) a.length c/\a.length<=c/\g<w.heap.size/\w.cell? (ϰ g j)=some a[j].c:=by
 rcases h.wa.2 with⟨l,b⟩|⟨g,cap,cur,b,m,d,f,n,o,p⟩
 .omega
 .refine⟨g,cap,b,f,U d,?_⟩;have e:=World.ownsRow.cells h.wa (g:=g) (by rw[b];rfl) j a[j].c (by simp[i])
  rwa [Br,Nat.zero_add]at e
def XY(B base:Nat)(k:KF)(a:List HEnt)(w)(b:w.heap[B]?=some (kob k))(c:Held w base k a)(hn:a.length<=100000)(O:∀x∈a,x.ps.length<=1000000):
  Ω 84 #[ϖ B] w λe w'=>e=ϱ (ϐ true)/\Kp [] w w':=by
 let⟨pl,cl,v⟩:=DP c.li;have:=U b;have I:=ϻ b 12;have K:=ϻ b 13;rw[v]at I;clear b;go_enter func84,ntmps84;go_wp2_with fail
 go_loopw [3] (λi wr=>∃(j:Nat),j<=a.length/\i=.int .i64 j/\∃d,wr=w.drewN d) (λi _=>a.length-(intOf i).toNat)
 case atStart=>exact⟨0,zL _,rfl,0,rfl⟩
 case round=>
  obtain⟨j,hj,rfl,d,rfl⟩:=hrel;by_cases f:j<a.length
  .have:(j:Int)<(a.length:Int):=oM
   let⟨g1,W,l,af,aj,G⟩:=c.qY7 f;let⟨g2,X,L,ag,ak,H⟩:=c.qY8 f;rw[v]at l;simp[vJ,true_and]at l;obtain⟨rfl,rfl⟩:=l;rw[L]at K;let⟨g,h⟩:=c.eq a[j] (gM f);have y:=O a[j] (gM f);obtain⟨⟨lv,cv,ps⟩,Q⟩:∃x,a[j]=x:=⟨_,rfl⟩;rw[Q]at G H g h y;simp only at G H g h y;obtain⟨lb,lc,rfl⟩:=g.form;obtain⟨wb,wc,rfl⟩:=h.form;have o:=zh (n2 g h);go_wp2_with fail
   go_loopw [4] (λq wr=>∃(z:Nat),z<=ps.length/\q=.int .i64 z/\∃d,wr=w.drewN d) (λq _=>ps.length-(intOf q).toNat)
   case atStart=>exact⟨0,zL _,rfl,d,rfl⟩
   case round=>
    obtain⟨z,hz,rfl,d',rfl⟩:=hrel;by_cases D:z<ps.length
    .have:(z:Int)<(ps.length:Int):=oM
     let⟨g3,E,Z,ab,ad,A,ah,m,M⟩:=o.out.1.at oM;let⟨g4,F,aa,ac,ae,C,ai,n,N⟩:=o.out.2.at oM;let⟨R,S⟩:=M z D;let⟨T,V⟩:=N z D;simp[vJ,true_and]at A C;obtain⟨rfl,rfl⟩:=A;obtain⟨rfl,rfl⟩:=C;have r:=Y m (E+z*2);rw[R]at r;have s:=Y m (E+z*2+1);rw[S]at s;have t:=Y n (F+z*2);rw[T]at t;have u:=Y n (F+z*2+1);rw[V]at u;have:=U m;have:=U n;let⟨p,P⟩:=eY (ps[z]);rw[P]at r s t u;go_wp2_with fail
     go_quiet (fail)
     go_wp2;exact⟨⟨z+1,oM,by go_num,_,rfl⟩,iO⟩
    .have:¬(z:Int)<(ps.length:Int):=oM
     go_wp2;exact⟨⟨j+1,oM,by go_num,_,rfl⟩,iO⟩
  .have:¬(j:Int)<(a.length:Int):=oM
   go_wp2;go_ret;exact⟨rfl,kF.drewN _⟩
def KB(q)(qs):Aa (q::qs)=ϕ q.k::.string q.v::Aa qs:=by simp[Aa,pcs]
def Pu:∀(a)(i:Nat)(p),((Aa a).set (i*2) (ϕ p.k)).set (i*2+1) (ϕ p.v)=Aa (a.set i p)
 | [],i,p=>by simp[Aa]
 | q::a,0,p=>by simp[KB]
 | q::a,i+1,p=>by
  rw[show(i+1)*2=i*2+1+1 by omega,zC,KB,KB,zC,zC,zC,zC,Pu a i p]
def Held.qM3{w w'}{base:Nat}{k:KF}{f:List HEnt}{S}(h:Held w base k f)(a:ProgS w S)(hK:Kp S w w'):Held w' base k f:=
 ⟨Bp h.li hK (λi c t j b d e=>absurd ((a i d).2 _ _ _ b) (by rw[e];decide)),Bp h.wa hK (λi c t j b d e=>absurd ((a i d).2 _ _ _ b) (by rw[e];decide)),h.two,
  λx g=>⟨(h.eq x g).1.qM3 hK (a.apt dC),(h.eq x g).2.qM3 hK (a.apt dC)⟩⟩
def qC4(w)(base g:Nat)(l)(qs)(a b)(ty)(h:OPA w base l qs)(hn:qs.length<=1000000)(N:w.heap[g]?=some (ϲ #[ϕ a.k,ϕ a.v,ϕ b.k,ϕ b.v] 42))(L:base<=w.heap.size):
  ∃d w',Sem.run prog (Builtin.append_ #[29,29] ty #[l,.slice (some (ϰ g 0)) 2 2]) w=.ok d w'/\SPA w' l qs/\OPA w' base d (qs++[a,b])/\w.grownBy w' l.ownBlock:=by
 let⟨q,i,A,p,B⟩:=info_parts JH;have m:∀j u,([.string a.k,.string a.v,.string b.k,.string b.v]:List Value)[j]?=some u->w.cell? (((ϰ g 0):Addr).add j)=some u:=λj v o=>by
  rw[Br,Y N];simpa using o
 have R:Aa (qs++[a,b])=Aa qs++[.string a.k,.string a.v,.string b.k,.string b.v]:=by simp[Aa,pcs]
 have t:∀u∈([.string a.k,.string a.v,.string b.k,.string b.v]:List Value),u.oneCell'=true:=by simp[Value.oneCell']
 let⟨d,w',n,W,X,_⟩:=run_append_own (P:=prog) w base 29 ty 42 q _ 2 32 underlying29 i A p B rfl dC l qs.length _ h (ϰ g 0) 2 2 [.string a.k,.string a.v,.string b.k,.string b.v] rfl m t (by unfold maxLen;omega) oM L;have K:OPA w' base d (qs++[a,b]):=by
  unfold OPA;rw[R,List.length_append];exact W
 refine⟨d,w',n,?_,K,X⟩;rcases h.2 with⟨H,Q⟩|⟨f,cap,cur,o,h2,h3,I,h5,h6,h7⟩
 .have S:=List.length_eq_zero_iff.1 Q;subst S;rw[H];exact SPA.nil _
 .subst o;by_cases T:qs.length+2<=cap
  .let⟨Z,c,C,_⟩:=run_append_fits w base 29 ty 42 q 2 underlying29 i p f qs.length cap (Aa qs) h (ϰ g 0) 2 2 [.string a.k,.string a.v,.string b.k,.string b.v] rfl m t T;rw[n]at c;cases c;rcases C.2 with⟨E,_⟩|⟨g',aa,D,r,e2,F,e4,e5,e6,G⟩
   .cases E
   .simp[Value.slice.injEq,Option.some.injEq,Addr.mk.injEq,and_true,true_and]at r;obtain⟨rfl,rfl⟩:=r;refine⟨DO qs,?_⟩;by_cases z:qs.length=0
    .exact .inl ⟨z,_,_,by rw[z],λe=>by cases e⟩
    .refine .inr ⟨f,0,cap,D,_,rfl,oM,I,F,λj u x=>?_⟩;have y:=(List.getElem?_eq_some_iff.1 x).1;have s:(Aa qs++[.string a.k,.string a.v,.string b.k,.string b.v])[j]?=some u:=by rw[List.getElem?_append_left y];exact x
     rw[<-G,List.getElem?_take_of_lt (by rw[DO]at y;omega)]at s;simpa using s
  .have M:∀j u,(Aa qs)[j]?=some u->w.cell? (((ϰ f 0):Addr).add j)=some u:=World.ownsRow.cells h rfl;let⟨v2,Z,c,C,V⟩:=run_append_arg_grows w 29 ty 42 q _ 2 32 underlying29 i A p B rfl dC (ϰ f 0) qs.length cap (Aa qs) h.1 M (ϰ g 0) 2 2 [.string a.k,.string a.v,.string b.k,.string b.v] rfl m oM (by unfold maxLen;omega) oM;rw[n]at c;cases c;exact h.sp.qM4 ((Kp.refl [] w).grown V (λk O=>by cases O))
def GF(k:KF)(B base n:Nat)(e:List HEnt)(S:Ϥ)(l:Value)(b w w':Ϣ):Prop:=
 ∃a c x y L,w'.heap[B]?=some (kob { k with li:=a,wa:=c })/\Held w' base { k with li:=a,wa:=c } (e++[x,y])/\x.ps.length<=n+2/\y.ps.length<=n+2/\Kp L b w'/\(∀i∈L,i∈S\/i=B\/k.li.ownBlock=some i\/k.wa.ownBlock=some i)/\
  (∀i,a.ownBlock=some i->k.li.ownBlock=some i\/b.heap.size<=i)/\(∀i,c.ownBlock=some i->k.wa.ownBlock=some i\/b.heap.size<=i)/\
  ∃d,Kp d w w'/\∀i∈d,l.ownBlock=some i\/i=B\/k.li.ownBlock=some i\/k.wa.ownBlock=some i
def Held.apt{w}{base B:Nat}{k:KF}{j:List HEnt}{L}(h:Held w base k j)(f:w.heap[B]?=some (kob k))(g:∀i∈L,i=B\/k.li.ownBlock=some i\/k.wa.ownBlock=some i):Apt w L [42]:=λi hi c t fr e=>by
 rcases g i hi with a|a|a
 .rw[a,f]at e;cases e;decide
 .let⟨d,b⟩:=ED h.li i a;rw[b]at e;cases e;decide
 .let⟨d,b⟩:=ED h.wa i a;rw[b]at e;cases e;decide
def Xk(B base:Nat)(k:KF)(o:List HEnt)(l)(ps)(S)(w0 w)(N:w0.heap[B]?=some (kob k))(Q:Held w0 base k o)(hP:ProgS w0 S)(hK:Kp S w0 w)(hl:OPA w w0.heap.size l ps)(hn:ps.length<=99000)(hk:o.length<=90000)(hb:base<=w0.heap.size):
  Ω 202 #[ϖ B,l] w λe w'=>e=ϱ (.tuple #[])/\GF k B base ps.length o S l w0 w w':=by
 let⟨f,c,a5⟩:=hl.form;subst a5;have P:=hP.stay hK N dC;have:=U P;let⟨pl,cl,an⟩:=DP Q.li;have au:=ϻ P 12;rw[an]at au;have A:=zh (n4 N Q hP hb);have HL:=zh (n2 hl hK);have:wrap64 (100000*(o.length:Int))=100000*(o.length:Int):=by simp[wrap64];omega
 let⟨n,aq⟩:=eY ps.length;rw[aq]at hn HL |-;clear N Q hP hK hl hb P an;go_enter func202,ntmps202;go_wp2_with fail
 go_loopw [5,6] (λi m wr=>∃(j:Nat)(b:List KV),j<=n/\i=.int .i64 j/\Hid (b.length=n)/\OPA wr w0.heap.size (ϒ f n c) b/\Kp S w0 wr/\Kp (oB (ϒ f n c)).toList w wr) (λi _ _=>n-(intOf i).toNat)
 case atStart=>exact⟨0,ps,zL _,rfl,aq,HL.1,HL.2,Kp.refl _ _⟩
 case round=>
  obtain⟨j,b,hj,rfl,r,Z,hK,W⟩:=hrel;by_cases ap:j<n
  .have:(j:Int)<(n:Int):=oM
   go_wp2_with fail;apply(Ke _ _).mono;rintro e y ⟨s,rfl,q⟩;have x:OPA y w0.heap.size (ϒ f n c) b:=Bp Z q (λ_ _ _ _ _ h=>by cases h);have af:=hK.tr q;have ah:=W.tr q;rcases x.2 with⟨h0,be⟩|⟨g,cap,cur,hv,h2,K,h4,h5,h6,h7⟩
   .have:=r.out;omega
   simp[vJ]at hv;obtain⟨rfl,a6,rfl⟩:=hv;clear a6;have:=U K;have am:j<b.length:=by have:=r.out;omega
   have aa:=λi u hu=>by
    have e:=World.ownsRow.cells x (g:=g) rfl i u hu
    rwa [Br,Nat.zero_add]at e
   have a0:=aa _ _ (Ec am).1;have a1:=aa _ _ (Ec am).2;have:=ρ K (j*2);have:=ρ K (j*2+1);let⟨p,hp⟩:=eY (b[j]);rw[hp]at a0 a1;have C:Hid (OPA y w0.heap.size (ϑ g 0 n c) b/\Kp S w0 y/\w0.heap.size<=g/\Kp [g] w y):=⟨x,af,h2,ah⟩;have:n<=c:=by have:=r.out;omega
   clear h2 K h4 h5 h6 h7 aa hp x af q Z hK W ah;go_wp2;refine⟨⟨j+1,b.set j ⟨s,⟨#[]⟩⟩,oM,by go_num,?_,?_,?_,?_⟩,iO⟩
   .show (b.set j _).length=n;rw[List.length_set];exact r.out
   .have x:y.ownsRow w0.heap.size 42 2 (ϑ g 0 n c) n (Aa b):=by have h:=C.out.1;unfold OPA at h;rw[r.out]at h;exact h
    have e2:=(World.ownsRow.stored (World.ownsRow.stored x (j*2) (ϕ s)).1 (j*2+1) (ϕ ⟨#[]⟩)).1;have e3:=Pu b j ⟨s,⟨#[]⟩⟩;simp only at e3;rw[e3]at e2;unfold OPA;rw[List.length_set,r.out];exact e2
   .exact (C.2.1.setCell (p:=(ϰ g _)) (Or.inr C.2.2.1) _).setCell (p:=(ϰ g _)) (Or.inr C.2.2.1) _
   .exact (C.2.2.2.setCell (p:=(ϰ g _)) sM _).setCell (p:=(ϰ g _)) sM _
  .have:¬(j:Int)<(n:Int):=oM
   go_wp2_with fail;apply(Ke _ _).mono;rintro e y ⟨G,rfl,q⟩;go_wp2_with fail;apply(Ke _ _).mono;rintro e w2 ⟨H,rfl,T⟩;have ag:=(hK.tr q).tr T;have aj:OPA w2 w0.heap.size (ϒ f n c) b:=Bp (Bp Z q (λ_ _ _ _ _ h=>by cases h)) T (λ_ _ _ _ _ h=>by cases h);have:=ag.size;have a7:=r.out;let⟨v4,z,a8,a2,az,al⟩:=qC4 (w2.alloc (ϲ #[ϕ G,ϕ ⟨#[]⟩,ϕ H,ϕ ⟨#[]⟩] 42)) w0.heap.size w2.heap.size (ϒ f n c) b ⟨G,⟨#[]⟩⟩ ⟨H,⟨#[]⟩⟩ 29 (aj.alloc _) oM (μ _ _) sO;have t:=(ag.alloc _).grown al (λi a=>Or.inr (aj.low i a));have ai:=(((W.tr q).tr T).alloc _).grown al (λi a=>Or.inl (by simp[a]));have O:=A.out.2.2.1.stay t A.1 dC;have R:=A.out.2.1.qM3 A.2.2.1 t;have a9:=t.size;have:=A.out.2.2.2;have I:Hid (Kp S w0 z/\Ϙ z B (kob k)/\Held z base k o/\SPA z v4 (b++[⟨G,⟨#[]⟩⟩,⟨H,⟨#[]⟩⟩])/\w0.heap.size<=z.heap.size/\b.length=n):=⟨t,O,R,az.sp,a9,a7⟩
   go_wp2_with (at_builtin;(with_reducible refine CC ?_ ?_ a8 ?_);rfl;rfl)
   refine mR (NC B base k o (ϒ f n c) b z O R a2 oM oM oM) ?_;rintro w5 ⟨ba,bc,c1,L1,ab,ad,v,D,E,F⟩;have ak:=I.out.2.2.2.1.qM3 v (I.2.2.1.apt I.2.1 D);have:=v.size;have a3:(o++[HEnt.mk (ϒ f n c) c1 b]).length<=100000:=sO
   have a4:(b++[KV.mk G ⟨#[]⟩,KV.mk H ⟨#[]⟩]).length<=1000000:=sO
   go_wp2_with fail;refine mR (NC B base { k with li:=ba,wa:=bc } _ v4 _ w5 ab ad ak a4 a3 oM) ?_;rintro w6 ⟨bb,bd,c2,L2,ac,ae,V,X,ao,ar⟩;have HE:Hid (GF k B base n o S (ϒ f n c) w0 w w6):=by
    show GF _ _ _ _ _ _ _ _ _ _;let⟨t,O,R,_,bg,bf⟩:=I.out;let⟨v,D,E,F⟩:=(zh (n4 v D E F)).out;let⟨LL,ax⟩:=eX (S++(B::(k.li.ownBlock.toList++k.wa.ownBlock.toList)));have L:∀i,i∈LL↔i∈S\/i=B\/k.li.ownBlock=some i\/k.wa.ownBlock=some i:=λi=>by simp[ax]
    have av:=(t.mono (λi a _=>(L i).2 (.inl a))).trans v (λi a _=>(L i).2 (.inr (D i a)));have aw:=av.trans V (λi a ap=>(L i).2 (by
     rcases X i a with h|h|h
     .exact .inr (.inl h)
     .rcases E i h with d|d
      .exact .inr (.inr (.inl d))
      .omega
     .rcases F i h with d|d
      .exact .inr (.inr (.inr d))
      .omega))
    refine⟨bb,bd,⟨ϒ f n c,c1,b⟩,⟨v4,c2,b++[⟨G,⟨#[]⟩⟩,⟨H,⟨#[]⟩⟩]⟩,LL,ac,sU ae,dO,sO,aw,λi a=>(L i).1 a,?_,?_,?_⟩
    .intro i a;rcases ao i a with h|h
     .exact (E i h).imp id (λh=>by omega)
     .exact .inr oM
    .intro i a;rcases ar i a with h|h
     .exact (F i h).imp id (λh=>by omega)
     .exact .inr oM
    .let⟨LM,ay⟩:=eX ((oB (ϒ f n c)).toList++(B::(k.li.ownBlock.toList++k.wa.ownBlock.toList)));have M:∀i,i∈LM↔oB (ϒ f n c)=some i\/i=B\/k.li.ownBlock=some i\/k.wa.ownBlock=some i:=λi=>by simp[ay]
     have:=ai.size;refine⟨LM,((ai.mono (λi a _=>(M i).2 (.inl (sU a)))).trans v (λi a _=>(M i).2 (.inr (D i a)))).trans V (λi a ap=>(M i).2 ?_),λi a=>(M i).1 a⟩;rcases X i a with h|h|h
     .exact .inr (.inl h)
     .rcases E i h with d|d
      .exact .inr (.inr (.inl d))
      .omega
     .rcases F i h with d|d
      .exact .inr (.inr (.inr d))
      .omega
   clear ab ad ak ac ae V X ao ar;go_wp2
   go_end0
   exact⟨rfl,HE⟩
def Vj{P:Program}{a:Act}{w w'}{o:Oper}{s x:Operand}{t}{vs vx v'}(b:o.op=.call { callee:=.builtin .append,args:=#[s,x],argTypes:=#[t,t] })(d:a.eval s=vs)(e:a.eval x=vx)(c:Sem.run P (Builtin.append_ #[t,t] o.type #[vs,vx]) w=.ok v' w'):Sem.run P (execOp a.eval o) w=.ok (.value v') w':=by
 unfold execOp;simp[b,resolve,invoke,builtin,Sem.run_bind,Sem.run_pure,Result.andThen_ok,List.map_toArray,List.map_cons,List.map_nil,d,e,c]
def Pr(l)(ps)(w)(I:SPA w l ps)(hn:ps.length<=100000):
  Ω 189 #[l] w λe w'=>∃v,e=ϱ v/\OPR w' w.heap.size v ps/\Kp [] w w':=by
 obtain⟨lb,Q,rfl⟩:=I.form;go_enter func189,ntmps189;go_wp2_with fail
 go_loopw [3,4] (λo i wr=>∃(j:Nat)(c:Option Addr)(d:Nat),j<=ps.length/\i=.int .i64 j/\o=ϒ c j d/\OPR wr w.heap.size (ϒ c j d) (ps.take j)/\Kp [] w wr) (λ_ i _=>ps.length-(intOf i).toNat)
 case atStart=>exact⟨0,none,0,zL _,rfl,rfl,OPR.nil _ _,Kp.refl _ _⟩
 case round=>
  obtain⟨j,c,d,hj,rfl,rfl,D,hK⟩:=hrel;have z:=zh hK;have:=hK.size;by_cases L:j<ps.length
  .have:(j:Int)<(ps.length:Int):=oM
   let⟨g,b,cap,cur,C,O,ac,N,T⟩:=(I.qM4 hK).at oM;let⟨A,B⟩:=T j L;simp[vJ,true_and]at O;obtain⟨rfl,rfl⟩:=O;let⟨p,M⟩:=eY (ps[j]);rw[M]at A B;have:=U N;have a:=N;go_wp2_with fail;refine wp_region_held_drew (S:=λW=>Ϙ W g (ϲ cur 42 C)) kR a (λ_=>?_);refine zU 0 (ϒ c j d) a ?_;refine zU 1 (ϑ g b ps.length Q) a ?_;apply zU 2 (ϊ j) a;refine zU 3 (ϗ (some (ϰ g (b+j*2)))) a ?_;apply zU 4 (ϗ (some (ϰ g (b+j*2)))) a;refine zV 5 (ϕ p.k) rfl (λW x=>by have q:=Y x (b+j*2);rw[A]at q;go_simp) a ?_;apply zU 6 (ϑ g b ps.length Q) a;refine zU 7 (ϊ j) a ?_;refine zU 8 (ϗ (some (ϰ g (b+j*2)))) a ?_;apply zU 9 (ϗ (some (ϰ g (b+j*2+1)))) a;refine zV 10 (ϕ p.v) rfl (λW x=>by have q:=Y x (b+j*2+1);rw[B]at q;go_simp) a ?_;refine zU 11 (.agg #[ϕ p.k,ϕ p.v]) a ?_;obtain⟨f,ab,R,t,ad⟩:∃f,f=World.drew (wr.alloc (ϲ #[ϕ p.k,ϕ p.v] 284))/\Ϙ f wr.heap.size (ϲ #[ϕ p.k,ϕ p.v] 284)/\Kp [] wr f/\f.heap.size=wr.heap.size+1:=
    ⟨_,rfl,μ wr _,((Kp.refl _ wr).alloc _).drew,show(wr.alloc _).heap.size=_ by simp⟩
   have n:=t.hp a;have u:OPR f w.heap.size (ϒ c j d) (ps.take j):=Bp D t (λ_ _ _ _ _ h=>by cases h);have ae:(ps.take j).length=j:=sO
   let⟨v5,y,X,E,H⟩:=u.app wr.heap.size p 124 oM R oM;let⟨r,s,P⟩:=E.form;have aa:(ps.take j++[p]).length=j+1:=sO
   rw[aa]at P;subst P;have Z:ps.take (j+1)=ps.take j++[p]:=by rw[tA L,M]
   have m:Hid (OPR y w.heap.size (ϒ r (j+1) s) (ps.take (j+1))/\Kp [] w y):=⟨by rw[Z];exact E,(z.tr t).grown H (λk V=>Or.inr (u.low k V))⟩;refine zq 12 λK hK=>?_;go_simp;rw[<-ab];refine zk hK n ?_
   have F:Ϙ y g (ϲ cur 42 C):=by
    refine(H.block g (U n) (λe=>?_)).trans n;let⟨c',G⟩:=ED u g e.symm;rw[n]at G;cases G
   refine zq 13 λK hK=>?_;apply AU rfl (Vj rfl rfl rfl X);refine zk hK F ?_
   refine zU 14 (ϒ r (j+1) s) F ?_;refine zd ?_;go_wp2;exact⟨⟨j+1,r,s,oM,by go_num,sM,m.1,m.2⟩,iO⟩
  .have:¬(j:Int)<(ps.length:Int):=oM
   have m:Hid (OPR wr w.heap.size (ϒ c j d) ps):=by
    have h:=D;rw[tL oM]at h;exact h
   clear hK;go_wp2;go_ret;exact⟨_,rfl,m,z⟩
def LG(k:KF)(B base n:Nat)(c:List HEnt)(S:Ϥ)(R:ϩ->ϯ)(w w':Ϣ):Prop:=∃a b l,R none a/\Kp S w a/\Kp [] a b/\(∀i,Value.ownBlock l=some i->w.heap.size<=i)/\GF k B base n c S l w b w'
def PT(ps)(lo hi)(a:Int):(Bu ps lo hi a).length<=ps.length:=by
 have:=List.length_filter_le (inR lo hi) ps;have:=List.length_take_le a.toNat (ps.filter (inR lo hi));have:=List.length_take_le' a.toNat (ps.filter (inR lo hi));unfold Bu;omega
def QZ(B:Nat)(k:KF)(R:ϩ->ϯ)(S:Ϥ)(w w':Ϣ):Prop:=∃ko a,ko≠none/\R ko a/\Kp S w a/\LkT B k ko a w'
def qD0(B tb:Nat)(z:Int)(k:KF)(f:TF)(ps)(base:Nat)(hs:List HEnt)(lo hi)(d:Int)(S)(R:ϩ->ϯ)(w)(hI:LkIn w B tb z k f ps)(hP:ProgS w S)(O:Held w base k hs)(W:hs.length<=90000)(hb:base<=w.heap.size)(T:Ω 71 #[ϖ f.x,ϕ lo,ϕ hi,ϊ d] w λe w'=>∃l v ko,e=ϱ (.tuple #[l,v])/\ErrV w' v ko/\IR k.po f.dn true z k.A (l=.slice none 0 0) (OPA w' w.heap.size l (Bu ps lo hi d)) ko w'/\R ko w'/\Kp S w w'):
  Ω 134 #[ϖ B,ϖ tb,ϕ lo,ϕ hi,ϊ d] w λe w'=>e=ϱ (ϐ true)/\(QZ B k R S w w'\/LG k B base (Bu ps lo hi d).length hs S R w w'):=by
 have s:=zh (n3 O W hb);have:=U hI.hB;have:=U hI.hT;have:=hI.hA.lt;have:=ϻ hI.hB 0;have:=ϻ hI.hT 0;go_enter func134,ntmps134;go_wp2_with fail;apply hI.hA.call.mono;rintro e w0 ⟨rfl,rfl⟩;go_wp2_with fail;apply(show Calls _ _ _ _ _ from hid T).mono;rintro e w1 ⟨l,v,ko,rfl,hv,C,hR,hK1⟩;have:=hK1.size;obtain⟨o,r,q,hlv⟩:∃a b c,l=.slice a b c:=by
  rcases C with⟨_,_,h,_⟩|⟨_,_,_,⟨_,h⟩|⟨_,_,h⟩⟩
  .exact⟨_,_,_,h⟩
  .let⟨a,c,e⟩:=h.form;exact⟨a,_,c,e⟩
  .exact⟨_,_,_,h⟩
 subst hlv;have Tz:Hid (∀{p:Prop},(_h:p:=by
  go_wp2_with (go_at_call 127;apply mR (BN _ _);rintro w2 rfl)
  apply(qB8 (.slice vb vl vc) ps lo hi d _ hsp2' (oW hI.sz)).mono;rintro e w3 ⟨v3,rfl,ad,u⟩;have hB3:=u.hp hB2;have ah:=u.hp hT2;have:=U hB3;have:=U ah;have t:=ϻ hB3 10;have K:=ϻ ah 3;have g:=zh (hK2.tr u);rcases(hid C).out with⟨j,y,m,G⟩|⟨n,x,_,y⟩
  .subst y;simp[vJ]at m;obtain⟨rfl,rfl,rfl⟩:=m;have i:=hid (show ioK (some j)=false/\Ce (some j)=j from DJ (by rcases G with h | h | h<;>simp_all));obtain rfl:j=tk:=i.out.2.symm.trans HTK.out;rcases G with⟨n,rfl⟩|⟨n,x,rfl⟩|⟨_,_,h,_⟩
   .rw[n]at t;go_wp2;go_ret;exact⟨sM,.inl ⟨_,w1,sM,HR.1,HR.2,.inl ⟨rfl,g⟩⟩⟩
   .rw[n]at t;rw[x]at K;go_wp2;go_ret;exact⟨sM,.inl ⟨_,w1,sM,HR.1,HR.2,.inl ⟨rfl,g⟩⟩⟩
   .cases h
  rw[n]at t;rw[x]at K;rcases y with⟨rfl,X⟩|⟨F,Z,m⟩
  .obtain rfl:(0:Int)=tk:=HTK.out;have:=PT ps lo hi d;have:=hI.sz;generalize hqs:Bu ps lo hi d=qs at *;have H:OPA w3 (ϳ w0) (.slice o r q) qs:=Bp X g (λ_ _ _ _ _ h=>by cases h);go_wp2_with fail;apply(Pr (.slice o r q) qs w3 H.sp oM).mono;rintro e w4 ⟨v4,rfl,Q,hK4⟩;go_wp2_with fail;apply mR (PI v4 v3 qs qs w4 Q.sp (ad.qM4 hK4) oM oM);rintro A E;have D:=(g.tr hK4).tr E;have I:OPA A (ϳ w0) (.slice o r q) qs:=Bp (Bp H hK4 (λ_ _ _ _ _ h=>by cases h)) E (λ_ _ _ _ _ h=>by cases h);have V:decide (qs=qs)=true:=sM
   rw[V];have HQ:=zh (n2 D I.low);go_wp2_with fail;apply mR (Xk B base k hs (.slice o r q) qs S w0 A hI.hB s.1 hP (HR.out.2.tr D) I oM s.2.1 s.2.2);rintro L N;go_wp2;go_ret;exact⟨rfl,.inr ⟨w1,A,.slice o r q,HR.1,HR.2,HQ.1,HQ.2,by rw[hqs];exact N⟩⟩
  .simp[vJ]at m;obtain⟨rfl,rfl,rfl⟩:=m;obtain rfl:(8:Int)=tk:=(Ci F).1.symm.trans HTK.out;have i:=hid (And.intro F Z);go_wp2_with fail;apply mR (ES B k z w3 (hid hB3) (i.2.qM4 g));rintro L ⟨M,P⟩;have HE:=hid (And.intro M ((g.mono sM).tr P:Kp [B] w1 L));go_wp2;go_ret;exact⟨rfl,.inl ⟨_,w1,(Ci i.1).2,HR.1,HR.2,.inr ⟨i.1,HE.2,HE.1⟩⟩⟩)->p):=λh=>h;exact zS9
def Cr(xs:List Int):List Value:=xs.map (.int .i64)
def Slc.ints{w}{T}{v}{xs:List Int}(h:Slc w T 1 v xs.length (Cr xs))(m:1<=xs.length):
  ∃g a cap cur b,v=.slice (some (ϰ g a)) xs.length cap/\w.heap[g]?=some (ϲ cur T b)/\∀i (h:i<xs.length),cur[a+i]?=some (ϊ xs[i]):=by
 rcases h.val with⟨j,_⟩|⟨g,a,cap,cur,b,c,k,l,d,e⟩
 .omega
 .exact⟨g,a,cap,cur,b,c,d,λi f=>by have:=e i (ϊ xs[i]) (by simp[Cr,f]);simpa using this⟩
def Xw(g F:Nat)(cap:ϧ)(p:KV)(b:Bool)(w:Ϣ)(a:w.heap[F]?=some (ϲ #[.func (.func g) #[] cap] 92))
  (k:ϴ g)
  (c:∀W,Kp [] w W->Calls prog g (#[ϕ p.k]++cap) W λe W'=>e=ϱ (ϐ b)/\Kp [] W W'):
  Ω 155 #[.agg #[ϕ p.k,ϕ p.v],ϖ F] w λe w'=>e=ϱ (ϐ b)/\Kp [] w w':=by
 have d:=zh c;clear c;have:=U a;have j:=ϻ a 0;go_enter func155,ntmps155;go_wp2_with fail;refine(d _ (kF.alloc _)).mono ?_;rintro e i ⟨rfl,f⟩;have h:Kp [] w i:=(kF.alloc _).tr f;go_wp2;go_ret;exact⟨rfl,h⟩
def Xx(g F:Nat)(cap:ϧ)(p:HL)(b:Bool)(w:Ϣ)(a:w.heap[F]?=some (ϲ #[.func (.func g) #[] cap] 92))
  (k:ϴ g)
  (c:∀W,Kp [] w W->Calls prog g (#[ϕ p.key]++cap) W λe W'=>e=ϱ (ϐ b)/\Kp [] W W'):
  Ω 156 #[.agg #[ϕ p.key,ϊ p.b,.int .u64 p.s,ϗ p.ptr],ϖ F] w λe w'=>e=ϱ (ϐ b)/\Kp [] w w':=by
 have d:=zh c;clear c;have:=U a;have j:=ϻ a 0;go_enter func156,ntmps156;go_wp2_with fail;refine(d _ (kF.alloc _)).mono ?_;rintro e i ⟨rfl,f⟩;have h:Kp [] w i:=(kF.alloc _).tr f;go_wp2;go_ret;exact⟨rfl,h⟩
def Ju(w)(o1 o2 o3 o4 o5):∃a,a=((((w.alloc o1).alloc o2).alloc o3).alloc o4).alloc o5/\a.heap[w.heap.size]?=some o1/\a.heap[w.heap.size+1]?=some o2/\a.heap[w.heap.size+1+1]?=some o3/\a.heap[w.heap.size+1+1+1]?=some o4/\a.heap[w.heap.size+1+1+1+1]?=some o5/\Kp [] w a/\a.heap.size=w.heap.size+5:=by
 refine⟨_,rfl,ν _ (ν _ (ν _ (ν _ (μ _ _)))),ν _ (ν _ (ν _ ?_)),ν _ (ν _ ?_),ν _ ?_,?_,((((kF.alloc _).alloc _).alloc _).alloc _).alloc _,sM⟩
 .have e:=μ (w.alloc o1) o2;simpa using e
 .have e:=μ ((w.alloc o1).alloc o2) o3;simpa using e
 .have e:=μ (((w.alloc o1).alloc o2).alloc o3) o4;simpa using e
 .have e:=μ ((((w.alloc o1).alloc o2).alloc o3).alloc o4) o5;simpa using e
structure LBox(E:SEnv)(r:HL)(q g:Nat)(cap:ϧ)(N:Nat)(w:Ϣ):Prop where
 t:w.heap[N]?=some (ϲ #[ϖ E.V,ϕ r.key,ϊ r.b,.int .u64 r.s,ϗ r.ptr] 89)
 n:w.heap[N+1]?=some (ϲ #[ϖ q] 85)
 f:w.heap[N+1+1]?=some (ϲ #[.func (.func g) #[] cap] 92)
 p:w.heap[N+1+1+1]?=some (ϲ #[ϕ ⟨#[]⟩,ϕ ⟨#[]⟩] 42)
 b:w.heap[N+1+1+1+1]?=some (ϲ #[ϐ false] 4)
def SEnv.qO9{E:SEnv}{w W a:Ϣ}{k:Nat}(f:E.toEnv.To w W)(h:w.heap.size<=k)(g:∀c t b,W.heap[k]?=some (ϲ c t b)->t∉Cn)(hK:Kp [k] W a):E.toEnv.To w a:=
 ⟨E.qN1 W a [k] f.dev hK (λi d c t b e=>by rw[mS d]at e;exact g c t b e),f.kp.trans hK (by intro i d j;simp at d;omega)⟩
def XD(E:SEnv)(r:HL)(l:Lnk (Tn 0))(q:Nat)(g:Nat)(cap:ϧ)(f:Ϧ->Bool)(w:Ϣ)(hd:E.Dev w)(hN:RN E.O 0 w q l.sub)(hg:Good 0 l.key l.sub)(bg:1<=Go.Proofs.YtdohpenfkdckiaaGreatDoor.cnt 0 l.sub)(ai:DT f)(ha:Asks E.toEnv w g cap f)
  (be:ϴ g):
  Ω 99 #[θ E.V r,ϖ q,.func (.func g) #[] cap] w λe w'=>e=ϱ (AB (AX f (cont 0 l.sub)))/\E.toEnv.To w w':=by
 have:=zM;have:(prs l.sub).length<=10000:=Ch 0 l.key l.sub hg;have bh:1<=(prs l.sub).length:=bg;have a7:Sorted (prs l.sub):=hg.sorted;have bb:=zh a7;have HD:=zh hd;have HA:=zh ha;have a9:=zh ai;have ba:Hid (∀i j (M:i<(prs l.sub).length) (hj:j<(prs l.sub).length),i<=j->f (prs l.sub)[j].k=true->f (prs l.sub)[i].k=true):=by
  show ∀i j (M:i<(prs l.sub).length) (hj:j<(prs l.sub).length),_;intro i j M hj bo A;by_cases e:i=j
  .subst e;exact A
  .exact ai _ _ (pG a7 i j M hj oM) A
 let⟨vp,N,a6⟩:=hN;have bi:=U N;have bj:q<w.heap.size+1:=oM
 have bk:q<w.heap.size+1+1:=oM
 have bl:q<w.heap.size+1+1+1:=oM
 have bm:q<w.heap.size+1+1+1+1:=oM
 have q0:=Y N;simp only[Ai,zG,zH,zI]at q0;clear hd ai ha;rw[θ];go_enter func99,ntmps99;go_wp2_with fail;let⟨w1,a8,bc,av,Z,ar,ay,H,bn⟩:=Ju w (ϲ (ϟ E.V r) 89) (ϲ #[ϖ q] 85) (ϲ #[.func (.func g) #[] cap] 92) (ϲ ϝ 42) (ϲ #[.bool false] 4);rw[<-a8];clear a8 q0 bi bj bk bl bm bn bc;have ae:=Env.To.of0 HD H;have hq:=H.hp N;have al:=a6.qM4 H;clear N a6;refine(XA 155 _ vp (prs l.sub) (λp=>f p.k) w1 al oM ba ?_ ?_).mono ?_
 .intro args W;simp[go_sem,func155]
 .intro W aq i M;exact Xw g (w.heap.size+1+1) cap (prs l.sub)[i] (f (prs l.sub)[i].k) W (aq.hp Z) be (λW' bd=>HA W' _ ((ae.tail aq).tail bd))
 rintro e s ⟨rfl,k⟩;have ax:=ae.tail k;have ac:=k.hp av;have aa:=k.hp Z;have au:=k.hp ar;have az:=k.hp ay;have O:=k.hp hq;have a5:=al.qM4 k;obtain⟨i,aj⟩:∃i,(prs l.sub).findIdx (λp=>!f p.k)-1=i:=⟨_,rfl⟩;have a3:i<(prs l.sub).length:=by
  have:(prs l.sub).findIdx (λp=>!f p.k)<=(prs l.sub).length:=fL;omega
 have u:=zh (Oe a9 bb aj a3);rw[aj];obtain⟨h,d,X,cur,G,rfl,bf,P,a2⟩:=a5.pair bh;let⟨c0,V⟩:=a2 i a3;let⟨p,A⟩:=eY ((prs l.sub)[i]);rw[A]at c0 V u;let⟨m,hm⟩:=eY ((prs l.sub).length);rw[hm]at O bf;have:(i:Int)<(m:Int):=oM
 have T:=zh ax;have R:=zh (n2 au az);clear k ax ar ay av Z hq al H ae aj a5 a2 A au az;have a4:=Y P (d+i*2);rw[c0]at a4;go_wp2_with fail;have a:s.drew.heap[w.heap.size+1]?=some (ϲ #[ϖ q] 85)/\s.drew.heap[w.heap.size+1+1]?=some (ϲ #[.func (.func g) #[] cap] 92)/\Ϙ s.drew q (Ai 0 (.slice (some (ϰ h d)) m X) (.slice none 0 0))/\Ϙ s.drew h (ϲ cur 185 G):=⟨ac,aa,O,P⟩;refine wp_region_held_drew (S:=λW=>W.heap[w.heap.size+1]?=some (ϲ #[ϖ q] 85)/\W.heap[w.heap.size+1+1]?=some (ϲ #[.func (.func g) #[] cap] 92)/\Ϙ W q (Ai 0 (.slice (some (ϰ h d)) m X) (.slice none 0 0))/\Ϙ W h (ϲ cur 185 G)) kR a (λ_=>?_);refine zV 0 (.func (.func g) #[] cap) rfl (λW b=>by have c:=Y b.2.1 0;simp only[zG,zH]at c;clear b;go_simp) a ?_;refine zV 1 (ϖ q) rfl (λW b=>by have c:=Y b.1 0;simp only[zG,zH]at c;clear b;go_simp) a ?_;refine zP 2 q 0 a ?_;refine zP 3 q 1 a ?_;refine zV 4 (.slice (some (ϰ h d)) m X) rfl (λW b=>by have c:=Y b.2.2.1 1;simp[Ai]at c;clear b;go_simp) a ?_;refine zU 5 (ϊ i) a ?_;refine zU 6 (.pointer (some (ϰ h (d+i*2)))) a ?_;refine zU 7 (.pointer (some (ϰ h (d+i*2)))) a ?_;refine zU 8 (.pointer (some (ϰ h (d+i*2)))) a ?_;refine zV 9 (.string p.k) rfl (λW b=>by have c:=Y b.2.2.2 (d+i*2);rw[c0]at c;clear b;go_simp) a ?_;refine zq 10 λK hK=>?_;go_simp;refine(HA s.drew p.k (T.tail (kF.drew))).mono ?_;rintro e w3 ⟨rfl,ap⟩;have n:=((Kp.refl [] s).drew).tr ap;have aw:=n4 (n.hp ac) (n.hp aa) (n.hp O) (n.hp P);refine hK.out _ _ aw (λ_=>?_);clear hK K a
 try simp only[zZ]
 refine zd ?_;have ao:=zh (T.tail n);have o:=zh (n2 (n.hp R.1) (n.hp R.2));let⟨ad,_,ak,Q⟩:=aw;let⟨I,L⟩:=o.out;have:=U ad;have:=U ak;have:=U Q;have:=U I;have:=U L;have a0:=Y Q (d+i*2);rw[c0]at a0;have a1:=Y Q (d+i*2+1);rw[V]at a1;have:=ϻ ad 0;have:=ϻ ak 1;have:=Y I;have:=ρ I;have:=ϻ L 0;have:=ρ L 0;clear ap n T R ac aa O P c0 V a4 ad ak Q I L
 cases hfp:f p.k with
 | true=>
  rw[hfp]at u;go_wp2;have am:=BO (.string p.k) (.string p.v) o.1;let⟨F,an,ab,x⟩:=gE am;have z:=x.hp o.2;have af:=ao.out.qN5 oM o.1 dC x;rw[<-an];have ah:=ξ z 0 (.bool true);have y:(F.setCell (ϰ (w.heap.size+1+1+1+1) 0) (.bool true)).heap[w.heap.size+1+1+1]?=some (ϲ #[.string p.k,.string p.v] 42):=(AM oM _ _).trans ab;have ag:=SEnv.qO9 af oM (λc t G e=>by rw[z]at e;cases e;decide) ((Kp.refl [w.heap.size+1+1+1+1] F).setCell (p:=(ϰ (w.heap.size+1+1+1+1) 0)) sM (.bool true));have B:=Y y 0;have C:=Y y 1;have D:=Y ah 0;simp only[zG,zH,zI]at B C;simp at D;refine bodyPost_ret (v:=AB (some p)) ?_ rfl ⟨by rw[show cont 0 l.sub=prs l.sub from rfl,u.out];rfl,ag⟩;simp[results,results99,go_sem,B,C,D,AB]
 | false=>
  rw[hfp]at u;go_wp2;have am:=BO (.string ⟨#[]⟩) (.string ⟨#[]⟩) o.1;let⟨F,an,ab,x⟩:=gE am;have z:=x.hp o.2;have af:=ao.out.qN5 oM o.1 dC x;rw[<-an];have ah:=ξ z 0 (.bool false);have y:(F.setCell (ϰ (w.heap.size+1+1+1+1) 0) (.bool false)).heap[w.heap.size+1+1+1]?=some (ϲ ϝ 42):=(AM oM _ _).trans ab;have ag:=SEnv.qO9 af oM (λc t G e=>by rw[z]at e;cases e;decide) ((Kp.refl [w.heap.size+1+1+1+1] F).setCell (p:=(ϰ (w.heap.size+1+1+1+1) 0)) sM (.bool false));have B:=Y y 0;have C:=Y y 1;have D:=Y ah 0;simp only[zG,zH,zI]at B C;simp at D;refine bodyPost_ret (v:=AB none) ?_ rfl ⟨by rw[show cont 0 l.sub=prs l.sub from rfl,u.out];rfl,ag⟩;simp[results,results99,go_sem,B,C,D,AB]
section
attribute [local go_sem] Oper.semAt_some
def RP(p)(n c:Nat)(w):
  Ω 157 #[.slice p n c] w λe w'=>e=ϱ (.func (.func 220) #[] #[ϖ w.heap.size])/\w'=w.alloc (ϲ #[.slice p n c] 156):=by
 have:=zM;go_enter func157,ntmps157;go_wp2;go_ret;exact⟨rfl,rfl⟩
structure LS0(E:SEnv)(r:HL)(q g:Nat)(cap:ϧ)(lv:Int)(vl:Value)(N Sx gb off k cp:Nat)(cur:ϧ)(fr:Nat×Nat)(w:Ϣ):Prop extends LBox E r q g cap N w where
 q_:w.heap[q]?=some (Ai lv (.slice none 0 0) vl)
 s_:w.heap[Sx]?=some (ϲ #[.slice (some (ϰ gb off)) k cp] 156)
 g_:w.heap[gb]?=some (ϲ cur 87 fr)
def LS0.to{E}{r}{q g:Nat}{cap}{j:Int}{vl}{N c f l k e:Nat}{cur}{fr}{w0 w w'}(h:LS0 E r q g cap j vl N c f l k e cur fr w)(b:E.Dev w0)(m:w0.heap.size=N)(n:N<=c)(i:E.Dev w)(a:E.toEnv.To w w'):LS0 E r q g cap j vl N c f l k e cur fr w':=
 ⟨⟨a.new b oM h.t,a.new b oM h.n,a.new b oM h.f,a.new b oM h.p,a.new b oM h.b⟩,a.kp.heap h.q_ (λd=>E.apt _ i _ d _ _ _ h.q_ dC),a.new b oM h.s_,a.kp.heap h.g_ (λd=>E.apt _ i _ d _ _ _ h.g_ dC)⟩
def LS0.kp{E}{r}{q g:Nat}{cap}{i:Int}{vl}{N b d j k f M:Nat}{cur}{fr}{w w'}{L}(h:LS0 E r q g cap i vl N b d j k f cur fr w)(hK:Kp L w w')(o:∀k∈L,(∀c t fr,w.heap[k]?≠some (ϲ c t fr))\/M<=k)(p:N+4<M)(l:q<M)(m:b<M)(n:d<M):LS0 E r q g cap i vl N b d j k f cur fr w':=by
 have a:∀{k:Nat} {c:Array Value} {t:TypeId} {fr:Nat×Nat},Ϙ w k (ϲ c t fr)->k<M->Ϙ w' k (ϲ c t fr):=λhk hlt=>hK.heap hk (λhm=>by
  rcases o _ hm with e|e
  .exact e _ _ _ hk
  .omega)
 exact⟨⟨a h.t oM,a h.n oM,a h.f oM,a h.p oM,a h.b oM⟩,a h.q_ l,a h.s_ m,a h.g_ n⟩
structure LS(E:SEnv)(r x:HL)(q g:Nat)(cap:ϧ)(lv:Int)(vl:Value)(N Sx gb off k cp:Nat)(cur:ϧ)(fr:Nat×Nat)(X NR:Nat)(rec:Loop)(w:Ϣ):Prop extends LS0 E r q g cap lv vl N Sx gb off k cp cur fr w where
 x_:w.heap[X]?=some (Gb x)
 l_:w.heap[NR+1]?=some (.loop rec)
 d_:w.heap[NR]?=some (.deferred (some []))
def LS.to{E}{r x}{q g:Nat}{cap}{i:Int}{vl}{N d f j k e:Nat}{cur}{fr}{X c:Nat}{l:Loop}{w0 w w'}(h:LS E r x q g cap i vl N d f j k e cur fr X c l w)(b:E.Dev w0)(m:w0.heap.size=N)(n:N<=d)(s:N<=X)(p:N<=c)(o:E.Dev w)(a:E.toEnv.To w w'):LS E r x q g cap i vl N d f j k e cur fr X c l w':=
 ⟨h.toLS0.to b m n o a,a.new b oM h.x_,a.new b oM h.l_,a.new b oM h.d_⟩
def LS.kp{E}{r x}{q g:Nat}{cap}{i:Int}{vl}{N d e j k f:Nat}{cur}{fr}{X c M:Nat}{l:Loop}{w w'}{L}(h:LS E r x q g cap i vl N d e j k f cur fr X c l w)(hK:Kp L w w')(b:∀k∈L,M<=k)(m:N+4<M)(n:q<M)(o:d<M)(p:e<M)(t:X<M)(u:c+1<M):LS E r x q g cap i vl N d e j k f cur fr X c l w':=
 ⟨h.toLS0.kp hK (λk s=>.inr (b k s)) m n o p,hK.heap h.x_ (λa=>by have:=b _ a;omega),hK.heap h.l_ (λa=>by have:=b _ a;omega),hK.heap h.d_ (λa=>by have:=b _ a;omega)⟩
def LJ(E:SEnv)(n:Nat)(f:Ϧ->Bool)(ls:List (Lnk (Tn n)))(m:Ϣ)(r:HL)(q g:Nat)(cap:ϧ)(e:Int)(i:Value)(N a d h k b:Nat)(cur:ϧ)(c:Nat×Nat)(j:Nat)(W:Ϣ):Prop:=
 E.toEnv.To m W/\LS0 E r q g cap e i N a d h k b cur c W/\AX f (((ls.take k).drop j).flatMap λl=>cont n l.sub)=none
def LX(E:SEnv)(a:Ϣ)(o:Option KV)(N:Nat)(W:Ϣ):Prop:=
 E.toEnv.To a W/\∃p,o=some p/\W.heap[N+1+1+1]?=some (ϲ #[ϕ p.k,ϕ p.v] 42)/\W.heap[N+1+1+1+1]?=some (ϲ #[ϐ true] 4)
def XB(E:SEnv)(n:Nat)(g:Nat)(cap:ϧ)(f:Ϧ->Bool)(c0:DT f)(dm:ϴ g)
  (ih:∀(r:HL) (l:Lnk (Tn n)) (q:Nat) (w:Ϣ),E.Dev w->RN E.O n w q l.sub->Good n l.key l.sub->1<=cnt n l.sub->Asks E.toEnv w g cap f->E.toEnv.C 99 #[θ E.V r,ϖ q,.func (.func g) #[] cap] w λe w'=>e=ϱ (AB (AX f (cont n l.sub)))/\E.toEnv.To w w')
  (r:HL) (l:Lnk (Tn (n+1))) (q:Nat) (w:Ϣ) (hd:E.Dev w) (hN:RN E.O (n+1) w q l.sub) (hg:Good (n+1) l.key l.sub) (hne:1<=cnt (n+1) l.sub) (ha:Asks E.toEnv w g cap f):
  E.toEnv.C 99 #[θ E.V r,ϖ q,.func (.func g) #[] cap] w λe w'=>e=ϱ (AB (AX f (cont (n+1) l.sub)))/\E.toEnv.To w w':=by
 have ed:=zM;have hcl:=(Ch (n+1) l.key l.sub hg).1;have aw:1<=(J l.sub).length:=hne;have b0:Hid (AX f (cont (n+1) l.sub)=AX f (((J l.sub).take ((J l.sub).findIdx (λl=>!f l.key)-1+1)).flatMap λl=>cont n l.sub)):=XF c0 hg.row;have ca:Hid (∀z∈J l.sub,Good n z.key z.sub/\1<=cnt n z.sub):=λz hz=>⟨(hg.all z hz).1,by have:=(hg.all z hz).2.1;omega⟩;have cl:Hid ((J l.sub).Pairwise (DG n)):=hg.pair;have bl:=ih;clear hg hne ih;let⟨vl,cg,hs,ay,bx⟩:=hN;let⟨ls,c3⟩:=eY (J l.sub);rw[c3]at bx hcl aw b0 ca cl;clear c3;have HBL:=zh bx.1;have hhl:hs.length<=10000:=by rw[bx.1];exact hcl
 have Tz:Hid (∀{p:Prop},(_h:p:=by
  have dt:q<w.heap.size+1+1+1:=oM
  have du:q<w.heap.size+1+1+1+1:=oM
  have q0:=Y cg;simp only[Ai,zG,zH,zI]at q0;have cm:=zh (n2 hqs (U hrow0));clear hlv;rw[θ];refine SD (n:=9) func99 rfl ?_;simp only[ntmps99,List.size_toArray,List.length_cons,List.length_nil,Nat.reduceAdd,Nat.reduceSub,Array.replicate_succ,Array.replicate_zero,List.push_toArray,List.append_toArray,List.nil_append,List.cons_append];refine GB (GA (n:=9) ?_)
  gi_wp2
  refine GB (GA (n:=9) ?_)
  gi_wp2
  refine GB (GA (n:=9) ?_)
  gi_wp2_with fail
  refine⟨trivial,?_⟩;let⟨w1,hw1,hB1,cr,b1,hP1,cw,hK1,hs1⟩:=Ju w (ϲ (ϟ E.V r) 89) (ϲ #[ϖ q] 85) (ϲ #[.func (.func g) #[] cap] 92) (ϲ ϝ 42) (ϲ #[.bool false] 4);rw[<-hw1];clear hw1 q0 hqs hqs1 hqs2 dt du;have hT1:=Env.To.of0 hd hK1;have hq1:=hK1.hp cg;have hsl1:=ay.qM4 hK1;have hrow1:=hK1.hp hrow0;have c4:hs.findIdx (λp=>!f p.key)=ls.findIdx (λp=>!f p.key):=by
   have e:=bx.map_eq λx y hr=>hr.1;have h1:∀(l:List HL),l.findIdx (λl=>!f l.key)=(l.map HL.key).findIdx (λk=>!f k):=λl=>by rw[List.findIdx_map];rfl
   have h2:∀(l:List (Lnk (Tn n))),l.findIdx (λl=>!f l.key)=(l.map Lnk.key).findIdx (λk=>!f k):=λl=>by rw[List.findIdx_map];rfl
   rw[h1,h2,e]
  have c1:∀i j (hi:i<hs.length) (V:j<hs.length),i<=j->f hs[j].key=true->f hs[i].key=true:=by
   intro i j hi V d8 hp;by_cases e:i=j
   .subst e;exact hp
   .exact c0 _ _ ((Gn bx cl).at hi V oM) hp
  obtain⟨i,hi0⟩:∃i,ls.findIdx (λp=>!f p.key)-1=i:=⟨_,rfl⟩;have hil:i<hs.length:=by
   have:ls.findIdx (λp=>!f p.key)<=ls.length:=List.findIdx_le_length;have:=HBL.out;omega
  refine callsIn_wide.2 ((JQ 156 #[ϖ (w.heap.size+1+1)] (.slice (some (ϰ gb off)) hs.length cp) hs (λp=>f p.key) w1 hsl1 oM c1 (λargs W=>by simp[go_sem,func156])
    (λW2 hK2 j V=>Xx g (w.heap.size+1+1) cap hs[j] (f hs[j].key) W2 (hK2.hp b1) dm (λW' hK'=>ha W' _ ((hT1.tail hK2).tail hK')))).mono ?_)
  rintro e w2 ⟨rfl,hK2⟩;rw[c4,hi0];have hT2:=hT1.tail hK2;have L:Hid (LBox E r q g cap w.heap.size w2):=⟨hK2.hp hB1,hK2.hp cr,hK2.hp b1,hK2.hp hP1,hK2.hp cw⟩;have b5:=L.out.n;have hq2:=hK2.hp hq1;have bs:=zh (n2 hq2 (hK2.hp hrow1));have dh:=U b5;have hqs2:=U hq2;have n0:=ϻ b5 0;have y2:=ϻ hq2 2;obtain⟨k,hk⟩:∃k:Nat,k=i+1:=⟨_,rfl⟩;have hk1:(k:Int)<=(hs.length:Int):=oM
  have dq:(k:Int)<=(cp:Int):=oM
  have hncp:(hs.length:Int)<=(cp:Int):=oM
  have HK:=zh (n3 hk hil hcp);have dw:=hK2.size;have dy:wrap64 ((i:Int)+1)=(k:Int):=by simp only[wrap64];omega
  clear hk hil hcp;clear hK2 hT1 hK1 hB1 cr b1 hP1 cw hq1 hsl1 hrow1 c4 c1 b5 hq2 cg hrow0
  gi_wp2
  refine GB (GB (GA (n:=9) ?_))
  gi_wp2_with fail
  refine⟨trivial,?_⟩;refine callsIn_wide.2 ((RP _ _ _ w2).mono ?_);rintro e w3 ⟨rfl,hw3⟩;have bu:w3.heap[w2.heap.size]?=some (ϲ #[.slice (some (ϰ gb off)) k cp] 156):=by rw[hw3];exact μ _ _
  have F:Kp [] w2 w3:=by rw[hw3];exact(Kp.refl _ _).alloc _
  have dd:=zh (hT2.tail F);have cc:Hid (LS0 E r q g cap lv (.slice (some (ϰ gb off)) hs.length cp) w.heap.size w2.heap.size gb off k cp cur fr w3):=⟨⟨F.hp L.t,F.hp L.n,F.hp L.f,F.hp L.p,F.hp L.b⟩,F.hp bs.1,bu,F.hp bs.2⟩;have dv:w.heap.size+5<=w2.heap.size:=by have:=hs1;omega
  have hs3:w3.heap.size=w2.heap.size+1:=by rw[hw3];simp
  let⟨N,cu⟩:=eX w2.heap.size;rw[<-cu]at cc dv hs3 |-;clear hw3 bu F cu n0 y2 hk1 dq hncp dy dh hqs2 L bs hT2 dw hs1
  gi_wp2
  refine qK9 ?_;have T:Hid (∀W0 p w',E.toEnv.To w W0->W0.heap[w3.heap.size]?=some (.deferred (some []))->E.toEnv.Z W0 (.panicked (ioP p)) w'->E.toEnv.Z w (.panicked (ioP p)) w'/\w'.heap[w3.heap.size]?=some (.deferred (some []))):=λW0 p w' hT A hz=>
   ⟨hz.up hT,hz.2.2.heap A (λhm=>by have:=E.low _ hd _ hm;omega)⟩
  have d9:k<=i+1:=by have:=HK.out;omega
  have ea:i+1<=k:=by have:=HK.out;omega
  have eb:=HK.out.2.1;have ec:=HK.out.2.2;have eg:N+1<=w3.heap.size:=oM
  have ef:=cm.out.1;have d7:=cm.out.2;clear hs3;refine qL1 (nn:=9) N gb off k cp cur fr hs dC oM oM oM rfl rfl hcur (LJ E n f ls w r q g cap lv (.slice (some (ϰ gb off)) hs.length cp) w.heap.size N gb off k cp cur fr) (LX E w (AX f (cont (n+1) l.sub)) w.heap.size) (λc W=>E.toEnv.Z w (.panicked c) W/\W.heap[w3.heap.size]?=some (.deferred (some []))) ?JK ?JxK (λi W h=>⟨h.2.1.s_,h.2.1.g_⟩) ?J0 (λj x X=>{ tmps:=#[.agg (ϟ E.V r),ϖ q,.func (.func g) #[] cap,ϖ w.heap.size,ϖ (w.heap.size+1),ϖ (w.heap.size+1+1),ϖ (w.heap.size+1+1+1),ϖ (w.heap.size+1+1+1+1),undef,ϊ i,undef,ϖ X,undef,undef,ϖ q,ϖ q,ϖ q,ϊ lv,.bool false,undef,undef,undef,undef,undef,undef,undef,undef,undef,undef,undef,undef,undef,undef,undef,undef,undef,undef,undef,undef,undef,undef,undef,undef,undef,undef,ϖ q,ϖ q,.pointer (some (ϰ q 2)),.slice (some (ϰ gb off)) hs.length cp,.func (.func 156) #[] #[ϖ (w.heap.size+1+1)],ϊ i,ϖ q,ϖ q,.pointer (some (ϰ q 2)),.slice (some (ϰ gb off)) hs.length cp,ϊ i,ϊ (wrap64 (i+1)),.slice (some (ϰ gb off)) k cp,.func (.func 220) #[] #[ϖ N],ϊ j,Gc x,undef,undef,undef,undef,undef,undef,undef,undef,undef,undef,undef,undef,undef,undef,undef,undef],defers:=[] }) ?assign ?body ?done ?stop ?pan
  case JK=>
   rintro j W W' ⟨h1,h2,h3⟩ hK ⟨bb,hr⟩;have a8:∀c t fr,W.heap[w3.heap.size+1]?≠some (ϲ c t fr):=λc t fr e=>by rw[hr]at e;cases e
   exact⟨SEnv.qO9 h1 oM (λc t fr e=>absurd e (a8 c t fr)) hK,h2.kp (M:=w3.heap.size) hK (λk hk=>.inl (by rw[List.mem_singleton.1 hk];exact a8)) oM oM oM oM,h3⟩
  case JxK=>
   rintro W W' ⟨h1,p,h2,h3,h4⟩ hK ⟨bb,hr⟩;have a8:∀c t fr,W.heap[w3.heap.size+1]?≠some (ϲ c t fr):=λc t fr e=>by rw[hr]at e;cases e
   exact⟨SEnv.qO9 h1 oM (λc t fr e=>absurd e (a8 c t fr)) hK,p,h2,hK.ho h3,hK.ho h4⟩
  case J0=>
   intro W hK;refine⟨dd.tail hK,cc.kp (M:=w3.heap.size) hK sM oM oM oM oM,?_⟩;rw[List.drop_eq_nil_of_le sO];rfl
  case assign=>
   intro lp j V W K hK;let⟨x,hx⟩:=eY (hs[j]);rw[hx]at hK |-;clear hx;have cb:=hK;clear hK;rw[Gc];have c2:=cb (W.alloc (Gb x)) (μ _ _) ((Kp.refl _ _).alloc _);rw[Gc,Gb]at c2;clear cb
   gi_wp2
   exact c2
  case body=>
   rintro lp j V W X ⟨D,o,R⟩ hX d4 ⟨bb,hr⟩ b8;have hjl:j<ls.length:=by have:=HBL.out;omega
   obtain⟨z,hz⟩:∃z,ls[j]?=some z:=⟨_,List.getElem?_eq_getElem hjl⟩;let⟨ds,db⟩:=List.getElem?_eq_some_iff.1 hz;have hrx:=bx.2 j oM ds;rw[db]at hrx;let⟨x,da⟩:=eY (hs[j]);rw[da]at hX hrx |-;have cs:=Env.RL hrx hd D;have P:=zh (ca z (List.mem_of_getElem? hz));have cn:Hid (((ls.take k).drop j).flatMap (λl=>cont n l.sub)=cont n z.sub++((ls.take k).drop (j+1)).flatMap (λl=>cont n l.sub)):=by
    show _=_;have dp:j<(ls.take k).length:=by have:=HBL.out;simp;omega
    rw[List.drop_eq_getElem_cons dp,List.flatMap_cons]
    congr 1
    have:(ls.take k)[j]=z:=by
     rw[List.getElem_take];exact(List.getElem?_eq_some_iff.1 hz).2
    rw[this]
   have dc:Hid (ls.take (ls.findIdx (λl=>!f l.key)-1+1)=(ls.take k).take j++(ls.take k).drop j):=by
    show _=_;rw[List.take_append_drop,hi0,HK.out.1]
   have ad:=zh (n2 hr b8);have m:Hid (w.heap.size<=N/\w.heap.size<=X/\w.heap.size<=w3.heap.size):=⟨oM,oM,oM⟩;obtain⟨fk,fv,fb,s⟩:∃fk fv fb,AB (AX f (cont n z.sub))=.tuple #[.agg #[.string fk,.string fv],.bool fb]:=by
    cases AX f (cont n z.sub) with
    | none=>exact⟨_,_,_,rfl⟩
    | some p=>exact⟨_,_,_,rfl⟩
   have hSd:LS E r x q g cap lv (.slice (some (ϰ gb off)) hs.length cp) w.heap.size N gb off k cp cur fr X w3.heap.size bb W.drew:=⟨⟨⟨o.t,o.n,o.f,o.p,o.b⟩,o.q_,o.s_,o.g_⟩,hX,hr,b8⟩;have hTd:=D.tail ((Kp.refl _ _).drew);have ct:=RL.qM3 cs ((Kp.refl [] _).drew) (Apt.nil _ _);have dl:=U hX;clear hz db hrx da cs hX hr b8 D o
   gi_wp2_with fail
   refine qK7 (S:=LS E r x q g cap lv (.slice (some (ϰ gb off)) hs.length cp) w.heap.size N gb off k cp cur fr X w3.heap.size bb) kR kR ?_ hSd (λ_=>?_)
   .rintro⟨_,_,h⟩;exact h
   refine zV 0 (.agg (ϟ E.V r)) rfl (λW hS=>by have a0:=Y hS.t;clear hS;go_simp) hSd ?_;refine zV 1 (.agg (ϟ E.V r)) rfl (λW hS=>by have a0:=Y hS.t;clear hS;go_simp) hSd ?_;refine zV 2 (.agg (ϡ x)) rfl (λW hS=>by have a0:=ϻ hS.x_ 0;have a1:=ϻ hS.x_ 1;have a2:=ϻ hS.x_ 2;have a3:=ϻ hS.x_ 3;clear hS;go_simp) hSd ?_;refine zV 3 (ϖ q) rfl (λW hS=>by have c:=Y hS.n 0;simp only[zG,zH]at c;clear hS;go_simp) hSd ?_;refine zP 4 q 0 hSd ?_;refine zP 5 q 0 hSd ?_;refine zV 6 (ϊ lv) rfl (λW hS=>by have c:=Y hS.q_ 0;simp[Ai]at c;clear hS;go_simp) hSd ?_;refine zV 8 (.func (.func g) #[] cap) rfl (λW hS=>by have c:=Y hS.f 0;simp only[zG,zH]at c;clear hS;go_simp) hSd ?_;refine zr 7 13 (λK hK=>?_) λK hK=>?_
   focus
    go_simp;refine Env.call (w:=W.drew) (BR E.toEnv n x r z lv W.drew hTd.dev ct HLV) ⟨hTd.dev,Kp.refl _ _⟩ ?_ (λp w' hz=>by go_wp2;exact T _ _ _ hTd hSd.d_ hz);rintro e w4 ⟨q1,rfl,hN1,bv⟩;have hT4:=hTd.trans bv;have hS4:=hSd.to hd rfl m.1 m.2.1 m.2.2 hTd.dev bv;refine zk hK hS4 ?_
    refine zr 9 13 (λK hK=>?_) λK hK=>?_
    focus
     go_simp;refine Env.call (w:=w4) (bl r z q1 w4 hT4.dev hN1 P.1 P.2 (ha.to hT4)) ⟨hT4.dev,Kp.refl _ _⟩ ?_ (λp w' hz=>by go_wp2;exact T _ _ _ hT4 hS4.d_ hz);rintro e b ⟨rfl,bv⟩;rw[s];have a:=hT4.trans bv;have u:=hS4.to hd rfl m.1 m.2.1 m.2.2 hT4.dev bv;refine zk hK u ?_
     refine zU 10 (.tuple #[.agg #[.string fk,.string fv],.bool fb]) u ?_;refine zU 11 (.agg #[.string fk,.string fv]) u ?_;refine zU 12 (.bool fb) u ?_;refine zq 13 λK hK=>?_;go_simp;have Z:=U u.x_;let⟨w6,I,d,C⟩:=alA b (ϲ ϝ 42);rw[<-I];clear I;have H:=a.tail C;have v:=u.kp (M:=b.heap.size) C sM oM oM oM oM oM oM;refine zk hK v ?_
     generalize b.heap.size=LB at d Z |-
    rotate_left
    focus
     go_simp;have Z:=U hS4.x_;let⟨b,I,G,C⟩:=alA w4 (ϲ ϝ 42);rw[<-I];clear I;have a:=hT4.tail C;have u:=hS4.kp (M:=w4.heap.size) C sM oM oM oM oM oM oM;refine zk hK u ?_
     have df:=RN.qM3 C (Apt.nil _ _) n q1 _ hN1;clear hN1;have hN1:=df;refine zq 9 λK hK=>?_;go_simp;refine Env.call (w:=b) (bl r z q1 b a.dev hN1 P.1 P.2 (ha.to a)) ⟨a.dev,Kp.refl _ _⟩ ?_ (λp w' hz=>by go_wp2;exact T _ _ _ a u.d_ hz);rintro e w6 ⟨rfl,bv⟩;rw[s];have H:=a.trans bv;have v:=u.to hd rfl m.1 m.2.1 m.2.2 a.dev bv;refine zk hK v ?_
     have d:=bv.new hd oM G;refine zU 10 (.tuple #[.agg #[.string fk,.string fv],.bool fb]) v ?_;refine zU 11 (.agg #[.string fk,.string fv]) v ?_;refine zU 12 (.bool fb) v ?_;generalize w4.heap.size=LB at d Z |-
   rotate_left 2
   focus
    go_simp;obtain⟨w4,I,b4,C⟩:∃w',w'=(W.alloc (ϲ ϝ 42)).drew/\w'.heap[W.heap.size]?=some (ϲ ϝ 42)/\Kp [] W.drew w':=⟨_,rfl,μ _ _,(Kp.refl _ W.drew).alloc _⟩;rw[<-I];clear I;have hT4:=hTd.tail C;have hS4:=hSd.kp (M:=W.heap.size) C sM oM oM oM oM oM oM;refine zk hK hS4 ?_
    have di:=RL.qM3 ct C (Apt.nil _ _);refine zq 7 λK hK=>?_;go_simp;refine Env.call (w:=w4) (BR E.toEnv n x r z lv w4 hT4.dev di HLV) ⟨hT4.dev,Kp.refl _ _⟩ ?_ (λp w' hz=>by go_wp2;exact T _ _ _ hT4 hS4.d_ hz);rintro e b ⟨q1,rfl,hN1,bv⟩;have a:=hT4.trans bv;have u:=hS4.to hd rfl m.1 m.2.1 m.2.2 hT4.dev bv;refine zk hK u ?_
    have G:=bv.new hd oM b4;refine zq 9 λK hK=>?_;go_simp;refine Env.call (w:=b) (bl r z q1 b a.dev hN1 P.1 P.2 (ha.to a)) ⟨a.dev,Kp.refl _ _⟩ ?_ (λp w' hz=>by go_wp2;exact T _ _ _ a u.d_ hz);rintro e w6 ⟨rfl,bv⟩;rw[s];have H:=a.trans bv;have v:=u.to hd rfl m.1 m.2.1 m.2.2 a.dev bv;refine zk hK v ?_
    have d:=bv.new hd oM G;have Z:=dl;refine zU 10 (.tuple #[.agg #[.string fk,.string fv],.bool fb]) v ?_;refine zU 11 (.agg #[.string fk,.string fv]) v ?_;refine zU 12 (.bool fb) v ?_;generalize W.heap.size=LB at d Z |-
   all_goals
    have d2:=U d;have z0:=Y d;have fz0:=ρ d;refine zq 14 λK hK=>?_;go_simp;have hts:=BO (.string fk) (.string fv) d;let⟨w7,c6,co,b3⟩:=gE hts;rw[<-c6];clear c6 hts z0 fz0;have cv:=SEnv.qO9 H oM (λc t fr e=>by rw[d]at e;cases e;decide) b3;have B:=v.kp (M:=LB) b3 sM oM oM oM oM oM oM;refine zk hK B ?_
    refine zq 15 λK hK=>?_;go_simp;refine zk hK B ?_
    refine zd ?_;have d3:=U co;have a9:=B.p;have a7:=B.b;have ee:=U a9;have d6:=U a7;have z0:=Y co;have x0:=Y a9;have d1:=ρ a9;have v0:=ϻ a7 0;have dz:=ρ a7 0;clear a9 a7 b3 H v d bv hN1 C
    cases hfd:AX f (cont n z.sub) with
    | none=>
     have s:=s;rw[hfd]at s;simp only[AB,Value.tuple.injEq,Array.mk.injEq,List.cons.injEq,Value.agg.injEq,Value.string.injEq,Value.bool.injEq,and_true]at s;obtain⟨⟨rfl,rfl⟩,rfl⟩:=s;clear s
     gi_wp2
     refine⟨⟨cv,B.toLS0,?_⟩,B.l_.trans ad.1.symm,B.d_.trans ad.2.symm⟩;rw[cn.out,Ex,R,hfd];rfl
    | some p=>
     have s:=s;rw[hfd]at s;simp only[AB,Value.tuple.injEq,Array.mk.injEq,List.cons.injEq,Value.agg.injEq,Value.string.injEq,Value.bool.injEq,and_true]at s;obtain⟨⟨rfl,rfl⟩,rfl⟩:=s;clear s
     gi_wp2
     have hts:=BO (.string p.k) (.string p.v) B.p;let⟨w8,dx,dg,a4⟩:=gE hts;rw[<-dx];have cy:=a4.hp B.b;have dj:=SEnv.qO9 cv oM (λc t fr e=>by rw[B.p]at e;cases e;decide) a4;have a5:Kp [w.heap.size+1+1+1+1] w8 (w8.setCell (ϰ (w.heap.size+1+1+1+1) 0) (.bool true)):=(Kp.refl _ _).sc _;have dk:=SEnv.qO9 dj oM (λc t fr e=>by rw[cy]at e;cases e;decide) a5;have dr:=a5.heap (a4.ho B.l_) sO;have dn:=a5.heap (a4.ho B.d_) sO;refine⟨⟨dk,p,?_,a5.hp dg,ξ cy 0 _⟩,dr.trans ad.1.symm,dn.trans ad.2.symm⟩;rw[b0.out,dc.out,List.flatMap_append,Ex,cn.out,Ex,R,hfd];rfl
  case pan=>
   rintro c W ⟨hz,A⟩;have hK:Kp [w3.heap.size] W (W.putObj w3.heap.size (.deferred none)):=(Kp.refl _ _).putObj sM _;refine⟨trivial,?_⟩;refine(show LeavesInM _ _ _ _ _ _ _ _ _ from⟨sM,.inl ⟨_,_,rfl,run_takeDeferred A,?_⟩⟩);exact .inl ⟨hz.1,E.qP6 _ _ _ hz.2.1 hK (λk hk c t fr e=>by rw[List.mem_singleton.1 hk,A]at e;cases e),hz.2.2.trans hK sO⟩
  case done=>
   rintro W ⟨D,o,R⟩ A;refine⟨trivial,?_⟩;refine GA (n:=9) ?_;have hps:=U o.p;have d5:=U o.b;have hp:=o.p;have hb:=o.b;have z0:=Y hp;have fz0:=ρ hp;have v0:=ϻ hb 0;have d0:=ρ hb 0;have HW:=zh (n5 D hp hb A R);clear D o A hp hb
   gi_wp2
   let⟨D,hp,hb,A,R⟩:=HW.out;have b6:AX f (cont (n+1) l.sub)=none:=by
    rw[b0.out,hi0,<-HK.out.1];simpa using R
   rw[b6];have hts:=BO (.string ⟨#[]⟩) (.string ⟨#[]⟩) hp;let⟨w4,hw4,b4,hK4⟩:=gE hts;rw[<-hw4];have cx:=hK4.hp hb;have de:=hK4.ho A;have hT4:=SEnv.qO9 D oM (λc t fr e=>by rw[hp]at e;cases e;decide) hK4;obtain⟨b,ba,b2⟩:∃b,b=w4.setCell (ϰ (w.heap.size+1+1+1+1) 0) (.bool false)/\Kp [w.heap.size+1+1+1+1] w4 b:=⟨_,rfl,(Kp.refl _ _).sc _⟩;have a6:b.heap[w.heap.size+1+1+1+1]?=some (ϲ #[.bool false] 4):=by rw[ba];exact ξ cx 0 _
   rw[<-ba];have G:=b2.hp b4;have Q:=b2.ho de;have a:=SEnv.qO9 hT4 oM (λc t fr e=>by rw[cx]at e;cases e;decide) b2;refine⟨sM,.inl ⟨_,_,rfl,run_takeDeferred Q,?_⟩⟩;have O:Kp [w3.heap.size] b (b.putObj w3.heap.size (.deferred none)):=(Kp.refl _ _).putObj sM _;have d:=O.ho G;have b7:=O.ho a6;have H:=SEnv.qO9 a oM (λc t fr e=>by rw[Q]at e;cases e) O;have t0:=ϻ d 0;have t1:=ϻ d 1;have t2:=ϻ b7 0;refine⟨AB (none),?_,.inr ⟨rfl,H⟩⟩;simp[results,results99,go_sem,t0,t1,t2,AB]
  case stop=>
   rintro W ⟨D,p,hp,cq,cz⟩ A;have HW:=zh (n5 D hp cq cz A);clear D hp cq cz A
   gi_wp2
   let⟨a,b6,G,a6,Q⟩:=HW.out;rw[b6];let⟨b,ba⟩:=eX W;rw[<-ba]at a G a6 Q |-;refine⟨sM,.inl ⟨_,_,rfl,run_takeDeferred Q,?_⟩⟩;have O:Kp [w3.heap.size] b (b.putObj w3.heap.size (.deferred none)):=(Kp.refl _ _).putObj sM _;have d:=O.ho G;have b7:=O.ho a6;have H:=SEnv.qO9 a oM (λc t fr e=>by rw[Q]at e;cases e) O;have t0:=ϻ d 0;have t1:=ϻ d 1;have t2:=ϻ b7 0;refine⟨AB (some p),?_,.inr ⟨rfl,H⟩⟩;simp[results,results99,go_sem,t0,t1,t2,AB])->p):=λh=>h;exact QG
end
def XE(E:SEnv)(g:Nat)(cap:ϧ)(f:Ϧ->Bool)(j:DT f)(i:ϴ g):∀(n:Nat)(r:HL) (l:Lnk (Tn n)) (q:Nat) (w:Ϣ),E.Dev w->RN E.O n w q l.sub->Good n l.key l.sub->1<=cnt n l.sub->Asks E.toEnv w g cap f->
  E.toEnv.C 99 #[θ E.V r,ϖ q,.func (.func g) #[] cap] w λe w'=>e=ϱ (AB (AX f (cont n l.sub)))/\E.toEnv.To w w':=by
 intro n
 induction n with
 | zero=>intro r l q w b d c h a;exact .of (XD E r l q g cap f w b d c h j a i)
 | succ n ih=>intro r l q w b d c h a;exact XB E n g cap f j i (λr l q w b d c k a=>ih r l q w b d c k a) r l q w b d c h a
def Qi(E:SEnv)(r:Root)(h:HL)(g:Nat)(cap:ϧ)(f:Ϧ->Bool)(w:Ϣ)(hd:E.Dev w)(hR:RR E.toEnv w h r)(hg:RGood r)(m:DT f)(i:Asks E.toEnv w g cap f)
  (j:ϴ g):
  E.toEnv.C 55 #[θ E.V h,.func (.func g) #[] cap] w λe w'=>e=ϱ (AB (AX f r.cont))/\E.toEnv.To w w':=by
 rw[θ];go_enter func55,ntmps55;go_wp2_with fail;let⟨w0,hw0,ae,af,hK0,hs0⟩:=alC w (ϲ (ϟ E.V h) 89) (ϲ ϝ 42)
 rw[<-hw0];have ag:=Env.To.of0 hd hK0
 cases r with
 | none=>
  have Tz:Hid (∀{p:Prop},(_h:p:=by
   simp[results,results55,go_sem,t0,t1,AB])->p):=λh=>h;exact zS6
 | «at» n l=>
  have br:RL E.O n w h l:=hR;let⟨g1,c,o⟩:=hg;refine mR (EQ E.toEnv n h l w0 (Env.RL br hd ag) g1) ?_;rintro w1 hK1;have hT1:=ag.tail hK1;have hB1:=hK1.hp ae;have bo:=hK1.hp af;have b:=zh (Env.RL br hd hT1);have hc1:1<=cnt n l.sub:=oM
  obtain⟨fk,fv,fb,a⟩:∃fk fv fb,AB (AX f (cont n l.sub))=.tuple #[.agg #[.string fk,.string fv],.bool fb]:=by
   cases AX f (cont n l.sub) with
   | none=>exact⟨_,_,_,rfl⟩
   | some p=>exact⟨_,_,_,rfl⟩
  have Tz:Hid (∀{p:Prop},(_h:p:=by
   refine zq 2 λK hK=>?_;go_simp;have hTd:=hT1.tail (kF.drew);refine Env.call (Fr E.toEnv n h l w1.drew hTd.dev (RL.qM3 b ((Kp.refl [] _).drew) (Apt.nil _ _))) hTd ?_;rintro e w2 ⟨q,rfl,d,bv⟩;have hT2:=hTd.trans bv;have bt:=bv.new (k:=w.heap.size) hd oM hS0;have bp:=bv.new (k:=w.heap.size+1) hd oM bo;refine zk hK bt ?_
   clear bv hTd hS0 hB1;refine zq 4 λK hK=>?_;go_simp;refine Env.call (XE E g cap f m j n h l q w2 hT2.dev d c hc1 (i.to hT2)) hT2 ?_;rintro e w3 ⟨rfl,bv⟩;rw[a];have ah:=hT2.trans bv;have bu:=bv.new (k:=w.heap.size) hd oM bt;have bq:=bv.new (k:=w.heap.size+1) hd oM bp;refine zk hK bu ?_
   have Tz:Hid (∀{p:Prop},(_h:p:=by
    refine bodyPost_ret (v:=.tuple #[.agg #[.string fk,.string fv],.bool fb]) ?_ rfl (.inr ⟨?_,hT4⟩)
    .simp[results,results55,go_sem,t0,t1]
    .rw[show(Root.at n l).cont=cont n l.sub from rfl,a])->p):=λh=>h;exact zS7)->p):=λh=>h;exact QR
def AW(x:Nat)(key:ByteArray)(since:Int):Obj:=.cells #[.pointer (some ⟨x,0,none⟩),.string key,.int .u64 since] 80
structure MvIn(E:SEnv)(Fb Cc Ff P B Cb x g:Nat)(capf:Array Value)(fh:Bool)(key:ByteArray)(since:Int)(t:Tx)(w:World):Prop where
 hFb:w.heap[Fb]?=some (.cells #[.bool fh] 4)
 hCc:w.heap[Cc]?=some (.cells #[.pointer (some ⟨Cb,0,none⟩)] 36)
 hFf:w.heap[Ff]?=some (.cells #[.func (.func g) #[] capf] 93)
 hP:w.heap[P]?=some (.cells #[.string ⟨#[]⟩,.string ⟨#[]⟩] 42)
 hB:w.heap[B]?=some (.cells #[.bool false] 4)
 hCb:w.heap[Cb]?=some (AW x key since)
 hx:w.heap[x]?=some (Ac t)
 on:t.on=some ⟨E.V,0,none⟩
 dev:E.Dev w
 ne:Fb≠B
def Ym(E)(f d i P B m x g:Nat)(capf)(key)(c:Int)(t)(w)(h:MvIn E f d i P B m x g capf true key c t w)(b:key.toList.isEmpty=true\/c≠t.ch):
  Ω 91 #[ϖ f,ϖ d,ϖ i,ϖ P,ϖ B] w λe w'=>e=Al (some 11)/\Kp [] w w':=by
 have k:=h.hFb;have j:=h.hCc;have a:=h.hCb;have l:=h.hx;have:=U k;have:=U j;have:=U a;have:=U l;have:=ϻ k 0;have:=ϻ j 0;have:=ϻ a 0;have:=ϻ a 1;have:=ϻ a 2;have:=ϻ l 9
 cases hk0:key.toList.isEmpty with
 | true=>
  clear b;go_enter func91,ntmps91;go_wp2_with fail
  go_quiet (fail)
  go_wp2;exact⟨rfl,rfl,rfl,kF.drewN _⟩
 | false=>
  have:¬c=t.ch:=by
   rcases b with h|h
   .rw[h]at hk0;cases hk0
   .exact h
  clear b;go_enter func91,ntmps91;go_wp2_with fail
  go_quiet (fail)
  go_wp2;exact⟨rfl,rfl,rfl,kF.drewN _⟩
structure MvS(Cc Ff Cb x g:Nat)(capf:ϧ)(t:Tx)(w:Ϣ):Prop where
 c:w.heap[Cc]?=some (ϲ #[ϖ Cb] 36)
 f:w.heap[Ff]?=some (ϲ #[.func (.func g) #[] capf] 93)
 b:∃k s,w.heap[Cb]?=some (AW x k s)
 x_:w.heap[x]?=some (Ac t)
def MvS.kp{d f b x g:Nat}{capf}{t}{w w'}{L}(h:MvS d f b x g capf t w)(hK:Kp L w w')(i:∀k∈L,∀c u fr,w.heap[k]?=some (ϲ c u fr)->u=42\/u=4\/u=38\/u∈Cn):MvS d f b x g capf t w':=by
 have a:∀{k:Nat} {c:Array Value} {u:TypeId} {fr:Nat×Nat},Ϙ w k (ϲ c u fr)->(u≠42/\u≠4/\u≠38/\u∉Cn)->Ϙ w' k (ϲ c u fr):=λhk hu=>hK.heap hk (λhm=>by
  rcases i _ hm _ _ _ hk with e|e|e|e
  .exact hu.1 e
  .exact hu.2.1 e
  .exact hu.2.2.1 e
  .exact hu.2.2.2 e)
 let⟨k,s,j⟩:=h.b;exact⟨a h.c dC,a h.f dC,⟨k,s,a j dC⟩,a h.x_ dC⟩
def MvS.to{E:SEnv}{d e c x g:Nat}{f:ϧ}{t:Tx}{w w':Ϣ}(h:MvS d e c x g f t w)(b:E.Dev w)(a:E.toEnv.To w w'):MvS d e c x g f t w':=by
 let⟨k,s,i⟩:=h.b;exact⟨E.stay b a h.c dC,E.stay b a h.f dC,⟨k,s,E.stay b a i dC⟩,E.stay b a h.x_ dC⟩
def Yl(E)(Fb q R P B a x g:Nat)(capf)(fh:Bool)(key)(ba:Int)(t)(o:Option KV)(w)(h:MvIn E Fb q R P B a x g capf fh key ba t w)(F:fh=true->key.toList.isEmpty=false/\ba=t.ch)
  (bh:ϴ g)
  (ay:∀W,E.toEnv.To w W->E.toEnv.C g (#[θ E.V t.h]++capf) W λe W'=>e=ϱ (AB o)/\E.toEnv.To W W'):
  E.toEnv.C 91 #[ϖ Fb,ϖ q,ϖ R,ϖ P,ϖ B] w λe w'=>e=Al none/\w'.heap[P]?=some (ϲ #[ϕ (pkv o).k,ϕ (pkv o).v] 42)/\w'.heap[B]?=some (ϲ #[ϐ o.isSome] 4)/\w'.heap[a]?=some (AW x (pkv o).k t.ch)/\∃Q,E.toEnv.To w Q/\Kp [P,B,a] Q w':=by
 have T:=zh h.dev;have HS:Hid (MvS q R a x g capf t w):=⟨h.hCc,h.hFf,⟨_,_,h.hCb⟩,h.hx⟩;have HP:=zh (n2 h.hP h.hB);have bb:=zh ay;have bg:=h.on;obtain⟨f,j,y,az,aa⟩:∃f j y,AB o=.tuple #[.agg #[.string f,.string j],.bool y]/\(pkv o).k=f/\(pkv o).v=j/\o.isSome=y:=by
  cases o with
  | none=>exact⟨_,_,_,rfl,rfl,rfl,rfl⟩
  | some p=>exact⟨_,_,_,rfl,rfl,rfl,rfl⟩
 have bc:=zh az;rw[aa.1,aa.2.1,aa.2.2];have af:=h.hFb;have ae:=h.hCc;have L:=h.hCb;have hx:=h.hx;have:=U af;have:=U ae;have:=U L;have:=U hx;have f0:=ϻ af 0;have c0:=ϻ ae 0;have v:=ϻ L 0;have G:=ϻ L 1;have H:=ϻ L 2;have x9:=ϻ hx 9;clear h af ae L hx ay az aa;cases fh
 focus
  clear F;go_enter func91,ntmps91;go_wp2_with fail
  go_quiet (fail)
  go_wp2_with fail;clear f0 c0 v G H x9
 rotate_left
 focus
  let⟨bf,hs⟩:=F rfl;subst hs;clear F;go_enter func91,ntmps91;go_wp2_with fail
  go_quiet (fail)
  go_wp2_with fail;clear f0 c0 v G H x9 bf
 all_goals
  refine wp_region_held_drew (S:=MvS q R a x g capf t) kR (HS.kp (((Kp.refl [] w).drewN nq).drew) sM) (λd=>?_);refine zV 0 (.func (.func g) #[] capf) rfl (λW b=>by have c:=Y b.f 0;simp only[zG,zH]at c;clear b;go_simp) d ?_;refine zV 1 (ϖ a) rfl (λW b=>by have c:=Y b.c 0;simp only[zG,zH]at c;clear b;go_simp) d ?_;refine zP 2 a 0 d ?_;refine zP 3 a 0 d ?_;refine zV 4 (ϖ x) rfl (λW b=>by let⟨k',s',hb⟩:=b.b;have c:=Y hb 0;simp only[AW,zG,zH]at c;clear b hb;go_simp) d ?_;refine zP 5 x 0 d ?_;refine zP 6 x 4 d ?_;refine zV 7 (θ E.V t.h) rfl (λW b=>by have a0:=Y b.x_ 4;have a1:=Y b.x_ 5;have a2:=Y b.x_ 6;have a3:=Y b.x_ 7;have a4:=Y b.x_ 8;simp only[Ac,bg,zG,zH,zI]at a0 a1 a2 a3 a4;clear b;rw[θ];go_simp) d ?_;refine zq 8 λK hK=>?_;go_simp;let⟨Wd,al⟩:=eX (w.drewN (nq+1));rw[<-al];have av:Kp [] w Wd:=by rw[al];exact(Kp.refl [] w).drewN _
  clear al d;have Z:=Env.To.of0 T av;refine Env.call (bb Wd Z) Z ?_;rintro e w2 ⟨rfl,ax⟩;have O:=Z.trans ax;have I:=(HS.to T O);have C:=E.stay T O HP.1 dC;have ad:=E.stay T O HP.2 dC;rw[bc.out];refine zk hK I ?_
  refine zU 9 (.tuple #[.agg #[.string f,.string j],.bool y]) I ?_;refine zU 10 (.agg #[.string f,.string j]) I ?_;refine zU 11 (.bool y) I ?_;have:=U C;have v0:=Y C;have be:=ρ C;refine zq 12 λK hK=>?_;go_simp;have a5:=BO (.string f) (.string j) C;let⟨w3,a6,ah,V⟩:=gE a5;rw[<-a6];clear a6 a5 v0 be;have ai:=I.kp V (λk F c u fr e=>by rw[List.mem_singleton.1 F,C]at e;cases e;simp);have A:=V.heap ad (by simp;exact υ ad C dC);refine zk hK ai ?_
  have:=U A;have v:=ϻ A 0;have bd:=ρ A 0;refine zq 13 λK hK=>?_;go_simp;obtain⟨m,a7,au,X⟩:∃m,m=w3.setCell (ϰ B 0) (.bool y)/\m.heap[B]?=some (ϲ #[.bool y] 4)/\Kp [B] w3 m:=⟨_,rfl,ξ A 0 _,(Kp.refl _ _).sc _⟩;rw[<-a7];clear a7 v bd;have aj:=ai.kp X (λk F c u fr e=>by rw[List.mem_singleton.1 F,A]at e;cases e;simp);have aw:=X.heap ah (by simp;exact υ ah A dC);refine zk hK aj ?_
  refine zd ?_;have ar:=zh (n2 O ((V.mono (S':=[P,B]) (by simp +contextual)).trans X (by simp +contextual)));have aq:=zh au;have ab:=zh aw;have r:=zh aj;clear aj ai I ah C au A ad V X ax O Z av aw;go_wp2_with fail;have d:m.drew.heap[q]?=some (ϲ #[ϖ a] 36)/\(∃k s,m.drew.heap[a]?=some (AW x k s))/\m.drew.heap[x]?=some (Ac t)/\m.drew.heap[P]?=some (ϲ #[.string f,.string j] 42):=⟨r.c,r.b,r.x_,ab⟩;refine wp_region_held_drew (S:=λW=>W.heap[q]?=some (ϲ #[ϖ a] 36)/\(∃k s,W.heap[a]?=some (AW x k s))/\W.heap[x]?=some (Ac t)/\W.heap[P]?=some (ϲ #[.string f,.string j] 42)) kR d (λ_=>?_);refine zV 0 (ϖ a) rfl (λW b=>by have c:=Y b.1 0;simp at c;clear b;go_simp) d ?_;refine zV 1 (ϖ a) rfl (λW b=>by have c:=Y b.1 0;simp at c;clear b;go_simp) d ?_;refine zP 2 P 0 d ?_;refine zV 3 (.string f) rfl (λW b=>by have c:=Y b.2.2.2 0;simp at c;clear b;go_simp) d ?_;refine zV 4 (ϖ a) rfl (λW b=>by have c:=Y b.1 0;simp at c;clear b;go_simp) d ?_;refine zP 5 a 0 d ?_;refine zP 6 a 0 d ?_;refine zV 7 (ϖ x) rfl (λW b=>by let⟨k',s',hb⟩:=b.2.1;have c:=Y hb 0;simp only[AW,zG,zH]at c;clear b hb;go_simp) d ?_;refine zP 8 x 0 d ?_;refine zP 9 x 9 d ?_;refine zV 10 (.int .u64 t.ch) rfl (λW b=>by have:=ϻ b.2.2.1 9;clear b;go_simp) d ?_;refine zP 11 a 0 d ?_;refine zP 12 a 1 d ?_;let⟨k',s',l⟩:=r.out.b;have:=U l;have v:=ϻ l 0;have G:=ϻ l 1;have H:=ϻ l 2;have ac:=ρ l;refine zq 13 λK hK=>?_;go_simp;obtain⟨n,a8,z,M⟩:∃n,n=(m.setCell (ϰ a 1) (.string f)).drew/\n.heap[a]?=some (AW x f s')/\Kp [a] m n:=⟨_,rfl,ξ l 1 _,((Kp.refl [a] m).sc _).drew⟩;rw[<-a8];clear a8 v G H ac;have an:=υ r.c l dC;have ap:=υ r.x_ l dC;have ao:=υ ab l dC;have D:n.heap[q]?=some (ϲ #[ϖ a] 36)/\(∃k s,n.heap[a]?=some (AW x k s))/\n.heap[x]?=some (Ac t)/\n.heap[P]?=some (ϲ #[.string f,.string j] 42):=⟨M.heap r.c (by simp;exact an),⟨_,_,z⟩,M.heap r.x_ (by simp;exact ap),M.heap ab (by simp;exact ao)⟩;refine zk hK D ?_
  refine zP 14 a 0 D ?_;refine zP 15 a 2 D ?_;have:=U z;have v:=ϻ z 0;have G:=ϻ z 1;have H:=ϻ z 2;have ac:=ρ z;refine zq 16 λK hK=>?_;go_simp;obtain⟨i,a9,am,N⟩:∃i,i=n.setCell (ϰ a 2) (.int .u64 t.ch)/\i.heap[a]?=some (AW x f t.ch)/\Kp [a] n i:=⟨_,rfl,ξ z 2 _,(Kp.refl [a] n).sc _⟩;rw[<-a9];clear a9 v G H ac;have ak:i.heap[q]?=some (ϲ #[ϖ a] 36)/\(∃k s,i.heap[a]?=some (AW x k s))/\i.heap[x]?=some (Ac t)/\i.heap[P]?=some (ϲ #[.string f,.string j] 42):=⟨N.heap D.1 (by simp;exact an),⟨_,_,am⟩,N.heap D.2.2.1 (by simp;exact ap),N.heap D.2.2.2 (by simp;exact ao)⟩;refine zk hK ak ?_
  refine zd ?_;have ag:=M.trans N (λ_ h _=>h);have HF:Hid (i.heap[P]?=some (ϲ #[.string f,.string j] 42)/\i.heap[B]?=some (ϲ #[.bool y] 4)/\i.heap[a]?=some (AW x f t.ch)/\∃Q,E.toEnv.To w Q/\Kp [P,B,a] Q i):=
   ⟨ak.2.2.2,ag.heap aq (by simp;exact υ aq l dC),am,w2,ar.1,(ar.2.mono (S':=[P,B,a]) (by simp +contextual)).trans ag (by simp +contextual)⟩
  clear ak D d l z am M N ag an ap ao;go_wp2
  go_end0
  exact .inr ⟨rfl,HF⟩
def qE2(w)(o1 o2 o3 o4 o5 o6):∃a,a=(((((w.alloc o1).alloc o2).alloc o3).alloc o4).alloc o5).alloc o6/\a.heap[w.heap.size]?=some o1/\a.heap[w.heap.size+1]?=some o2/\a.heap[w.heap.size+1+1]?=some o3/\a.heap[w.heap.size+1+1+1]?=some o4/\a.heap[w.heap.size+1+1+1+1]?=some o5/\a.heap[w.heap.size+1+1+1+1+1]?=some o6/\Kp [] w a/\a.heap.size=w.heap.size+6:=by
 let⟨a,i,c,d,f,g,h,hK,b⟩:=Ju w o1 o2 o3 o4 o5;refine⟨a.alloc o6,by rw[i],ν _ c,ν _ d,ν _ f,ν _ g,ν _ h,?_,hK.alloc _,by simp[b]⟩;have e:=μ a o6;rw[b]at e;exact e
def Te(args)(W):Sem.run prog (callFunc 91 args) W=.ok (.enter 91 args) W:=by
 simp[go_sem,func91]
structure CurT(E:SEnv)(w w':Ϣ)(Cb x:Nat)(t:Tx)(s:Sto)(k:Ϧ):Prop where
 dev:E.Dev w'
 hSt:w'.heap[t.St]?=some (η 0 s)
 hC:w'.heap[Cb]?=some (AW x k t.ch)
 kp:Kp (t.St::Cb::E.S) w w'
structure Six(w w0:Ϣ)(Cb:Nat)(fh:Bool)(g:Nat)(capf:ϧ):Prop where
 c:w0.heap[w.heap.size]?=some (ϲ #[ϖ Cb] 36)
 f:w0.heap[w.heap.size+1]?=some (ϲ #[ϐ fh] 4)
 g:w0.heap[w.heap.size+1+1]?=some (ϲ #[.func (.func g) #[] capf] 93)
 r:w0.heap[w.heap.size+1+1+1]?=some (ϲ #[ϕ ⟨#[]⟩,ϕ ⟨#[]⟩] 42)
 p:w0.heap[w.heap.size+1+1+1+1]?=some (ϲ #[ϕ ⟨#[]⟩,ϕ ⟨#[]⟩] 42)
 b:w0.heap[w.heap.size+1+1+1+1+1]?=some (ϲ #[ϐ false] 4)
 k:Kp [] w w0
 s:w0.heap.size=w.heap.size+6
def MK{h x:Nat}{key}{Q:Int}{call}{m:Bool}{g:Nat}{capf}{P:Ϧ->Ϧ->Bool->Value->ϯ}{w}(q:w.heap[h]?=some (AW x key Q))
  (t:∀k,Six w k h m g capf->Ω 45 #[ϖ x,ϕ call,.func (.func 91) #[] #[ϖ (w.heap.size+1),ϖ w.heap.size,ϖ (w.heap.size+1+1),ϖ (w.heap.size+1+1+1+1),ϖ (w.heap.size+1+1+1+1+1)]] k λe d=>∃a b f v,e=ϱ v/\P a b f v d/\d.heap[w.heap.size+1+1+1]?=some (ϲ #[ϕ ⟨#[]⟩,ϕ ⟨#[]⟩] 42)/\d.heap[w.heap.size+1+1+1+1]?=some (ϲ #[ϕ a,ϕ b] 42)/\d.heap[w.heap.size+1+1+1+1+1]?=some (ϲ #[ϐ f] 4)):
  Ω 47 #[ϖ h,ϕ call,ϐ m,.func (.func g) #[] capf] w λe w'=>∃a b f v d,e=ϱ (.tuple #[.agg #[ϕ a,ϕ b],ϐ f,v])/\P a b f v d/\d.heap[w.heap.size+1+1+1]?=some (ϲ #[ϕ ⟨#[]⟩,ϕ ⟨#[]⟩] 42)/\Kp [w.heap.size+1+1+1] d w':=by
 have y:=hid t;clear t;have:=zM;have:=U q;have:h<w.heap.size+1:=oM
 have R:h<w.heap.size+1+1:=oM
 have:h<w.heap.size+1+1+1:=oM
 have:h<w.heap.size+1+1+1+1:=oM
 have T:h<w.heap.size+1+1+1+1+1:=oM
 have L:=Y q 0;simp[AW,zG,zH]at L;go_enter func47,ntmps47;go_wp2_with fail;let⟨k,N,B,C,D,H,G,A,E,M⟩:=qE2 w (ϲ #[ϖ h] 36) (ϲ #[ϐ m] 4) (ϲ #[.func (.func g) #[] capf] 93) (ϲ ϝ 42) (ϲ ϝ 42) (ϲ #[ϐ false] 4);rw[<-N];refine(y k ⟨B,C,D,H,G,A,E,M⟩).mono ?_;rintro e d ⟨a,b,f,v,rfl,F,i,r,p⟩;have:=U i;have O:=Y i;have z:=ρ i;go_wp2_with fail;have j:d.drew.heap[w.heap.size+1+1+1+1]?=some (ϲ #[ϕ a,ϕ b] 42)/\d.drew.heap[w.heap.size+1+1+1+1+1]?=some (ϲ #[ϐ f] 4):=⟨r,p⟩;refine wp_region_held_drew (S:=λW=>W.heap[w.heap.size+1+1+1+1]?=some (ϲ #[ϕ a,ϕ b] 42)/\W.heap[w.heap.size+1+1+1+1+1]?=some (ϲ #[ϐ f] 4)) kR j (λ_=>?_);refine zW 0 (.agg #[ϕ a,ϕ b]) j (·.1) ?_;refine zV 1 (ϐ f) rfl (λW I=>by have c:=Y I.2 0;simp at c;go_simp) j ?_;apply zU 2 v j;refine zq 3 λK hK=>?_;go_simp;obtain⟨l,u,s,n⟩:∃l,l=((d.setCell (ϰ (w.heap.size+1+1+1) 0) (ϕ a)).setCell (ϰ (w.heap.size+1+1+1) 1) (ϕ b)).drew/\l.heap[w.heap.size+1+1+1]?=some (ϲ #[ϕ a,ϕ b] 42)/\Kp [w.heap.size+1+1+1] d l:=⟨_,rfl,(BO (ϕ a) (ϕ b) i).1,(BO (ϕ a) (ϕ b) i).2.drew⟩;rw[<-u];clear u O z;have o:=n2 (n.heap r (by rw[List.mem_singleton];omega)) (n.heap p (by rw[List.mem_singleton];omega));refine zk hK o ?_
 refine zq 4 λK hK=>?_;go_simp;refine zk hK o ?_
 refine zq 5 λK hK=>?_;go_simp;refine zk hK o ?_
 refine zd ?_;go_wp2;refine bodyPost_ret (v:=.tuple #[.agg #[ϕ a,ϕ b],ϐ f,v]) (by simp[results,results47,go_sem,ϻ s 0,ϻ s 1]) rfl ⟨a,b,f,v,d,rfl,hid F,i,n⟩
def Dy(fh:Bool)(key:ByteArray)(since ch:Int):Option Int:=if fh=true∧(key.toList.isEmpty=true∨since≠ch) then some 11 else none
def Ck(o:Option KV)(k:Option Int):Option KV:=if k=none then o else none
def GG(E:SEnv)(w w':Ϣ)(a x:Nat)(t:Tx)(s:Sto)(o:Option KV)(c k:ϩ):Prop:=
 (c=none/\ioK k=true/\SickT E w w' t s)\/(k=c/\(c=none->CurT E w w' a x t s (pkv o).k)/\(c≠none->BadT E w w' t s))
def Tm(E)(x A n:Nat)(t)(s)(r)(l:Nat)(key)(B:Int)(call)(C:Bool)(g:Nat)(capf)(o:Option KV)(w)(F:LiveT E w x A n t s r)(N:w.heap[l]?=some (AW x key B))
  (ao:ϴ g)
  (Z:Dy C key B t.ch=none->∀W,E.Dev W->RR E.toEnv W t.h r->Kp (t.St::E.S) w W->E.toEnv.C g (#[θ E.V t.h]++capf) W λe W'=>e=ϱ (AB o)/\E.toEnv.To W W'):
  Ω 47 #[ϖ l,ϕ call,ϐ C,.func (.func g) #[] capf] w λe w'=>∃v k,e=ϱ (.tuple #[.agg #[ϕ (pkv (Ck o k)).k,ϕ (pkv (Ck o k)).v],ϐ (Ck o k).isSome,v])/\ErrV w' v k/\GG E w w' l x t s o (Dy C key B t.ch) k:=by
 have:=U F.hx;have al:=U F.hSt;have R:=υ N F.hSt dC;have:=U N;obtain⟨c,u⟩:=eX (Dy C key B t.ch);rw[<-u]at Z |-;have am:c≠some 8/\ioK c=false:=by rw[u,Dy];split<;>decide
 refine(MK (P:=λfk fv fb v p=>∃k,fk=(pkv (Ck o k)).k/\fv=(pkv (Ck o k)).v/\fb=(Ck o k).isSome/\ErrV p v k/\GG E w p l x t s o c k) N ?_).mono ?_
 rotate_left
 .rintro e w' ⟨_,_,_,v,p,rfl,⟨k,rfl,rfl,rfl,hE,D⟩,hR,hK3⟩;have S:∀{L:List Nat},Kp L w p->Kp L w w':=λh=>h.trans hK3 (by intro i a ab;simp at a;omega);refine⟨v,k,rfl,hE.qM3 hK3 (λi a c fr e=>by rw[mS a,hR]at e;cases e),?_⟩;rcases D with⟨z,f,m⟩|⟨z,f,m⟩
  .exact .inl ⟨z,f,E.qP6 _ _ _ m.fail hK3 (OffD.one hR dC),hK3.ho m.hSt,S m.kp⟩
  .exact .inr ⟨z,λh=>⟨E.qN1 _ _ _ (f h).dev hK3 (OffD.one hR dC),hK3.heap (f h).hSt sO,hK3.heap (f h).hC sO,S (f h).kp⟩,λh=>⟨E.qN1 _ _ _ (m h).dev hK3 (OffD.one hR dC),hK3.heap (m h).hSt sO,S (m h).kp⟩⟩
 rintro w0 ⟨ae,af,ag,ai,ah,ac,I,aq⟩;have j:=F.more I;refine(EV x t.St 91 t s #[] #[ϖ (w.heap.size+1),ϖ w.heap.size,ϖ (w.heap.size+1+1),ϖ (w.heap.size+1+1+1+1),ϖ (w.heap.size+1+1+1+1+1)] _ ((w.heap.size+1+1+1+1)::(w.heap.size+1+1+1+1+1)::l::E.S)
  (λk s' W d=>s'=s/\d.heap[w.heap.size+1+1+1+1]?=some (ϲ #[ϕ (pkv (Ck o k)).k,ϕ (pkv (Ck o k)).v] 42)/\d.heap[w.heap.size+1+1+1+1+1]?=some (ϲ #[.bool (Ck o k).isSome] 4)/\((c=none/\ioK k=true/\E.qP9 d/\Kp E.S W d)\/(k=c/\E.Dev d/\(c=none->Ϙ d l (AW x (pkv o).k t.ch))/\(c≠none->Kp [] W d)))) w0 j.hx j.over rfl j.hSt (λh=>by rw[j.po]at h;cases h) j.xS (Te _) (λi a=>by
  simp only[mC]at a;rcases a with h|h|h|h
  .omega
  .omega
  .omega
  .exact E.low w0 j.dev i h) ?_).mono ?_
 .intro _ W hK O;have y:=j.qU7 hK;have T:=hK.heap (I.hp N) (by simp;exact R);have K:=hK.ho ah;have D:=hK.ho ac;have V:MvIn E (w.heap.size+1) w.heap.size (w.heap.size+1+1) (w.heap.size+1+1+1+1) (w.heap.size+1+1+1+1+1) l x g capf C key B t W:=⟨hK.ho af,hK.ho ae,hK.ho ag,K,D,T,hK.heap j.hx (by simp;exact j.xS),j.on,y,oM⟩;by_cases H:C=true/\(key.toList.isEmpty=true\/B≠t.ch)
  .rw[Dy,if_pos H]at u;obtain⟨rfl,H⟩:=H;refine(Ym E (w.heap.size+1) w.heap.size (w.heap.size+1+1) (w.heap.size+1+1+1+1) (w.heap.size+1+1+1+1+1) l x g capf key B t W V H).mono ?_;rintro e d ⟨rfl,q⟩;exact⟨some 11,s,dC,rfl,⟨rfl,q.hp K,q.hp D,.inr ⟨u.symm,E.qN1 W d [] y q (λk hk=>by simp at hk),λh=>(by rw[u]at h;cases h),λ_=>q⟩⟩,q.mono sM,q.hp O⟩
  rw[Dy,if_neg H]at u;refine(Yl E (w.heap.size+1) w.heap.size (w.heap.size+1+1) (w.heap.size+1+1+1+1) (w.heap.size+1+1+1+1+1) l x g capf C key B t o W V (λh=>by
    have f:=λe=>H ⟨h,e⟩;exact⟨by simpa using λe=>f (.inl (sU e)),Classical.not_not.1 λe=>f (.inr e)⟩) ao (λW' hT=>Z u W' hT.dev ((j.rr.qO1 hK (Apt.one j.hSt dC)).to y hT) (((I.mono (S':=t.St::E.S) sM).trans hK sC).trans hT.kp sC))).mono ?_
  rintro e p (⟨⟨b,rfl⟩,hf,M⟩|⟨rfl,ha,hb,an,d,G,q⟩)
  .exact⟨some (1000+(b:Int)),s,FR b,(Eb b).symm,⟨rfl,M.heap K (E.nin y K dC),M.heap D (E.nin y D dC),.inl ⟨u,DY b,hf,M⟩⟩,M.mono sC,M.heap O (E.nin y O dC)⟩
  have ak:Ϙ p t.St (η 1 s):=q.heap (E.stay y G O dC) (by simp;exact⟨oM,oM,λe=>R e.symm⟩);have ap:=(OffD.one (E.stay y G K dC) dC).cons ((OffD.one (E.stay y G D dC) dC).cons (OffD.one (E.stay y G T dC) dC));exact⟨none,s,dC,rfl,⟨rfl,ha,hb,.inr ⟨u.symm,E.qN1 d p _ G.dev q ap,λ_=>an,λh=>(h u).elim⟩⟩,(G.kp.mono (S':=t.St::(w.heap.size+1+1+1+1)::(w.heap.size+1+1+1+1+1)::l::E.S) sC).trans q (by intro i a _;simp at a |-;rcases a with h | h | h<;>simp[h]),ak⟩
 rintro e p ⟨k,s',v,rfl,hv,hSt2,hK2,W,d,Bb,⟨rfl,hP1,hB1,hQ⟩,hKW,hb1,hb2,hb3,hKB,hS1⟩;have:=al;have:w.heap.size+6<=Bb:=oM
 have ad:=hKB.ho hB1;have aj:=hK2.heap ai (by
  simp only[mC,not_or];refine⟨oM,oM,oM,oM,λh=>?_⟩;have:=E.low w F.dev _ h;omega)
 have aa:∀{L:List Nat},(∀i∈L,i∈E.S)->Kp L W d->Kp (t.St::E.S) w p:=λF h=>(((I.mono (S':=t.St::E.S) sM).trans hKW sC).trans h (λi a _=>mM _ (F i a))).trans hKB (by
  intro i a ab;simp only[mC,lN,or_false]at a;rcases a with rfl|rfl
  .simp
  .omega)
 refine⟨_,_,_,v,rfl,⟨k,rfl,rfl,rfl,hv,?_⟩,aj,hKB.ho hP1,ad⟩;rcases hQ with⟨z,f,m,Q⟩|⟨z,f,m,Q⟩
 .exact .inl ⟨z,f,E.qP6 d p _ m hKB (Cs hS1 hb3),by rw[hSt2,Sto.aft,f,Bool.or_true],aa (λ_ h=>h) Q⟩
 .rw[Sto.qO8 (by rw[z];exact am.2)]at hSt2;have X:=E.qN1 d p _ f hKB (Cs hS1 hb3);exact .inr ⟨z,λh=>⟨X,hSt2,hKB.heap (m h) (by simp;exact⟨R,oM⟩),(I.mono (S':=t.St::l::E.S) sM).trans hK2 (by intro i a ab;simp at a |-;rcases a with h | h | h | h | h;simp[h];omega;omega;simp[h];simp[h])⟩,λh=>⟨X,hSt2,aa sM (Q h)⟩⟩
def Tp(x:Nat)(t)(s)(j:Nat)(key)(D:Int)(call)(m:Bool)(g:Nat)(capf)(w)(B:w.heap[x]?=some (Ac t))(z:s.po=true\/t.over=true)(k:w.heap[t.St]?=some (η 0 s))(C:x≠t.St)(q:w.heap[j]?=some (AW x key D)):
  Ω 47 #[ϖ j,ϕ call,ϐ m,.func (.func g) #[] capf] w λe w'=>∃v,e=ϱ (.tuple #[.agg #[ϕ ⟨#[]⟩,ϕ ⟨#[]⟩],ϐ false,v])/\ErrV w' v (some (goK s))/\w'.heap[t.St]?=some (η 0 s)/\Kp [t.St] w w':=by
 have:=U k;refine(MK (P:=λn o l v a=>(n=⟨#[]⟩/\o=⟨#[]⟩/\l=false)/\ErrV a v (some (goK s))/\Ϙ a t.St (η 0 s)/\Kp [t.St] w a) q ?_).mono ?_
 rotate_left
 .rintro e w' ⟨_,_,_,v,a,rfl,⟨⟨rfl,rfl,rfl⟩,hE,hB1,hB2⟩,hR,hK3⟩;exact⟨v,rfl,hE.qM3 hK3 (λi f c F e=>by rw[mS f,hR]at e;cases e),hK3.ho hB1,hB2.trans hK3 (by intro i f K;simp at f;omega)⟩
 rintro E ⟨G,H,I,u,r,p,d,L⟩;refine(Eu x t.St 91 t s #[] _ _ E (d.hp B) z rfl (d.hp k) C).mono ?_;rintro e a ⟨v,rfl,A,y,b⟩;exact⟨_,_,_,v,rfl,⟨⟨rfl,rfl,rfl⟩,A,y,(d.mono sM).trans b (λ_ h _=>h)⟩,b.ho u,b.ho r,b.ho p⟩
def qJ0:Up λ_=>true:=λ_ _ _ _=>rfl
def UR:DT λ_=>true:=λ_ _ _ _=>rfl
def US(k):DT λa=>kl a k:=λa b h hb=>Dp h hb
def Iz(w)(o1 o2):∃a,a=(w.alloc o1).alloc o2/\a.heap[w.heap.size]?=some o1/\a.heap[w.heap.size+1]?=some o2/\Kp [] w a/\a.heap.size=w.heap.size+2:=by
 refine⟨_,rfl,ν _ (μ _ _),?_,(kF.alloc _).alloc _,sM⟩;simpa using(μ (w.alloc o1) o2)
def Pl(w)(o1):∃a,a=w.alloc o1/\a.heap[w.heap.size]?=some o1/\Kp [] w a/\a.heap.size=w.heap.size+1:=⟨_,rfl,μ _ _,kF.alloc _,sM⟩
def Hw(a:Nat):Prop:=a=0\/a=1\/a=2\/a=3\/a=4
def mvF:Nat→Nat
 | 0=>22
 | 1=>25
 | 2=>27
 | 3=>23
 | _=>26
def mvG:Nat→Nat
 | 0=>48
 | 1=>54
 | 2=>59
 | 3=>51
 | _=>57
def mvI:Nat→Nat
 | 0=>50
 | 1=>56
 | 2=>60
 | 3=>52
 | _=>58
def mvX(Cb:Nat)(sk:ByteArray):Nat→Option Obj
 | 0=>none
 | 1=>none
 | 2=>some (.cells #[.string sk] 9)
 | _=>some (.cells #[.pointer (some ⟨Cb,0,none⟩)] 36)
def mvC(X:Nat):Nat→Array Value
 | 0=>#[]
 | 1=>#[]
 | _=>#[.pointer (some ⟨X,0,none⟩)]
def mvB(key sk:ByteArray):Nat→ByteArray→Bool
 | 0=>fun _=>true
 | 1=>fun _=>true
 | 2=>fun k=>!kl k sk
 | 3=>fun k=>kl key k
 | _=>fun k=>kl k key
def mvO(ps:List KV)(key sk:ByteArray):Nat→Option KV
 | 0=>ps.find? fun _=>true
 | 1=>AX (fun _=>true) ps
 | 2=>ps.find? fun q=>!kl q.k sk
 | 3=>ps.find? fun q=>kl key q.k
 | _=>AX (fun k=>kl k key) ps
def mvT:Nat→Nat
 | 0=>49
 | 2=>49
 | 3=>49
 | _=>55
def Yz{a:Nat}(b:Hw a)(args)(W):Sem.run prog (callFunc (mvG a) args) W=.ok (.enter (mvG a) args) W:=by
 rcases b with rfl|rfl|rfl|rfl|rfl<;>simp[mvG,go_sem,func48,func54,func59,func51,func57]
def YB{a:Nat}(b:Hw a)(args)(W):Sem.run prog (callFunc (mvI a) args) W=.ok (.enter (mvI a) args) W:=by
 rcases b with rfl|rfl|rfl|rfl|rfl<;>simp[mvI,go_sem,func50,func56,func60,func52,func58]
def YC{a:Nat}(f:Hw a){X c x:Nat}{key sk}{g:Int}(k){w}(b:∀o,mvX c sk a=some o->w.heap[X]?=some o)(d:w.heap[c]?=some (AW x key g)):Ω (mvI a) (#[ϕ k]++mvC X a) w λe w'=>e=ϱ (ϐ (mvB key sk a k))/\Kp [] w w':=by
 have:=U d;have h:=ϻ d 1;rcases f with rfl|rfl|rfl|rfl|rfl
 all_goals simp[mvI,mvC,mvB,aT,cA,nA]
 all_goals try (have b:=b _ rfl;have:=U b;have c0:=ϻ b 0)
 all_goals first | go_enter func50,ntmps50 | go_enter func56,ntmps56 | go_enter func60,ntmps60 | go_enter func52,ntmps52 | go_enter func58,ntmps58
 all_goals go_wp2
 all_goals go_ret
 all_goals refine⟨?_,Kp.refl _ _⟩
 all_goals first | rfl | (rw[<-NT];rfl) | simp[kl]
def YE{a:Nat}(i:Hw a){E:SEnv}{r:Root}{h:HL}{X j x:Nat}{key sk:Ϧ}{p:Int}{w:Ϣ}(n:∀o,mvX j sk a=some o->w.heap[X]?=some o)(m:w.heap[j]?=some (AW x key p))(b:E.Dev w)(g:RR E.toEnv w h r)(f:RGood r):E.toEnv.C (mvT a) #[θ E.V h,.func (.func (mvI a)) #[] (mvC X a)] w λe w'=>e=ϱ (AB (mvO r.cont key sk a))/\E.toEnv.To w w':=by
 have c:Asks E.toEnv w (mvI a) (mvC X a) (mvB key sk a):=λW k l=>YC i k (λo e=>by
  have:=n o e;rcases i with rfl|rfl|rfl|rfl|rfl<;>first|cases e|skip
  all_goals exact E.stay b l this dC) (E.stay b l m dC)
 have d:=YB i;rcases i with rfl|rfl|rfl|rfl|rfl
 .exact Iu E.toEnv r h _ _ _ w b g f qJ0 c d
 .exact Qi E r h _ _ _ w b g f UR c d
 .exact Iu E.toEnv r h _ _ _ w b g f (Qp sk) c d
 .exact Iu E.toEnv r h _ _ _ w b g f (Qq key) c d
 .exact Qi E r h _ _ _ w b g f (US key) c d
def YA{a:Nat}(u:Hw a){E:SEnv}{r:Root}{h:HL}{X q x:Nat}{key sk:Ϧ}{K:Int}{w:Ϣ}(C:∀o,mvX q sk a=some o->w.heap[X]?=some o)(z:w.heap[q]?=some (AW x key K))(i:E.Dev w)(H:RR E.toEnv w h r)(F:RGood r):E.toEnv.C (mvG a) (#[θ E.V h]++mvC X a) w λe w'=>e=ϱ (AB (mvO r.cont key sk a))/\E.toEnv.To w w':=by
 have:=zM;have j:Hid (∀b,Kp [] w b->E.toEnv.C (mvT a) #[θ E.V h,.func (.func (mvI a)) #[] (mvC X a)] b λe w'=>e=ϱ (AB (mvO r.cont key sk a))/\E.toEnv.To b w'):=λb hK=>YE u (λo e=>hK.heap (C o e) sM) (hK.hp z) (Env.To.of0 i hK).dev (H.qO1 hK (Apt.nil _ _)) F;let⟨o,G⟩:=eY (mvO r.cont key sk a);rw[G]at j |-;obtain⟨f,g,l,D⟩:∃f g l,AB o=.tuple #[.agg #[ϕ f,ϕ g],ϐ l]:=by
  cases o with
  | none=>exact⟨_,_,_,rfl⟩
  | some p=>exact⟨_,_,_,rfl⟩
 rw[D]at j |-;rw[θ];rcases u with rfl|rfl|rfl|rfl|rfl
 all_goals simp[mvG,mvC,aT,cA,nA]
 all_goals first | go_enter func48,ntmps48 | go_enter func54,ntmps54 | go_enter func59,ntmps59 | go_enter func51,ntmps51 | go_enter func57,ntmps57
 all_goals
  go_wp2_with fail;let⟨b,I,O,A,m,P⟩:=Iz w (ϲ (ϟ E.V h) 89) (ϲ ϝ 42);rw[<-I];refine Env.call (j b m) (Env.To.of0 i m) ?_;rintro e Q ⟨rfl,s⟩;have d:=s.new (k:=w.heap.size+1) i oM A;have:=U d;have:=Y d;have:=ρ d;have y:=zh ((Env.To.of0 i m).trans s);go_wp2;have n:=BO (ϕ f) (ϕ g) d;have B:=SEnv.qO9 y oM (λc t N e=>by rw[d]at e;cases e;decide) n.2;have L:=ϻ n.1 0;have M:=ϻ n.1 1;refine bodyPost_ret (v:=.tuple #[.agg #[ϕ f,ϕ g],ϐ l]) (by simp[results,results48,results54,results59,results51,results57,go_sem,L,M]) rfl (.inr ⟨rfl,B⟩)
def CurT.from{E}{w w0 w'}{Cb x:Nat}{t}{s}{k}(hK:Kp [] w w0)(h:CurT E w0 w' Cb x t s k):CurT E w w' Cb x t s k:=⟨h.dev,h.hSt,h.hC,(hK.mono sM).trans h.kp (λ_ h _=>h)⟩
def mvA(Cb:Nat)(sk:ByteArray):Nat→Array Value
 | 2=>#[.pointer (some ⟨Cb,0,none⟩),.string sk]
 | _=>#[.pointer (some ⟨Cb,0,none⟩)]
def mvH:Nat→Bool
 | 3=>true
 | 4=>true
 | _=>false
abbrev mvv(k v:ByteArray)(b:Bool)(e:Value):Ending:=.returned (.tuple #[.agg #[.string k,.string v],.bool b,e])
def c_k{how:Nat}(j:Hw how){Cb:Nat}{sk}{P:Ϧ->Ϧ->Bool->Value->ϯ}{S}{w}(D:∀k∈S,k<w.heap.size)(K:Cb<w.heap.size)
  (F:∀i G,Kp [] w i->(∀o,mvX Cb sk how=some o->i.heap[w.heap.size]?=some o)->Ω 47 #[ϖ Cb,ϕ G,ϐ (mvH how),.func (.func (mvG how)) #[] (mvC w.heap.size how)] i λe d=>∃a b c v,e=mvv a b c v/\P a b c v d/\Kp S i d):
  Ω (mvF how) (mvA Cb sk how) w λe w'=>∃a b c v d R,e=mvv a b c v/\P a b c v d/\Kp S w d/\w.heap.size<=R/\d.heap[R]?=some (ϲ #[ϕ ⟨#[]⟩,ϕ ⟨#[]⟩] 42)/\Kp [R] d w':=by
 have:=zM;have C:=hid F;clear F;have j:(how=0\/how=1)\/how=2\/how=3\/how=4:=by unfold Hw at j;omega
 rcases j with j|j
 .rcases j with rfl|rfl
  all_goals
   simp only[mvF,mvA]
   first | go_enter func22,ntmps22 | go_enter func25,ntmps25
   go_wp2_with fail;obtain⟨i,y,u,m,I⟩:=Pl w (ϲ ϝ 42);rw[<-y];apply(C i _ m (λ_ e=>by cases e)).mono;rintro e d ⟨a,b,c,v,rfl,q,p⟩;have g:=p.heap u (λh=>by have:=D _ h;omega);have:=U g;have:=Y g;have:=ρ g;have f:=zh (n3 g q ((m.mono sM).trans p (λ_ h _=>h)));go_wp2;have l:=BO (ϕ a) (ϕ b) f.1;have z:=ϻ l.1 0;have B:=ϻ l.1 1;refine bodyPost_ret (v:=.tuple #[.agg #[ϕ a,ϕ b],ϐ c,v]) (by simp[results,results22,results25,results27,results23,results26,go_sem,z,B]) rfl ⟨a,b,c,v,d,w.heap.size,rfl,f.2.1,f.2.2,oM,f.1,l.2⟩
 .rcases j with rfl|rfl|rfl
  all_goals
   simp only[mvF,mvA]
   first | go_enter func27,ntmps27 | go_enter func23,ntmps23 | go_enter func26,ntmps26
   go_wp2_with fail;obtain⟨i,y,H,u,m,I⟩:=Iz w _ (ϲ ϝ 42);rw[<-y];refine(C i _ m (λ_ e=>by cases e;exact H)).mono ?_;rintro e d ⟨a,b,c,v,rfl,q,p⟩;have g:=p.heap u (λh=>by have:=D _ h;omega);have:=U g;have:=Y g;have:=ρ g;have f:=zh (n3 g q ((m.mono sM).trans p (λ_ h _=>h)));go_wp2;have l:=BO (ϕ a) (ϕ b) f.1;have z:=ϻ l.1 0;have B:=ϻ l.1 1;refine bodyPost_ret (v:=.tuple #[.agg #[ϕ a,ϕ b],ϐ c,v]) (by simp[results,results22,results25,results27,results23,results26,go_sem,z,B]) rfl ⟨a,b,c,v,d,w.heap.size+1,rfl,f.2.1,f.2.2,oM,f.1,l.2⟩
section
variable {how:Nat} {E:SEnv} {x A n:Nat} {t:Tx} {s:Sto} {r:Root} {Cb:Nat} {key sk:Ϧ} {since:Int} {w:Ϣ}
def c_l(l:Hw how)(d:LiveT E w x A n t s r)(g:w.heap[Cb]?=some (AW x key since)):
  Ω (mvF how) (mvA Cb sk how) w λe w'=>∃v k,e=mvv (pkv (Ck (mvO r.cont key sk how) k)).k (pkv (Ck (mvO r.cont key sk how) k)).v (Ck (mvO r.cont key sk how) k).isSome v/\ErrV w' v k/\GG E w w' Cb x t s (mvO r.cont key sk how) (Dy (mvH how) key since t.ch) k:=by
 have F:=U g;have:=U d.hSt;obtain⟨o,y⟩:=eX (mvO r.cont key sk how);rw[<-y];obtain⟨c,u⟩:=eX (Dy (mvH how) key since t.ch);rw[<-u];refine(c_k (P:=λC D B v j=>∃k,C=(pkv (Ck o k)).k/\D=(pkv (Ck o k)).v/\B=(Ck o k).isSome/\ErrV j v k/\GG E w j Cb x t s o c k) (S:=t.St::Cb::E.S) l (λk hk=>by
  simp[mC]at hk;rcases hk with h|h|h
  .omega
  .omega
  .exact E.low w d.dev k h) F (λH z hK G=>(Tm E x A n t s r Cb key since z _ _ _ o H (d.more hK) (hK.hp g) (Yz l) (λ_ W hd hr hKW=>by
   rw[y];exact YA l (λo e=>hKW.heap (G o e) (by simp[mC,not_or];exact⟨oM,λh=>by have:=E.low w d.dev _ h;omega⟩)) (hKW.heap (hK.hp g) (by simp[mC,not_or];exact⟨υ g d.hSt dC,E.nin d.dev g dC⟩)) hd hr d.qM7)).mono ?_)).mono ?_
 .rw[<-u];rintro e j ⟨v,k,rfl,q,h⟩;refine⟨_,_,_,v,rfl,⟨k,rfl,rfl,rfl,q,h.imp (λh=>⟨h.1,h.2.1,h.2.2.from hK⟩) λh=>⟨h.1,λe=>(h.2.1 e).from hK,λe=>(h.2.2 e).from hK⟩⟩,?_⟩;rcases h with⟨_,_,h⟩|⟨_,f,a⟩
  .exact h.kp.mono sC
  .by_cases e:c=none
   .exact (f e).kp
   .exact (a e).kp.mono sC
 .rintro e w' ⟨_,_,_,v,j,R,rfl,⟨k,rfl,rfl,rfl,q,hB⟩,hK,hR,hR1,hK2⟩;have p:∀{L:List Nat},Kp L w j->Kp L w w':=λh=>h.trans hK2 (by intro i m hlt;simp at m;omega);refine⟨v,k,rfl,q.qM3 hK2 (λi m c I e=>by rw[mS m,hR1]at e;cases e),?_⟩;rcases hB with⟨f,a,b⟩|⟨f,a,b⟩
  .exact .inl ⟨f,a,E.qP6 _ _ _ b.fail hK2 (OffD.one hR1 dC),hK2.ho b.hSt,p b.kp⟩
  .exact .inr ⟨f,λh=>⟨E.qN1 _ _ _ (a h).dev hK2 (OffD.one hR1 dC),hK2.heap (a h).hSt sO,hK2.heap (a h).hC sO,p (a h).kp⟩,λh=>⟨E.qN1 _ _ _ (b h).dev hK2 (OffD.one hR1 dC),hK2.heap (b h).hSt sO,p (b h).kp⟩⟩
def SC(o:Hw how)(q:w.heap[x]?=some (Ac t))(p:s.po=true\/t.over=true)(h:w.heap[t.St]?=some (η 0 s))(u:x≠t.St)(g:w.heap[Cb]?=some (AW x key since)):
  Ω (mvF how) (mvA Cb sk how) w λe w'=>∃v,e=mvv ⟨#[]⟩ ⟨#[]⟩ false v/\ErrV w' v (some (goK s))/\w'.heap[t.St]?=some (η 0 s)/\Kp [t.St] w w':=by
 have:=U h;refine(c_k (P:=λk l j v a=>(k=⟨#[]⟩/\l=⟨#[]⟩/\j=false)/\ErrV a v (some (goK s))/\Ϙ a t.St (η 0 s)) (S:=[t.St]) o sO (U g) (λw0 call hK _=>(Tp x t s Cb key since call _ _ _ w0 (hK.hp q) p (hK.hp h) u (hK.hp g)).mono ?_)).mono ?_
 .rintro e a ⟨v,rfl,b,d,m⟩;exact⟨_,_,_,v,rfl,⟨⟨rfl,rfl,rfl⟩,b,d⟩,m⟩
 .rintro e w' ⟨_,_,_,v,a,R,rfl,⟨⟨rfl,rfl,rfl⟩,b,d⟩,hK,hR,hR1,hK2⟩;exact⟨v,rfl,b.qM3 hK2 (λi f c y e=>by rw[mS f,hR1]at e;cases e),hK2.ho d,hK.trans hK2 (by intro i f z;simp at f;omega)⟩
end
def SX(args)(W):Sem.run prog (callFunc 46 args) W=.ok (.enter 46 args) W:=by
 simp[go_sem,func46]
def UD(d a x:Nat)(w)(c:w.heap[d]?=some (ϲ #[ϖ x] 32))(b:w.heap[a]?=some (ϲ #[ϗ none] 36)):
  Ω 46 #[ϖ d,ϖ a] w λe w'=>e=Al none/\∃Cb,w.heap.size<=Cb/\w'.heap[Cb]?=some (AW x ⟨#[]⟩ 0)/\w'.heap[a]?=some (ϲ #[ϖ Cb] 36)/\Kp [a] w w':=by
 have:=U c;have:=U b;have:=ϻ c 0;have:=ϻ b 0;have:=ρ b 0;clear c;go_enter func46,ntmps46;go_wp2
 go_end0
 refine⟨rfl,ϳ w,lR,?_,?_,?_⟩
 .have e:=μ (w.setCell (ϰ a 0) (ϖ (ϳ w))) (AW x ⟨#[]⟩ 0);rw[show(w.setCell (ϰ a 0) (ϖ (ϳ w))).heap.size=ϳ w by simp[World.setCell]]at e;exact e
 .exact ν _ (ξ b 0 _)
 .exact ((Kp.refl [a] w).sc _).alloc _
def qG2(E)(x A n:Nat)(t)(s)(r)(w)(j:LiveT E w x A n t s r):
  Ω 21 #[ϖ x] w λe w'=>∃a,e=ϱ (.tuple #[ϖ a,.nilIface])/\w.heap.size<=a/\w'.heap[a]?=some (AW x ⟨#[]⟩ 0)/\BadT E w w' t s:=by
 have:=zM;have:=U j.hx;have:=U j.hSt;go_enter func21,ntmps21;go_wp2_with fail;let⟨p,G,D,B,l,K⟩:=Iz w (ϲ #[ϖ x] 32) (ϲ #[ϗ none] 36);rw[<-G];have c:=j.more l;refine(Hh none dC x t.St 46 t s s #[] #[ϖ w.heap.size,ϖ (w.heap.size+1)] _ [w.heap.size+1] (λW b=>E.Dev b/\Ϙ b t.St (η 1 s)/\∃a,p.heap.size<=a/\Ϙ b a (AW x ⟨#[]⟩ 0)/\b.heap[w.heap.size+1]?=some (ϲ #[ϖ a] 36)) p c.hx c.over rfl c.hSt c.po c.xS (SX _) (λi f=>by simp at f;omega) ?_).mono ?_
 .intro W hK C;have m:=hK.ho B;have:=hK.size;refine mR (UD w.heap.size (w.heap.size+1) x W (hK.ho D) m) ?_;rintro b ⟨a,H,u,y,g⟩;have d:=g.ho C;exact⟨rfl,⟨E.qN1 W b _ (c.qU7 hK) g (OffD.one m dC),d,a,oM,u,y⟩,g.mono sC,d⟩
 rintro e k ⟨v,rfl,hv,hSt2,hK2,W,b,Bb,⟨hd1,d,a,hCb,hC1,hP1⟩,hKW,hb1,hb2,hb3,hKB⟩;have F:v=.nilIface:=hv;subst F;have z:=hKB.heap hC1 (by simp[mC,lN,or_false,not_or];exact⟨υ hC1 d dC,υ hC1 hb3 dC⟩);have o:=hKB.heap hP1 (by simp[mC,lN,or_false,not_or];exact⟨υ hP1 d dC,υ hP1 hb3 dC⟩);have q:Hid (w.heap.size<=a/\Ϙ k a (AW x ⟨#[]⟩ 0)/\BadT E w k t s):=⟨oM,z,E.qN1 b k _ hd1 hKB (Cs d hb3),hSt2,(l.mono (S':=t.St::E.S) sM).trans hK2 (by intro i f I;simp at f |-;rcases f with h | h;simp[h];omega)⟩;have:=U o;have:=ϻ o 0;go_wp2;refine bodyPost_ret (v:=.tuple #[ϖ a,.nilIface]) (by simp[results,results21,go_sem]) rfl ?_;exact⟨a,rfl,q⟩
def qG3(x:Nat)(t)(s)(w)(f:w.heap[x]?=some (Ac t))(k:s.po=true\/t.over=true)(d:w.heap[t.St]?=some (η 0 s))(n:x≠t.St):
  Ω 21 #[ϖ x] w λe w'=>∃v,e=ϱ (.tuple #[ϗ none,v])/\ErrV w' v (some (goK s))/\w'.heap[t.St]?=some (η 0 s)/\Kp [t.St] w w':=by
 have:=zM;have:=U f;have:=U d;go_enter func21,ntmps21;go_wp2_with fail;let⟨o,m,p,i,a,q⟩:=Iz w (ϲ #[ϖ x] 32) (ϲ #[ϗ none] 36);rw[<-m];refine(Eu x t.St 46 t s #[] _ _ o (a.hp f) k rfl (a.hp d) n).mono ?_;rintro e r ⟨v,rfl,l,j,b⟩;have c:=b.ho i;have g:=zh (n3 l j ((a.mono sM).trans b (λ_ h _=>h)));have:=U c;have:=ϻ c 0;go_wp2;refine bodyPost_ret (v:=.tuple #[ϗ none,v]) (by simp[results,results21,go_sem]) rfl ?_;exact⟨v,rfl,g⟩
def Cz(Cb:Nat)(key:ByteArray)(on:Bool)(stp:Int):Obj:=.cells #[.pointer (some ⟨Cb,0,none⟩),.string key,.bool on,.int .i64 stp] 282
def WH:(prog.info? 203).map (fun i=>(i.zero,i.size,i.bytes))=some (some (ϗ none),1,8):=kR
def LE(f:TF)(tb base:Nat)(e:Ϥ)(R:Nat->ϯ)(S:Ϥ)(w w':Ϣ):Prop:=
 ∃a d b c L,R d a/\Kp S w a/\a.heap.size<=b/\w'.heap[b]?=some (Cz d ⟨#[]⟩ false 0)/\w'.heap[tb]?=some (tob { f with cs:=c })/\w'.ownsRow base 203 1 c (e.length+1) (BK (e++[b]))/\Kp L a w'/\(∀i∈L,i=tb\/f.cs.ownBlock=some i)/\∀i,c.ownBlock=some i->f.cs.ownBlock=some i\/a.heap.size<=i
def More.qM3{w w':Ϣ}{A:Nat}{t:Int}{L:Ϥ}(h:More w A t)(hK:Kp L w w')(hA:A∉L):More w' A t:=by obtain⟨t',h1,h2⟩:=h;exact⟨t',h1,h2.qM3 hK hA⟩
def LC(R:ϯ)(S:Ϥ)(w w':Ϣ):Prop:=∃a,R a/\Kp S w a/\Kp [] a w'
def ZT(B tb:Nat)(td:Int)(k:KF)(f:TF)(ps:List KV)(S:Ϥ)(R:ϯ)(w:Ϣ)(hI:LkIn w B tb td k f ps)(hP:ProgS w S)(j:Int)(hd:(k.po=true∧j=7)∨(k.po=false∧f.dn=true∧j=5))(hcall:Ω 21 #[ϖ f.x] w fun e w'=>∃v,e=ϱ (.tuple #[ϗ none,v])∧ErrV w' v (some j)∧R w'∧Kp S w w'):
  Ω 136 #[ϖ B,ϖ tb] w fun e w'=>e=ϱ (ϐ true)∧LC R S w w':=by
 have HDN:=hid hd;have hBs:=U hI.hB;have hTs:=U hI.hT;have hT:=hI.hT;have t0:=Y hT 0;simp[tob,zG,zH,zI]at t0;have HCALL:=hcall;clear hT hcall;go_enter func136,ntmps136;go_wp2_with fail;apply HCALL.mono;rintro e w1 ⟨v,rfl,hv,hR,hK1⟩;have hB1:=hP.stay hK1 hI.hB (by decide);have hT1:=hP.stay hK1 hI.hT (by decide);have hg1:=hP.g0 hK1 hI.g0 (by omega);have HR:Hid (R w1∧Kp S w w1):=⟨hR,hK1⟩;go_wp2_with fail;refine(Dh v (some j) w1 hg1 hv).mono ?_;rintro e w2 ⟨he,hK2⟩;rw[(DJ (j:=j) (by rcases HDN.out with h | h<;>omega)).2]at he;subst he;have hB2:=hK2.hp hB1;have hT2:=hK2.hp hT1;have hB2s:=U hB2;have hT2s:=U hT2;have b10:=Y hB2 10;simp[kob,zG,zH,zI]at b10;have t3:=Y hT2 3;simp[tob,zG,zH,zI]at t3;rcases HDN.out with⟨h1,rfl⟩|⟨h1,h2,rfl⟩
 rotate_left
 ·rw[h2]at t3;rw[h1]at b10
  go_wp2_with (go_at_call 127;refine mR (BN _ _) ?_;rintro w3 rfl)
  go_ret;exact⟨by simp,w1,HR.out.1,HR.out.2,hK2⟩
 ·rw[h1]at b10
  go_wp2_with (go_at_call 127;refine mR (BN _ _) ?_;rintro w3 rfl)
  go_ret;exact⟨by simp,w1,HR.out.1,HR.out.2,hK2⟩
def ZU(B tb:Nat)(td:Int)(k:KF)(f:TF)(ps:List KV)(base:Nat)(css:Ϥ)(S:Ϥ)(R:Nat→ϯ)(w:Ϣ)(hI:LkIn w B tb td k f ps)(hP:ProgS w S)(hpo:k.po=false)(hdn:f.dn=false)(hrow:w.ownsRow base 203 1 f.cs css.length (BK css))(hlen:css.length≤100000)(hb:base≤w.heap.size)(hcall:Ω 21 #[ϖ f.x] w fun e w'=>∃Cb,e=ϱ (.tuple #[ϖ Cb,.nilIface])∧R Cb w'∧Kp S w w'):
  Ω 136 #[ϖ B,ϖ tb] w fun e w'=>e=ϱ (ϐ true)∧LE f tb base css R S w w':=by
 have HRW:Hid (w.ownsRow base 203 1 f.cs css.length (BK css)∧base≤w.heap.size):=⟨hrow,hb⟩;obtain⟨cb0,cc0,hcs⟩:=DP hrow;have hBs:=U hI.hB;have hTs:=U hI.hT;have t0:=Y hI.hT 0;simp[tob,zG,zH,zI]at t0;go_enter func136,ntmps136;go_wp2_with fail;refine hcall.mono ?_;rintro e w1 ⟨Cb,rfl,hR,hK1⟩;have hB1:=hP.stay hK1 hI.hB (by decide);have hT1:=hP.stay hK1 hI.hT (by decide);have hg1:=hP.g0 hK1 hI.g0 (by omega);have HR:Hid (R Cb w1∧Kp S w w1):=⟨hR,hK1⟩;go_wp2_with fail;apply mR (Dh .nilIface none w1 hg1 rfl);rintro w2 hK2;have hB2:=hK2.hp hB1;have hT2:=hK2.hp hT1;have hB2s:=U hB2;have hT2s:=U hT2;have b10:=Y hB2 10;simp[kob,zG,zH,zI]at b10;have t3:=Y hT2 3;have t8:=Y hT2 8;simp[tob,zG,zH,zI]at t3 t8;rw[(hid hpo).out]at b10;rw[hdn]at t3;rw[hcs]at t8;have hr2:w2.ownsRow base 203 1 f.cs css.length (BK css):=Bp (Bp HRW.out.1 HR.out.2 (fun k' c t fr h1 h2 e=>absurd ((hP k' h2).2 _ _ _ h1) (by rw[e];decide))) hK2 (fun _ _ _ _ _ h=>by cases h);have hsz1:=HR.out.2.size;have hsz2:=hK2.size;have hbs:=HRW.out.2;obtain⟨w4,hw4,hC4,hT4,hK4,hs4⟩:∃w4,w4=w2.alloc (.cells #[ϗ (some ⟨Cb,0,none⟩),ϕ ⟨#[]⟩,.bool false,.int .i64 0] 282)∧Ϙ w4 w2.heap.size (Cz Cb ⟨#[]⟩ false 0)∧Ϙ w4 tb (tob f)∧Kp [] w2 w4∧w4.heap.size=w2.heap.size+1:=⟨_,rfl,μ _ _,ν _ hT2,kF.alloc _,by simp⟩;have hr4:w4.ownsRow base 203 1 f.cs css.length (BK css):=Bp hr2 hK4 (fun _ _ _ _ _ h=>by cases h);obtain⟨v',w6,hr6,hrow6,hgr6,hob6⟩:=PL (w4.alloc (.cells #[ϗ (some ⟨w2.heap.size,0,none⟩)] 203)) base w4.heap.size f.cs css.length (BK css) (ϗ (some ⟨w2.heap.size,0,none⟩)) 195 203 195 (ϗ none) underlying195 WH rfl (World.ownsRow.alloc hr4 _) (by omega) (μ _ _) rfl (by simp;omega);have hC6:=Ds hr4 hgr6 hC4 (by decide);have hT6:=Ds hr4 hgr6 hT4 (by decide);obtain⟨b6,c6,hv6⟩:=DP hrow6;subst hv6;have HOB:Hid (∀i,oB (ϒ b6 (css.length+1) c6)=some i→f.cs.ownBlock=some i∨w1.heap.size≤i):=fun i hi=>(hob6 i hi).imp id (fun h=>by simp at h;omega);have hT6s:=U hT6;rw[hcs]at hr6;rw[hs4,hw4]at hr6;have f8:=ρ hT6 8;have hT6c:=Y hT6 8;simp[tob,zG,zH,zI]at hT6c;rw[hcs]at hT6c
 go_wp2_with (first | (go_at_call 127;refine mR (BN _ _) ?_;rintro w2 rfl) | (at_builtin;(with_reducible refine CC ?_ ?_ hr6 ?_);rfl;rfl))
 go_ret;have hsz:w1.heap.size≤w2.heap.size:=hK2.size;have hKt:Kp [tb] w6 (w6.setCell ⟨tb,8,none⟩ (ϒ b6 (css.length+1) c6)):=kF.sc _;refine⟨rfl,w1,Cb,w2.heap.size,ϒ b6 (css.length+1) c6,tb::f.cs.ownBlock.toList,HR.out.1,HR.out.2,hsz,hKt.ho hC6,ξ hT6 8 _,?_,?_,fun i hi=>?_,HOB.out⟩
 ·have e:BK (css++[w2.heap.size])=BK css++[ϗ (some ⟨w2.heap.size,0,none⟩)]:=by simp[BK]
  rw[e];exact Bp hrow6 hKt (fun k' c t fr h1 h2 e=>by rw[mS h2,hT6]at h1;cases h1;revert e;decide)
 ·exact((((hK2.tr hK4).mono (S':=tb::f.cs.ownBlock.toList) (by simp)).alloc _).grown hgr6 (fun j hj=>.inl (by simp[hj]))).sc _
 ·rcases List.mem_cons.1 hi with h|h
  ·exact .inl h
  ·exact .inr (sU h)
def RowM(w:Ϣ)(base:Nat)(v:Value)(n:Nat)(xs:Ϩ):Prop:=(∀u∈xs,∃p a c,u=Value.slice p a c)/\w.ownsRow base 126 1 v n xs
def PG{w:Ϣ}{base n:Nat}{v:Value}{xs:Ϩ}(h:w.ownsRow base 126 1 v n xs):xs.length=n:=by
 have:=h.1;omega
section
variable {S:Ϥ} {w w':Ϣ} {base n:Nat} {v:Value} {xs:Ϩ}
def RowM.kp(h:RowM w base v n xs)(hK:Kp S w w')(d:∀k c t a,w.heap[k]?=some (ϲ c t a)->k∈S->t≠126):RowM w' base v n xs:=
 ⟨h.1,Bp h.2 hK λk c t a e f b=>d k c t a e f b⟩
def RowM.qM3(h:RowM w base v n xs)(hK:Kp S w w')(d:Apart w S 126):RowM w' base v n xs:=
 h.kp hK λk c t i e f=>by
  let⟨g,u,j,a,b⟩:=d k f;rw[e]at a;cases a;exact b
def RowM.le{a:Nat}(h:RowM w base v n xs)(b:a<=base):RowM w a v n xs:=⟨h.1,Ct h.2 b⟩
def RowM.form(h:RowM w base v n xs):∃p c,v=.slice p n c:=by
 rcases h.2.2 with⟨b,a⟩|⟨g,cap,cur,a,_⟩
 .exact⟨none,0,by rw[b,a]⟩
 .exact⟨_,cap,a⟩
def RowM.qX4(h:RowM w base v (n+1) xs):∃g c,v=.slice (some (ϰ g 0)) (n+1) c:=by
 let⟨g,cap,h⟩:=CN h.2;exact⟨g,cap,h⟩
def RowM.alloc(h:RowM w base v n xs)(o):RowM (w.alloc o) base v n xs:=⟨h.1,World.ownsRow.alloc h.2 o⟩
def RowM.below(h:RowM w base v n xs):∀k,v.ownBlock=some k->base<=k:=λk hk=>(World.ownsRow.lt h.2 k hk).1
end
def Zc{xs:Ϩ}(h:∀u∈xs,∃p a c,u=Value.slice p a c):∀u∈xs,u.oneCell'=true:=λu hu=>by
 obtain⟨p,a,c,rfl⟩:=h u hu;rfl
def PM(w)(base:Nat)(v)(n:Nat)(ty)(xs:Ϩ)(h:RowM w base v n xs)(z:n<=10000000000):
  ∃a w',Sem.run prog (Builtin.append_ #[121,121] ty #[.slice none 0 0,v]) w=.ok a w'/\RowM w' w.heap.size a n xs/\Kp [] w w':=by
 let⟨m,e,i,k,l⟩:=info_parts JF;let⟨c,h⟩:=h;have:=PG h;rcases h.2 with⟨d,b⟩|⟨g,cap,cur,b,q,r,s,t,x,y⟩
 .subst d;subst b;exact⟨_,_,qC0 w ty,⟨c,h.1,.inl ⟨rfl,rfl⟩⟩,Kp.refl _ _⟩
 .subst b;let⟨a,w',f,o,p,A⟩:=run_append_own (P:=prog) w w.heap.size 121 ty 126 m _ 1 24 underlying121 e i k l rfl dC (.slice none 0 0) 0 [] (World.ownsRow_nil _ _ _ _) (ϰ g 0) n cap xs oM (λj u hu=>World.ownsRow.cells h (g:=g) rfl j u hu) (Zc c) (by unfold maxLen;omega) oM (Nat.le_refl _);refine⟨a,w',f,⟨c,sU o⟩,(Kp.refl [] w).grown p (by simp[Value.ownBlock])⟩
def PN(w)(base g:Nat)(v)(n:Nat)(ty)(mp)(d c:Nat)(xs:Ϩ)(h:RowM w base v n xs)(t:n<=10000000000)(f:w.heap[g]?=some (ϲ #[.slice mp d c] 126))(e:base<=w.heap.size):
  ∃b w',Sem.run prog (Builtin.append_ #[121,121] ty #[v,.slice (some (ϰ g 0)) 1 1]) w=.ok b w'/\RowM w' base b (n+1) (xs++[.slice mp d c])/\w.grownBy w' v.ownBlock:=by
 let⟨q,i,m,o,p⟩:=info_parts JF;let⟨l,h⟩:=h;have:=PG h;let⟨b,w',k,r,s,x⟩:=run_append_own (P:=prog) w base 121 ty 126 q _ 1 24 underlying121 i m o p rfl dC v n _ h (ϰ g 0) 1 1 [.slice mp d c] sM (λj u a=>by
  rw[Br,Y f];simpa using a) (by simp[Value.oneCell']) (by unfold maxLen;omega) oM e
 refine⟨b,w',k,⟨?_,r⟩,s⟩;intro u a;rcases List.mem_append.1 a with a|a
 .exact l u a
 .rw[List.mem_singleton.1 a];exact⟨_,_,_,rfl⟩
def La(base m t k g:Nat)(pm pw)(n:Int)(e s i:Bool)(mp)(f d:Nat)(w){L K:Ϩ}(hm:RowM w base (.slice pm m t) m L)(a:RowM w base (.slice pw k g) k K)(ar:m<=5000000000)(aq:k<=100000):
  Ω 130 #[.agg #[ϊ n,.slice pm m t,ϐ e,.slice pw k g,ϐ s,ϐ i],.agg #[.slice mp f d]] w λr w'=>∃gm cm' gw cw',r=ϱ (.agg #[ϊ n,.slice (some (ϰ gm 0)) (m+1) cm',ϐ e,.slice (some (ϰ gw 0)) (k+1) cw',ϐ s,ϐ i])/\
   RowM w' w.heap.size (.slice (some (ϰ gm 0)) (m+1) cm') (m+1) (L++[.slice mp f d])/\RowM w' w.heap.size (.slice (some (ϰ gw 0)) (k+1) cw') (k+1) (K++[.slice mp f d])/\Kp [] w w':=by
 -- the three boxes
 let⟨M,ae,C,N,O,F,au⟩:=alD w (ϲ #[ϊ n,ϒ pm m t,ϐ e,ϒ pw k g,ϐ s,ϐ i] 123) (ϲ #[ϒ mp f d] 126) (ϲ #[ϊ 0,ϒ none 0 0,ϐ false,ϒ none 0 0,ϐ false,ϐ false] 123)
 have aj:=hm.qM3 F (by intro k h;simp at h);have ah:=a.qM3 F (by intro k h;simp at h)
 -- the first two appends
 let⟨v1,Z,Q,H,o⟩:=PM M base (ϒ pm m t) m 121 _ aj oM;obtain⟨p1,c1,rfl⟩:=H.form;have:=o.hp C;have aa:=o.hp N;have ao:=o.hp O;have:=o.size;let⟨v2,w2,ak,T,af⟩:=PN (Z.alloc (ϲ #[ϒ mp f d] 126)) M.heap.size Z.heap.size (ϒ p1 m c1) m 121 mp f d _ (H.alloc _) oM (μ _ _) sO;obtain⟨l,j,rfl⟩:=T.qX4;have p:=(o.alloc _).grown af (λk a=>Or.inr (H.below k a));have u:=p.hp C;have:=ah.qM3 p (by intro k h;simp at h)
 -- the first is kept
 obtain⟨c,W,D,ab,P,G,av⟩:∃c,c=w2.setCell (ϰ w.heap.size 1) (ϑ l 0 (m+1) j)/\Ϙ c w.heap.size (ϲ #[ϊ n,ϑ l 0 (m+1) j,ϐ e,ϒ pw k g,ϐ s,ϐ i] 123)/\c.heap[w.heap.size+1]?=some (ϲ #[ϒ mp f d] 126)/\c.heap[w.heap.size+1+1]?=some (ϲ #[ϊ 0,ϒ none 0 0,ϐ false,ϒ none 0 0,ϐ false,ϐ false] 123)/\Kp [] w c/\c.heap.size=w2.heap.size:=
  ⟨_,rfl,ξ u 1 _,(AM oM _ _).trans (p.hp N),(AM oM _ _).trans (p.hp O),(F.tr p).setCell (Or.inr sM) _,by simp[World.setCell]⟩
 have ai:RowM c base (ϒ pw k g) k K:=by
  refine a.qM3 G (by intro k h;simp at h)
 -- the other two
 let⟨v5,w5,R,I,q⟩:=PM c base (ϒ pw k g) k 121 _ ai oM;obtain⟨p5,c5,rfl⟩:=I.form;have an:=q.hp D;have ac:=q.hp ab;have ap:=q.hp P;have:=q.size;let⟨v6,z,al,V,ag⟩:=PN (w5.alloc (ϲ #[ϒ mp f d] 126)) c.heap.size w5.heap.size (ϒ p5 k c5) k 121 mp f d _ (I.alloc _) oM (μ _ _) sO;obtain⟨B,A,rfl⟩:=V.qX4;have x:=(q.alloc _).grown ag (λk a=>Or.inr (I.below k a));have E:=x.hp D;have y:=x.hp P;have am:RowM z w.heap.size (ϑ l 0 (m+1) j) (m+1) (L++[ϒ mp f d]):=((T.le oM).qM3 (S:=[w.heap.size]) (w':=c) (by rw[W];exact kF.sc _) (λk a=>by rw[mS a];exact⟨_,_,_,u,dC⟩)).qM3 x (by intro k h;simp at h);have x1:=Y C 1;have y0:=Y aa 0;have z1:=Y u 1;have:=ρ u 1;have X:=Y D 3;have t0:=Y ac 0;have:=Y E;have:=Y y;have:=ρ y;have:=ρ E 3;simp[zG,zH,zI]at x1 y0 z1 X t0;rw[W]at R X;rw[ae]at Q x1;go_enter func130,ntmps130
 go_wp2_with (at_builtin;first | ((with_reducible refine Ft ?_ ?_ Q ?_);rfl;rfl) | ((with_reducible refine Ft ?_ ?_ ak ?_);rfl;rfl) | ((with_reducible refine Ft ?_ ?_ R ?_);rfl;rfl) | ((with_reducible refine Ft ?_ ?_ al ?_);rfl;rfl))
 have ad:=(AM (w:=z) (b:=w.heap.size) (k:=w.heap.size+1+1) oM 3 (ϑ B 0 (k+1) A)).trans y;refine bodyPost_ret (results_cell_row results130 _ _ (w.heap.size+1+1) 123 #[ϊ n,ϑ l 0 (m+1) j,ϐ e,ϑ B 0 (k+1) A,ϐ s,ϐ i] (0,0) _ rfl (ξ (ξ (ξ (ξ (ξ (ξ ad 0 _) 1 _) 2 _) 3 _) 4 _) 5 _) underlying123 rfl kR) rfl ⟨l,j,B,A,rfl,?_,?_,?_⟩
 rotate_right
 .exact (((((((G.tr x).setCell (Or.inr sM) _).setCell (Or.inr sO) _).setCell (Or.inr sO) _).setCell (Or.inr sO) _).setCell (Or.inr sO) _).setCell (Or.inr sO) _).setCell (Or.inr sO) _
 all_goals
  refine(by first | exact am | exact V.le G.size:RowM z w.heap.size _ _ _).qM3 (S:=[w.heap.size,w.heap.size+1+1]) (((((((((Kp.refl _ z).sc _).sc _).sc _).sc _).sc _).sc _).sc _)) ?_;intro k a;rcases List.mem_cons.1 a with rfl|a
  .exact⟨_,_,_,E,dC⟩
  .rw[mS a];exact⟨_,_,_,y,dC⟩
def Kx(base m p k q:Nat)(pm pw)(n:Int)(e f b:Bool)(mp)(j g:Nat)(w){V A:Ϩ}(L:RowM w base (.slice pm m p) m V)(x:RowM w base (.slice pw k q) k A)(M:m<=5000000000)(I:k<=100000):
  Ω 129 #[.agg #[ϊ n,.slice pm m p,ϐ e,.slice pw k q,ϐ f,ϐ b],.agg #[.slice mp j g]] w λr w'=>∃t d c,r=ϱ (.agg #[ϊ n,.slice (some (ϰ t 0)) 1 1,ϐ false,.slice (some (ϰ d 0)) (k+1) c,ϐ f,ϐ b])/\
   w'.ownsRow w.heap.size 126 1 (.slice (some (ϰ t 0)) 1 1) 1 [.slice mp j g]/\RowM w' w.heap.size (.slice (some (ϰ d 0)) (k+1) c) (k+1) (A++[.slice mp j g])/\Kp [] w w':=by
 obtain⟨B,G,Z,D,F,u,R⟩:=alD w (ϲ #[ϊ n,ϒ pm m p,ϐ e,ϒ pw k q,ϐ f,ϐ b] 123) (ϲ #[ϒ mp j g] 126) (ϲ #[ϊ 0,ϒ none 0 0,ϐ false,ϒ none 0 0,ϐ false,ϐ false] 123)
 have N:=L.qM3 u (by intro k h;simp at h);have K:=x.qM3 u (by intro k h;simp at h);go_enter func129,ntmps129;go_wp2_with fail;rw[<-G];refine(La base m p k q pm pw n e f b mp j g B N K M I).mono ?_;rintro r a ⟨t,X,d,c,rfl,_,O,s⟩;have z:=s.hp D;have o:=s.hp F;have:=zh s.size;have W:=Y z 0;have:=Y o;simp[zG,zH,zI]at W;have:=U z;have:=U o;have:=ρ o;go_wp2;obtain⟨l,T,E,y,Q⟩:∃l,l=(((((a.setCell (ϰ (w.heap.size+1+1) 0) (ϊ n)).setCell (ϰ (w.heap.size+1+1) 1) (ϑ (a.heap.size+1) 0 1 1)).setCell (ϰ (w.heap.size+1+1) 2) (ϐ false)).setCell (ϰ (w.heap.size+1+1) 3) (ϑ d 0 (k+1) c)).setCell (ϰ (w.heap.size+1+1) 4) (ϐ f)).setCell (ϰ (w.heap.size+1+1) 5) (ϐ b)/\l.heap[w.heap.size+1+1]?=some (ϲ #[ϊ n,ϑ (a.heap.size+1) 0 1 1,ϐ false,ϑ d 0 (k+1) c,ϐ f,ϐ b] 123)/\Kp [w.heap.size+1+1] a l/\l.heap.size=a.heap.size:=
  ⟨_,rfl,ξ (ξ (ξ (ξ (ξ (ξ o 0 _) 1 _) 2 _) 3 _) 4 _) 5 _,((((((Kp.refl _ a).sc _).sc _).sc _).sc _).sc _).sc _,by simp[World.setCell]⟩
 rw[<-T];have P:=O.qM3 y (λk x=>by rw[mS x];exact⟨_,_,_,o,dC⟩);have C:=(u.tr s).trans y (λi H aa=>by simp at H;omega);refine bodyPost_ret (results_cell_row results129 _ _ (w.heap.size+1+1) 123 #[ϊ n,ϑ (a.heap.size+1) 0 1 1,ϐ false,ϑ d 0 (k+1) c,ϐ f,ϐ b] (0,0) _ rfl (ν _ (ν _ E)) underlying123 rfl kR) rfl ⟨a.heap.size+1,d,c,rfl,?_,((P.alloc _).alloc _).le (oW R),(C.alloc _).alloc _⟩;refine⟨sM,.inr ⟨a.heap.size+1,1,#[ϒ mp j g],rfl,oM,?_,lR,by unfold maxLen;omega,rfl,rfl⟩⟩;simpa [Q] using(μ (l.alloc (ϲ #[ϊ n,ϑ (a.heap.size+1) 0 1 1,ϐ false,ϑ d 0 (k+1) c,ϐ f,ϐ b] 123)) (ϲ #[ϒ mp j g] 126))
open Go.Maps (Keyed)
def Zn{k:ϩ}{e:Ending}(h:e=Al k):(e=ϱ (.tuple #[])/\k=none)\/∃c,e=.panicked c:=by
 cases k with
 | none=>exact .inl ⟨h,rfl⟩
 | some k=>exact .inr ⟨_,h⟩
def MD(args)(W):Sem.run prog (callFunc 68 args) W=.ok (.enter 68 args) W:=by
 simp[go_sem,func68]
def HU{w:Ϣ}{a b:Nat}{c d:ϧ}{t u:Ϯ}{g i:Nat×Nat}(j:w.heap[a]?=some (ϲ c t g))(f:w.heap[b]?=some (ϲ d u i))(h:t≠u):a≠b:=λe=>by
 subst e;rw[j]at f;cases f;exact h rfl
def Tu(g x n V:Nat)(t)(s)(D)(R:ϩ->Ϣ->ϯ)(w)(f:w.heap[g]?=some (ϲ #[ϖ x] 32))(c:w.heap[x]?=some (Ac t))(l:w.heap[t.St]?=some (η 1 s))(F:RM w s.V s.M n D)(B:0<=t.nr)(C:t.nr<=1000000000)(G:s.M≠t.St)(O:x≠t.St)(N:x≠s.M)(H:g≠s.M)(Z:s.M<w.heap.size)(K:t.on=some (ϰ V 0))(M:t.wrt=true)
  (I:∀W:Ϣ,Kp [t.St,x,s.M] w W->W.heap[x]?=some (Ac t.ended)->W.heap[t.St]?=some (η 1 (s.left t.nr))->RM W s.V s.M n (D.del (χ t.nr))->Ω 70 #[ϖ t.St,θ V t.h] W λe w'=>∃k,e=Al k/\R k W w'):
  Ω 68 #[ϖ g] w λe w'=>∃k,e=Al k/\∃W,Kp [t.St,x,s.M] w W/\W.heap[x]?=some (Ac t.ended)/\W.heap[t.St]?=some (η 1 (s.left t.nr))/\RM W s.V s.M n (D.del (χ t.nr))/\R k W w':=by
 have:=U c;have:=U f;have:=U l;have:=ϻ f 0;have T:=ϻ c 4;have:=ϻ c 5;have:=ϻ c 6;have:=ϻ c 7;have:=ϻ c 8;rw[K]at T;go_enter func68,ntmps68;go_wp2_with fail;let⟨Q,L,E,i,aa⟩:=alB w (ϲ (ϟ V t.h) 89);rw[<-L];let⟨P,n2,n3,n4,n5,n6⟩:=(zh (n6 G O N H (HU f c dC) (HU f l dC))).out;refine mR (ER x n t s D Q (i.hp c) (i.hp l) (F.kp i sM) B C P n2 n3) ?_;rintro a ⟨d,v,r,q⟩;have j:=(i.mono sM).trans q (λ_ h _=>h);have m:=j.heap f (by simp;exact⟨n6,n5,n4⟩);have p:=q.ho E;have:=U m;have:=U d;have:=U p;have:=ϻ m 0;have S:=Y d 0;have A:=Y d 2;simp[Ac,Tx.ended,zG,zH,zI]at S A;rw[M]at A;have o:=zh (I a.drew j.drew d v (r.kp ((Kp.refl [] a).drew) sM));have b:Hid (Kp [t.St,x,s.M] w a.drew/\Ϙ a.drew x (Ac t.ended)/\Ϙ a.drew t.St (η 1 (s.left t.nr))/\RM a.drew s.V s.M n (D.del (χ t.nr))):=⟨j.drew,d,v,r.kp ((Kp.refl [] a).drew) sM⟩;have y:Ϙ a.drew g (ϲ #[ϖ x] 32)/\Ϙ a.drew x (Ac t.ended)/\Ϙ a.drew (ϳ w) (ϲ (ϟ V t.h) 89):=⟨m,d,p⟩;go_wp2_with fail;have:=Y y.2.2;have:=y.2.2;rw[θ]at o
 go_region_with (go_at_call 70;go_must (refine(show Calls _ _ _ _ _ from o).mono ?_);rintro e w2 ⟨k,z,u⟩;rcases Zn z with⟨rfl,rfl⟩ | ⟨X,rfl⟩;rotate_left;(go_wp2;exact⟨rfl,k,z,a.drew,b.1,b.2.1,b.2.2.1,b.2.2.2,u⟩))
 all_goals
  go_wp2
  go_end0
  exact⟨none,rfl,a.drew,b.1,b.2.1,b.2.2.1,b.2.2.2,hid u⟩
def Qh(x n V:Nat)(t)(s)(D)(X)(R:ϩ->Sto->Ϣ->ϯ)(w)(u:w.heap[x]?=some (Ac t))(T:t.over=false)(F:w.heap[t.St]?=some (η 0 s))(aa:s.po=false)(P:RM w s.V s.M n D)(M:0<=t.nr)(N:t.nr<=1000000000)(E:s.M≠t.St)(y:x≠t.St)(ad:x≠s.M)(ae:s.M<w.heap.size)(Z:t.on=some (ϰ V 0))(ac:t.wrt=true)(G:∀i∈X,i<w.heap.size)
  (H:∀W:Ϣ,Kp [t.St,x,s.M] w W->W.heap[x]?=some (Ac t.ended)->W.heap[t.St]?=some (η 1 (s.left t.nr))->RM W s.V s.M n (D.del (χ t.nr))->Ω 70 #[ϖ t.St,θ V t.h] W λe w'=>∃k a,k≠some 8/\e=Al k/\R k a W w'/\Kp (t.St::X) W w'/\w'.heap[t.St]?=some (η 1 a)):
  Ω 31 #[ϖ x] w λe w'=>∃k a v,e=ϱ v/\ErrV w' v k/\w'.heap[t.St]?=some (η 0 (a.aft k))/\Kp (t.St::x::s.M::X) w w'/\∃W b B,Kp [t.St,x,s.M] w W/\W.heap[x]?=some (Ac t.ended)/\W.heap[t.St]?=some (η 1 (s.left t.nr))/\RM W s.V s.M n (D.del (χ t.nr))/\R k a W b/\Kp (t.St::X) W b/\b.heap[t.St]?=some (η 1 a)/\w.heap.size<=B/\b.heap[B]?=some (ϲ #[.nilIface] 38)/\Kp [t.St,B] b w':=by
 have:=zM;have:=U u;have:=U F;let⟨w0,ab,O,p,af⟩:=AZ w (ϲ #[ϖ x] 32);have C:=hid (EV x t.St 68 t s #[] #[ϖ w.heap.size] (ByteArray.mk #[67,111,109,109,105,116]) (x::s.M::X) (λk a _ b=>∃W,Kp [t.St,x,s.M] w W/\Ϙ W x (Ac t.ended)/\Ϙ W t.St (η 1 (s.left t.nr))/\RM W s.V s.M n (D.del (χ t.nr))/\R k a W b/\Kp (t.St::X) W b) w0 (p.hp u) T rfl (p.hp F) (λh=>by rw[aa]at h;cases h) y (MD _) (by intro i c;simp at c;rcases c with rfl | rfl | c;omega;omega;have:=G i c;omega) (by
  intro _ W hK Q;have l:=(p.mono sM).trans hK (λ_ h _=>h);have S:w.heap.size≠t.St:=oM
  refine(Tu w.heap.size x n V t s D (λk W w'=>∃a,k≠some 8/\R k a W w'/\Kp (t.St::X) W w'/\Ϙ w' t.St (η 1 a)) W (hK.heap O (by simp;exact S)) (l.heap u (by simp;exact y)) Q (P.kp l (by simp;exact E)) M N E y ad oM (oW l.size) Z ac ?_).mono ?_
  .intro r o d f g;exact(H r ((l.mono sM).trans o (λ_ h _=>h)) d f g).mono λe b ⟨k,a,z,A,q3⟩=>⟨k,A,a,z,q3⟩
  .rintro e b ⟨k,A,r,o,d,f,g,a,z,m,j,L⟩;refine⟨k,a,z,A,⟨r,(l.mono sM).trans o (λ_ h _=>h),d,f,g,m,j⟩,?_,L⟩;refine(o.mono ?_).trans j ?_
   .intro i c;simp at c |-;omega
   .intro i c _;simp at c |-;rcases c with h | h<;>simp[h]))
 clear H G;go_enter func31,ntmps31;go_wp2_with fail;rw[<-ab];refine(show Calls _ _ _ _ _ from C).mono ?_;rintro e q ⟨k,a,v,rfl,hv,hs2,hK2,W0,b,B,⟨W,d,f,g,e4,m,j⟩,hKW,hB1,hB2,hB3,hKB,hs1⟩;have K:=hid (show ∃k a I,Ending.returned v=ϱ I/\ErrV q I k/\Ϙ q t.St (η 0 (a.aft k))/\Kp (t.St::x::s.M::X) w q/\∃W b B,Kp [t.St,x,s.M] w W/\Ϙ W x (Ac t.ended)/\Ϙ W t.St (η 1 (s.left t.nr))/\RM W s.V s.M n (D.del (χ t.nr))/\R k a W b/\Kp (t.St::X) W b/\Ϙ b t.St (η 1 a)/\w.heap.size<=B/\Ϙ b B (ϲ #[.nilIface] 38)/\Kp [t.St,B] b q from
  ⟨k,a,v,rfl,hv,hs2,(p.mono sM).trans hK2 (λ_ h _=>h),W,b,B,d,f,g,e4,m,j,hs1,oM,hB3,hKB⟩)
 clear hv hs2 hK2 d f g e4 m j hs1 hKW hB3 hKB C;go_wp2;go_ret;exact K
variable {κ:Nat}
def qM0(k:Nat):∀v∈(Builtin.zeroCells zeroCells115 k).toList,v=.int .u8 0:=by
 intro v hv;unfold Builtin.zeroCells at hv;simp only[Array.toList_map,List.mem_map]at hv;obtain⟨i,_,rfl⟩:=hv;have hlt:i % zeroCells115.size<zeroCells115.size:=Nat.mod_lt _ (by rw[IF];decide);rw[getElem!_pos zeroCells115 (i % zeroCells115.size) hlt];exact Lo _ sM
def qL9(k:Nat):Builtin.zeroCells zeroCells115 k=enc (List.replicate (k*128) 0):=by
 apply Array.ext';have h1:(Builtin.zeroCells zeroCells115 k).toList.length=k*128:=by rw[Array.length_toList,size_zeroCells,IF]
 have e:=List.eq_replicate_iff.2 ⟨h1,qM0 k⟩;rw[e];simp[enc,Ay]
def pad(l:List UInt8)(N z:Nat):List UInt8:=l.take (N*128)++List.replicate (z*128) 0
def ZC{l}{N z:Nat}(h:N*128<=l.length):(pad l N z).length=(N+z)*128:=by simp[pad];omega
def ZB{l}{N z k:Nat}(h:N*128<=l.length)(a:k<N):τ (pad l N z) k=τ l k:=by
 unfold τ pad;rw[List.drop_append_of_le_length sO,List.take_append_of_le_length sO,List.drop_take,List.take_take]
 congr 1
 omega
def Rw(N C κ:Nat)(p)(l)(w)(E:N<=1000)(e:1<=N->p=some (ϰ C 0))(m:w.heap[C]?=some (ϲ (enc l) 115))(d:N*128<=l.length):
  ∃r s g a l',Sem.run prog (Builtin.append_ #[111,111] 111 #[.slice none 0 0,.slice p N κ]) w=.ok (.slice r N s) g/\Kp [] w g/\(1<=N->(r=some (ϰ a 0)/\s=l'.length / 128)/\w.heap.size<=a)/\(a=C\/w.heap.size<=a)/\g.heap[a]?=some (ϲ (enc l') 115)/\N*128<=l'.length/\∀k,k<N->τ l' k=τ l k:=by
 let⟨i,n,o⟩:=Option.map_eq_some_iff.1 JG;simp[Prod.mk.injEq]at o;let⟨B,A,u⟩:=o;rcases Nat.eq_zero_or_pos N with rfl|t
 .refine⟨none,0,w,C,l,?_,Kp.refl _ _,λh=>absurd h oM,.inl rfl,m,d,λk c=>absurd c oM⟩;cases p<;>simp[Builtin.append_,run_underlying underlying111,sizeOf,typeInfo,n,Builtin.lenOf,Builtin.firstCells,loadCells,loadCellsFrom]
 have e:=e t;subst e;have f:=run_append_nil (P:=prog) w 111 111 115 i (.agg zeroCells115) underlying111 n B (ϰ C 0) N κ (Ay (l.take (N*128))) (by rw[A];simp[Ay];omega) (λj v b=>by
  have y:(Ay l)[j]?=some v:=by
   unfold Ay at b |-;rw[List.map_take,List.getElem?_take]at b;split at b
   .exact b
   .cases b
  rw[show((ϰ C 0):Addr).add j=(ϰ C j) by simp[Addr.add];omega,Y m j];simpa [enc] using y) oM oM (by rw[u];omega)
 have:=grownCap_ge w N 0 115;obtain⟨z,D⟩:∃z,grownCap w N 0 115=N+z:=⟨grownCap w N 0 115-N,oM⟩;rw[D,show N+z-N=z by omega,show(Value.agg zeroCells115).cells=zeroCells115 from rfl,qL9]at f;have x:(Ay (l.take (N*128))).toArray++enc (List.replicate (z*128) 0)=enc (pad l N z):=by simp[enc,Ay,pad]
 rw[x]at f;have q:=ZC (z:=z) d;exact⟨_,_,_,w.heap.size,pad l N z,f,((Kp.refl [] w).drew).alloc _,λ_=>⟨⟨rfl,by rw[q];omega⟩,lR⟩,.inr lR,μ w.drew _,by rw[q];omega,λk c=>ZB d c⟩
end Go.Proofs.YtdohpenfkdckiaaGreatDoor
