import Derived.Test.YtdohpenfkdckiaaGreatDoorJ04
set_option linter.all false
set_option maxRecDepth 100000
set_option maxHeartbeats 20000000
namespace Go.Proofs.YtdohpenfkdckiaaGreatDoor
open Go.Proofs.Tryz
open Go.RowKit
theorem xQ0(g:Nat)(cap)(n:Nat)(P:Nat->Bool)(w)(A:n<=1000000)(l:∀ i j,i<=j->j<n->P i=true->P j=true)
  (v:∀ (args) (W),Sem.run prog (callFunc g args) W=.ok (.enter g args) W)
  (d:∀ W,Kp [] w W->∀ i:Nat,i<n->Calls prog g (#[.int .i64 i]++cap) W λe W'=>e=.returned (.bool (P i))/\Kp [] W W'):
  Calls prog 213 #[.int .i64 n,.func (.func g) #[] cap] w λe u=>∃ i:Nat,e=.returned (.int .i64 i)/\(i<=n/\(∀ j,j<i->P j=false)/\(i<n->P i=true))/\Kp [] w u:=by
 have m:=zh d;have o:=zh l;clear d l;go_enter func213,ntmps213;go_wp2
 go_loopw [5,6] (λs q wr=>∃ (i j:Nat),i<=j/\j<=n/\s=.int .i64 i/\q=.int .i64 j/\Hid ((∀ k,k<i->P k=false)/\(j<n->P j=true))/\Kp [] w wr) (λs q _=>(intOf q-intOf s).toNat)
 case atStart=>exact⟨0,n,oM,lR,rfl,rfl,⟨λk t=>by omega,λh=>by omega⟩,Kp.refl _ _⟩
 case round=>
  obtain⟨i,j,x,y,rfl,rfl,a,hK⟩:=hrel;by_cases z:i<j
  .obtain⟨h,r⟩:∃ h:Nat,((i:Int)+j) / 2=h:=⟨(i+j) / 2,oM⟩;go_wp2_with fail
   try simp only[r]
   refine (m wr hK h oM).mono ?_;rintro e B ⟨rfl,p⟩;have c:=hK.tr p;by_cases b:P h=true
   .rw[b];go_wp2;refine⟨⟨i,h,oM,oM,rfl,rfl,⟨a.out.1,λ_=>b⟩,c⟩,by simp[intOf];omega⟩
   .have f:P h=false:=by simpa using b
    rw[f];go_wp2;refine⟨⟨h+1,j,oM,oM,by go_num,rfl,⟨λk t=>?_,a.out.2⟩,c⟩,by simp[intOf];omega⟩;by_cases e:P k=true
    .have:=o.out k h oM oM e;rw[f] at this;cases this
    .simpa using e
  .go_wp2;go_ret;have e:j=i:=oM
   subst e;exact⟨j,rfl,⟨oM,a.out.1,a.out.2⟩,hK⟩
theorem xF7{α:Type}{xs:List α}{f:α->Bool}{i:Nat}(d:i<=xs.length)(b:∀ j (h:j<xs.length),j<i->f xs[j]=false)(c:∀ h:i<xs.length,f xs[i]=true):i=xs.findIdx f:=by
 rcases Nat.lt_trichotomy i (xs.findIdx f) with h|h|h
 .have e:xs.findIdx f<=xs.length:=fL;have:=List.not_of_lt_findIdx (p:=f) (xs:=xs) h;rw[c oM] at this;simp at this
 .exact h
 .have a:xs.findIdx f<xs.length:=oM
  have:=List.findIdx_getElem (p:=f) (xs:=xs) (w:=a);rw[b _ a h] at this;cases this
def Apt(w:World)(S:List Nat)(Ts:List TypeId):Prop:=∀ k∈S,∀ c t fr,w.heap[k]?=some (.cells c t fr)→t ∉ Ts
structure Slc(w:World)(T:TypeId)(sz:Nat)(v:Value)(n:Nat)(cs:List Value):Prop where
 len:cs.length=n*sz
 val:(n=0∧∃ b c,v=.slice b 0 c∧(b=none→c=0))∨∃ g off cap cur fr,v=.slice (some ⟨g,off,none⟩) n cap∧1≤n∧n≤cap∧w.heap[g]?=some (.cells cur T fr)∧∀ j u,cs[j]?=some u→cur[off+j]?=some u
theorem Slc.keep{w w'}{T}{sz:Nat}{v}{n:Nat}{cs:List Value}{S}(h:Slc w T sz v n cs)(hK:Kp S w w')(i:Apt w S [T]):Slc w' T sz v n cs:=by
 refine⟨h.len,?_⟩;rcases h.val with h|⟨g,k,cap,cur,b,c,d,e,a,f⟩
 .exact .inl h
 .exact .inr ⟨g,k,cap,cur,b,c,d,e,hK.heap a (λj=>i g j _ _ _ a sM),f⟩
theorem Apt.nil(w)(Ts:List TypeId):Apt w [] Ts:=λk a=>by simp at a
theorem Slc.keep0{w w'}{T}{sz:Nat}{v}{n:Nat}{cs:List Value}(h:Slc w T sz v n cs)(hK:Kp [] w w'):Slc w' T sz v n cs:=h.keep hK (Apt.nil _ _)
def pcs(p:KV):List Value:=[.string p.k,.string p.v]
def qA4(ps:List KV):List Value:=ps.flatMap pcs
theorem qR1(ps):(qA4 ps).length=ps.length*2:=by
 induction ps with
 | nil=>rfl
 | cons p ps ih=>simp[qA4,pcs] at *;omega
theorem qR7{ps}{i:Nat}(h:i<ps.length):(qA4 ps)[i*2]?=some (.string ps[i].k)/\(qA4 ps)[i*2+1]?=some (.string ps[i].v):=by
 induction ps generalizing i with
 | nil=>simp at h
 | cons p ps ih=>
  cases i with
  | zero=>simp[qA4,pcs]
  | succ i=>
   have:=ih (i:=i) (by simpa using h);have a:(qA4 (p::ps))[(i+1)*2]?=(qA4 ps)[i*2]?:=by
    rw[show qA4 (p::ps)=.string p.k::.string p.v::qA4 ps from rfl,show (i+1)*2=i*2+1+1 by omega];simp
   have b:(qA4 (p::ps))[(i+1)*2+1]?=(qA4 ps)[i*2+1]?:=by
    rw[show qA4 (p::ps)=.string p.k::.string p.v::qA4 ps from rfl,show (i+1)*2+1=i*2+1+1+1 by omega];simp
   rw[a,b];simpa using this
theorem Slc.pair{w}{v}{ps}(h:Slc w 185 2 v ps.length (qA4 ps))(m:1<=ps.length):
  ∃ g a cap cur b,v=.slice (some ⟨g,a,none⟩) ps.length cap/\ps.length<=cap/\w.heap[g]?=some (.cells cur 185 b)/\∀ i (h:i<ps.length),cur[a+i*2]?=some (.string ps[i].k)/\cur[a+i*2+1]?=some (.string ps[i].v):=by
 rcases h.val with⟨k,_⟩|⟨g,a,cap,cur,b,e,l,f,j,c⟩
 .omega
 .exact⟨g,a,cap,cur,b,e,f,j,λi d=>⟨c _ _ (qR7 d).1,c _ _ (qR7 d).2⟩⟩
structure HL where
 key:ByteArray
 b:Int
 s:Int
 p:Option Nat
def HL.ptr(l:HL):Option Addr:=l.p.map fun q=>⟨q,0,none⟩
def lcs(l:HL):List Value:=[.string l.key,.int .i64 l.b,.int .u64 l.s,.pointer l.ptr]
def qA9(ls:List HL):List Value:=ls.flatMap lcs
theorem zP8(ls):(qA9 ls).length=ls.length*4:=by
 induction ls with
 | nil=>rfl
 | cons p ps ih=>simp[qA9,lcs] at *;omega
theorem qW4{ls}{i:Nat}(h:i<ls.length):(qA9 ls)[i*4]?=some (.string ls[i].key)/\(qA9 ls)[i*4+1]?=some (.int .i64 ls[i].b)/\(qA9 ls)[i*4+2]?=some (.int .u64 ls[i].s)/\(qA9 ls)[i*4+3]?=some (.pointer ls[i].ptr):=by
 induction ls generalizing i with
 | nil=>simp at h
 | cons p ps ih=>
  cases i with
  | zero=>simp[qA9,lcs]
  | succ i=>
   have:=ih (i:=i) (by simpa using h);have e:∀ c,(qA9 (p::ps))[(i+1)*4+c]?=(qA9 ps)[i*4+c]?:=λc=>by
    rw[show qA9 (p::ps)=.string p.key::.int .i64 p.b::.int .u64 p.s::.pointer p.ptr::qA9 ps from rfl,show (i+1)*4+c=i*4+c+1+1+1+1 by omega];simp
   have a:=e 0;rw[Nat.add_zero,Nat.add_zero] at a;rw[a,e 1,e 2,e 3];simpa using this
theorem Slc.link{w}{v}{ls}(h:Slc w 87 4 v ls.length (qA9 ls))(m:1<=ls.length):
  ∃ g a cap cur d,v=.slice (some ⟨g,a,none⟩) ls.length cap/\ls.length<=cap/\w.heap[g]?=some (.cells cur 87 d)/\∀ i (h:i<ls.length),cur[a+i*4]?=some (.string ls[i].key)/\cur[a+i*4+1]?=some (.int .i64 ls[i].b)/\cur[a+i*4+2]?=some (.int .u64 ls[i].s)/\cur[a+i*4+3]?=some (.pointer ls[i].ptr):=by
 rcases h.val with⟨k,_⟩|⟨g,a,cap,cur,d,e,l,f,j,b⟩
 .omega
 .exact⟨g,a,cap,cur,d,e,f,j,λi c=>⟨b _ _ (qW4 c).1,b _ _ (qW4 c).2.1,b _ _ (qW4 c).2.2.1,b _ _ (qW4 c).2.2.2⟩⟩
theorem jJ0(g F L:Nat)(cap)(v)(ps)(f:KV->Bool)(i:Nat)(w)(l:w.heap[F]?=some (.cells #[.func (.func g) #[] cap] 215))(m:w.heap[L]?=some (.cells #[v] 186))
  (r:Slc w 185 2 v ps.length (qA4 ps)) (A:i<ps.length) (G:ps.length<=1000000)
  (D:∀ (args) (W),Sem.run prog (callFunc g args) W=.ok (.enter g args) W)
  (p:∀ W,Kp [] w W->Calls prog g (#[.agg #[.string ps[i].k,.string ps[i].v]]++cap) W λe W'=>e=.returned (.bool (f ps[i]))/\Kp [] W W'):
  Calls prog 214 #[.int .i64 i,.pointer (some ⟨F,0,none⟩),.pointer (some ⟨L,0,none⟩)] w λe B=>e=.returned (.bool (f ps[i]))/\Kp [] w B:=by
 obtain⟨h,d,k,cur,y,rfl,E,q,o⟩:=r.pair oM;obtain⟨c0,x⟩:=o i A;have s:=zh p;clear p r o;go_enter func214,ntmps214;go_wp2_with fail;have b:=n3 l m q;refine wp_region_held_drew (S:=λW=>Ϙ W F (.cells #[.func (.func g) #[] cap] 215)/\Ϙ W L (.cells #[.slice (some ⟨h,d,none⟩) ps.length k] 186)/\Ϙ W h (.cells cur 185 y)) kR b (λ_=>?_);refine zV 0 (.func (.func g) #[] cap) rfl (λW a=>by have c:=ξ a.1 0;simp at c;clear a;go_simp) b ?_;refine zV 1 (.slice (some ⟨h,d,none⟩) ps.length k) rfl (λW a=>by have c:=ξ a.2.1 0;simp at c;clear a;go_simp) b ?_;refine zU 2 (ϊ i) b ?_;refine zU 3 (.pointer (some ⟨h,d+i*2,none⟩)) b ?_;refine zV 4 (.agg #[.string ps[i].k,.string ps[i].v]) rfl (λW a=>by have t:=ξ a.2.2 (d+i*2);rw[c0] at t;have u:=ξ a.2.2 (d+i*2+1);rw[x] at u;clear a;go_simp) b ?_;refine zq 5 λK hK=>?_;go_simp;refine (s w.drew (kF.drew)).mono ?_;rintro e C ⟨rfl,z⟩;have j:Kp [] w C:=((Kp.refl _ w).drew).tr z;have n:=And.intro (j.hp l) (And.intro (j.hp m) (j.hp q));refine zk hK n ?_
 refine zq 6 λK hK=>?_;go_simp;refine hK.out _ _ n (λ_=>?_);refine zd ?_;go_wp2;go_ret;exact⟨rfl,j⟩
theorem xD2(g:Nat)(cap)(v)(ps)(f:KV->Bool)(w)
  (t:Slc w 185 2 v ps.length (qA4 ps)) (s:ps.length<=1000000) (u:∀ i j (a:i<ps.length) (k:j<ps.length),i<=j->f ps[i]=true->f ps[j]=true)
  (E:∀ (args) (W),Sem.run prog (callFunc g args) W=.ok (.enter g args) W)
  (r:∀ W,Kp [] w W->∀ i (h:i<ps.length),Calls prog g (#[.agg #[.string ps[i].k,.string ps[i].v]]++cap) W λe l=>e=.returned (.bool (f ps[i]))/\Kp [] W l):
  Calls prog 146 #[v,.func (.func g) #[] cap] w λe J=>e=.returned (.int .i64 (ps.findIdx f:Nat))/\Kp [] w J:=by
 have M:=zM;obtain⟨n,o,I⟩:∃ n o,v=.slice n ps.length o:=by
  rcases t.val with⟨A,b,c,d,_⟩|⟨g,N,cap,cur,L,d,_⟩
  .rw[A];exact⟨b,c,d⟩
  .exact⟨_,cap,d⟩
 subst I;have y:=zh r;have z:=zh u;clear r u;go_enter func146,ntmps146;go_wp2_with fail;obtain⟨K,x,D,B,q⟩:=alH w (.cells #[.slice n ps.length o] 186) (.cells #[.func (.func g) #[] cap] 215)
 rw[<-x];clear x;refine (xQ0 214 _ ps.length (λi=>((ps[i]?.map f).getD false)) K s ?_ ?_ ?_).mono ?_
 .intro i j F k H;have a:i<ps.length:=oM
  simp only[gQ a,gQ k,Option.map_some,Option.getD_some] at *;exact z i j a k F H
 .intro args W;simp[go_sem,func214]
 .intro W m i a;refine (jJ0 g (w.heap.size+1) w.heap.size cap _ ps f i W (m.hp B) (m.hp D) (t.keep0 (q.tr m)) a s E (λl p=>y l ((q.tr m).tr p) i a)).mono ?_;rintro e l ⟨rfl,p⟩;exact⟨by simp[gQ a],p⟩
 .rintro e O ⟨i,rfl,⟨d,h2,h3⟩,hK2⟩;have e:=xF7 d (λj k G=>by
   have:=h2 j G;simpa [gQ k] using this) (λh=>by
   have:=h3 h;simpa [gQ h] using this)
  subst e;have C:=q.tr hK2;go_wp2;go_ret;exact⟨rfl,C⟩
theorem jI8(g F L:Nat)(cap)(v)(ps)(f:HL->Bool)(i:Nat)(w)(l:w.heap[F]?=some (.cells #[.func (.func g) #[] cap] 217))(m:w.heap[L]?=some (.cells #[v] 156))
  (r:Slc w 87 4 v ps.length (qA9 ps)) (E:i<ps.length) (M:ps.length<=1000000)
  (I:∀ (args) (W),Sem.run prog (callFunc g args) W=.ok (.enter g args) W)
  (p:∀ W,Kp [] w W->Calls prog g (#[.agg #[.string ps[i].key,.int .i64 ps[i].b,.int .u64 ps[i].s,.pointer ps[i].ptr]]++cap) W λe W'=>e=.returned (.bool (f ps[i]))/\Kp [] W W'):
  Calls prog 256 #[.int .i64 i,.pointer (some ⟨F,0,none⟩),.pointer (some ⟨L,0,none⟩)] w λe G=>e=.returned (.bool (f ps[i]))/\Kp [] w G:=by
 obtain⟨h,b,k,cur,C,rfl,J,q,o⟩:=r.link oM;obtain⟨c0,z,A,B⟩:=o i E;have s:=zh p;clear p r o;go_enter func256,ntmps256;go_wp2_with fail;have d:=n3 l m q;refine wp_region_held_drew (S:=λW=>Ϙ W F (.cells #[.func (.func g) #[] cap] 217)/\Ϙ W L (.cells #[.slice (some ⟨h,b,none⟩) ps.length k] 156)/\Ϙ W h (.cells cur 87 C)) kR d (λ_=>?_);refine zV 0 (.func (.func g) #[] cap) rfl (λW a=>by have c:=ξ a.1 0;simp at c;clear a;go_simp) d ?_;refine zV 1 (.slice (some ⟨h,b,none⟩) ps.length k) rfl (λW a=>by have c:=ξ a.2.1 0;simp at c;clear a;go_simp) d ?_;refine zU 2 (ϊ i) d ?_;refine zU 3 (.pointer (some ⟨h,b+i*4,none⟩)) d ?_;refine zV 4 (.agg #[.string ps[i].key,ϊ ps[i].b,.int .u64 ps[i].s,.pointer ps[i].ptr]) rfl (λW a=>by have t:=ξ a.2.2 (b+i*4);rw[c0] at t;have u:=ξ a.2.2 (b+i*4+1);rw[z] at u;have x:=ξ a.2.2 (b+i*4+2);rw[A] at x;have y:=ξ a.2.2 (b+i*4+3);rw[B] at y;clear a;go_simp) d ?_;refine zq 5 λK hK=>?_;go_simp;refine (s w.drew (kF.drew)).mono ?_;rintro e H ⟨rfl,D⟩;have j:Kp [] w H:=((Kp.refl _ w).drew).tr D;have n:=And.intro (j.hp l) (And.intro (j.hp m) (j.hp q));refine zk hK n ?_
 refine zq 6 λK hK=>?_;go_simp;refine hK.out _ _ n (λ_=>?_);refine zd ?_;go_wp2;go_ret;exact⟨rfl,j⟩
theorem jI9(g:Nat)(cap)(v)(ps)(f:HL->Bool)(w)
  (t:Slc w 87 4 v ps.length (qA9 ps)) (s:ps.length<=1000000) (u:∀ i j (a:i<ps.length) (k:j<ps.length),i<=j->f ps[i]=true->f ps[j]=true)
  (E:∀ (args) (W),Sem.run prog (callFunc g args) W=.ok (.enter g args) W)
  (r:∀ W,Kp [] w W->∀ i (h:i<ps.length),Calls prog g (#[.agg #[.string ps[i].key,.int .i64 ps[i].b,.int .u64 ps[i].s,.pointer ps[i].ptr]]++cap) W λe l=>e=.returned (.bool (f ps[i]))/\Kp [] W l):
  Calls prog 215 #[v,.func (.func g) #[] cap] w λe J=>e=.returned (.int .i64 (ps.findIdx f:Nat))/\Kp [] w J:=by
 have M:=zM;obtain⟨n,o,I⟩:∃ n o,v=.slice n ps.length o:=by
  rcases t.val with⟨A,b,c,d,_⟩|⟨g,N,cap,cur,L,d,_⟩
  .rw[A];exact⟨b,c,d⟩
  .exact⟨_,cap,d⟩
 subst I;have y:=zh r;have z:=zh u;clear r u;go_enter func215,ntmps215;go_wp2_with fail;obtain⟨K,x,D,B,q⟩:=alH w (.cells #[.slice n ps.length o] 156) (.cells #[.func (.func g) #[] cap] 217)
 rw[<-x];clear x;refine (xQ0 256 _ ps.length (λi=>((ps[i]?.map f).getD false)) K s ?_ ?_ ?_).mono ?_
 .intro i j F k H;have a:i<ps.length:=oM
  simp only[gQ a,gQ k,Option.map_some,Option.getD_some] at *;exact z i j a k F H
 .intro args W;simp[go_sem,func256]
 .intro W m i a;refine (jI8 g (w.heap.size+1) w.heap.size cap _ ps f i W (m.hp B) (m.hp D) (t.keep0 (q.tr m)) a s E (λl p=>y l ((q.tr m).tr p) i a)).mono ?_;rintro e l ⟨rfl,p⟩;exact⟨by simp[gQ a],p⟩
 .rintro e O ⟨i,rfl,⟨d,h2,h3⟩,hK2⟩;have e:=xF7 d (λj k G=>by
   have:=h2 j G;simpa [gQ k] using this) (λh=>by
   have:=h3 h;simpa [gQ h] using this)
  subst e;have C:=q.tr hK2;go_wp2;go_ret;exact⟨rfl,C⟩
abbrev ϟ(v:Nat)(h:HL):Array Value:=#[.pointer (some ⟨v,0,none⟩),.string h.key,.int .i64 h.b,.int .u64 h.s,.pointer h.ptr]
abbrev ϡ(h:HL):Array Value:=#[.string h.key,.int .i64 h.b,.int .u64 h.s,.pointer h.ptr]
theorem jR7(g F:Nat)(cap:Array Value)(p:HL)(r:Bool)(w:World)(a:w.heap[F]?=some (.cells #[.func (.func g) #[] cap] 217))
  (l:∀ (args:Array Value) (W:World),Sem.run prog (callFunc g args) W=.ok (.enter g args) W)
  (b:∀ W,Kp [] w W->Calls prog g (#[.agg #[.string p.key,.int .i64 p.b,.int .u64 p.s,.pointer p.ptr]]++cap) W λe W'=>e=.returned (.bool r)/\Kp [] W W'):
  Calls prog 216 #[.agg #[.string p.key,.int .i64 p.b,.int .u64 p.s,.pointer p.ptr],.pointer (some ⟨F,0,none⟩)] w λe h=>e=.returned (.bool !r)/\Kp [] w h:=by
 have c:=zh b;clear b;have k:=ζ a;have j:=ϻ a 0;go_enter func216,ntmps216;go_wp2_with fail;refine (c _ (kF.alloc _)).mono ?_;rintro e i ⟨rfl,d⟩;have f:Kp [] w i:=(kF.alloc _).tr d;go_wp2;go_ret;exact⟨rfl,f⟩
theorem xH3(g:Nat)(cap)(v)(ps)(f:HL->Bool)(w)
  (A:Slc w 87 4 v ps.length (qA9 ps)) (z:ps.length<=1000000) (k:∀ i j (a:i<ps.length) (m:j<ps.length),i<=j->f ps[j]=true->f ps[i]=true)
  (x:∀ (args) (W),Sem.run prog (callFunc g args) W=.ok (.enter g args) W)
  (l:∀ W,Kp [] w W->∀ i (h:i<ps.length),Calls prog g (#[.agg #[.string ps[i].key,.int .i64 ps[i].b,.int .u64 ps[i].s,.pointer ps[i].ptr]]++cap) W λe b=>e=.returned (.bool (f ps[i]))/\Kp [] W b):
  Calls prog 148 #[v,.func (.func g) #[] cap] w λe B=>e=.returned (.int .i64 (ps.findIdx (λp=>!f p)-1:Nat))/\Kp [] w B:=by
 have D:=zM;have o:=zh l;have q:=zh k;clear l k;go_enter func148,ntmps148;go_wp2_with fail;have r:=υ w (.cells #[.func (.func g) #[] cap] 217);have c:Kp [] w (w.alloc (.cells #[.func (.func g) #[] cap] 217)):=kF.alloc _;refine (jI9 216 _ v ps (λp=>!f p) _ (A.keep0 c) z ?_ ?_ ?_).mono ?_
 .intro i j a m y n;by_cases e:f ps[j]=true
  .rw[q.out i j a m y e] at n;simp at n
  .simpa using e
 .intro args W;simp[go_sem,func216]
 .intro W d i a;exact jR7 g w.heap.size cap ps[i] (f ps[i]) W (d.hp r) x (λb s=>o b ((c.tr d).tr s) i a)
 .rintro e E ⟨rfl,t⟩;have u:=c.tr t;have C:ps.findIdx (λp=>!f p)<=ps.length:=fL;go_wp2
  all_goals
   go_ret;exact⟨qK7 oM,u⟩
def χ(lvl:Int)(vp vl:Value):Obj:=.cells #[.int .i64 lvl,vp,vl] 213
theorem kP8(K:Nat)(k:ByteArray)(p:HL)(w:World)(hK:w.heap[K]?=some (.cells #[.string k] 9)):
  Calls prog 221 #[.agg #[.string p.key,.int .i64 p.b,.int .u64 p.s,.pointer p.ptr],.pointer (some ⟨K,0,none⟩)] w λe a=>e=.returned (.bool !kl k p.key)/\Kp [] w a:=by
 have b:=ζ hK;have c:=ϻ hK 0;go_enter func221,ntmps221;go_wp2;go_ret;exact⟨by rw[<-xG4];rfl,kF.alloc _⟩
def Rise(ls:List HL):Prop:=ls.Pairwise fun a b=>kl a.key b.key=true
theorem Rise.at{ls}(h:Rise ls){i j:Nat}(a:i<ls.length)(c:j<ls.length)(b:i<j):kl ls[i].key ls[j].key=true:=
 pG h i j a c b
theorem zU8(q:Nat)(v:Int)(vp vl)(ls)(k)(w)(g:w.heap[q]?=some (χ v vp vl))(u:Slc w 87 4 vl ls.length (qA9 ls))(s:ls.length<=1000000)(t:Rise ls):
  Calls prog 158 #[.pointer (some ⟨q,0,none⟩),.string k] w λe y=>e=.returned (.int .i64 (ls.findIdx (λl=>kl k l.key)-1:Nat))/\Kp [] w y:=by
 have A:=zM;have B:=ζ g;have x:=ξ g 2;simp only[χ,zG,zH,zI] at x;go_enter func158,ntmps158;go_wp2_with fail;have m:=υ w (.cells #[.string k] 9);have b:Kp [] w (w.alloc (.cells #[.string k] 9)):=kF.alloc _;refine (xH3 221 _ vl ls (λl=>!kl k l.key) _ (u.keep0 b) s ?_ ?_ ?_).mono ?_
 .intro i j c r z d;by_cases e:i=j
  .subst e;exact d
  .have h:=t.at c r oM;have f:kl k ls[j].key=false:=by simpa using d
   by_cases a:kl k ls[i].key=true
   .rw[qO6 a h] at f;cases f
   .simpa using a
 .intro args W;simp[go_sem,func221]
 .intro W p i c;exact kP8 w.heap.size k ls[i] W (p.hp m)
 .rintro e C ⟨rfl,n⟩;have o:=b.tr n;go_wp2;go_ret;exact⟨sM,o⟩
theorem kK7(K:Nat)(k:ByteArray)(p:KV)(w:World)(hK:w.heap[K]?=some (.cells #[.string k] 9)):
  Calls prog 222 #[.agg #[.string p.k,.string p.v],.pointer (some ⟨K,0,none⟩)] w λe a=>e=.returned (.bool !kl p.k k)/\Kp [] w a:=by
 have b:=ζ hK;have c:=ϻ hK 0;go_enter func222,ntmps222;go_wp2;go_ret;exact⟨rfl,kF.alloc _⟩
theorem kK8{ps}(g:Sorted ps)(k):∀ i j (c:i<ps.length) (d:j<ps.length),i<=j->(!kl ps[i].k k)=true->(!kl ps[j].k k)=true:=by
 intro i j c d h a;by_cases e:i=j
 .subst e;exact a
 .have f:=pG g i j c d oM;by_cases b:kl ps[j].k k=true
  .rw[qO6 f b] at a;cases a
  .simpa using b
theorem zJ3(q:Nat)(K:Int)(vp vl)(ps)(k)(w)(d:w.heap[q]?=some (χ K vp vl))(s:Slc w 185 2 vp ps.length (qA4 ps))(H:ps.length<=1000000)(I:Sorted ps):
  Calls prog 159 #[.pointer (some ⟨q,0,none⟩),.string k] w λe M=>e=.returned (.tuple #[.int .i64 (qB9 ps k),.bool (qG1 ps (qB9 ps k) k)])/\Kp [] w M:=by
 have R:=zM;have z:=ζ d;have f:=ξ d 1;simp only[χ,zG,zH,zI] at f;go_enter func159,ntmps159;go_wp2_with fail;have l:=υ w (.cells #[.string k] 9);have m:Kp [] w (w.alloc (.cells #[.string k] 9)):=kF.alloc _;refine (xD2 222 _ vp ps (λp=>!kl p.k k) _ (s.keep0 m) H (kK8 I k) ?_ ?_).mono ?_
 .intro args W;simp[go_sem,func222]
 .intro W E i o;exact kK7 w.heap.size k ps[i] W (E.hp l)
 rintro e T ⟨rfl,n⟩;have a:=m.tr n;have y:=a.hp d;have x:=n.hp l;have t:=s.keep0 a;have e:ps.findIdx (λp=>!kl p.k k)=qB9 ps k:=rfl;rw[e];clear n m l s d f z e;have z:=ζ y;have Q:=ζ x;have f:=ξ y 1;simp only[χ,zG,zH,zI] at f;have S:=ϻ x 0;have G:=zJ2 ps k;obtain⟨i,r⟩:=eY (qB9 ps k);rw[r] at G |-;by_cases o:i<ps.length
 .obtain⟨N,B,h,cur,C,rfl,O,A,v⟩:=t.pair oM;obtain⟨c0,_⟩:=v i o;have L:=ξ A (B+i*2);rw[c0] at L;have P:=ζ A;have F:(i:Int)<(ps.length:Int):=oM
  clear v t;go_wp2_with fail
  go_quiet (fail)
  go_wp2
  go_ret2
  refine⟨?_,a.drewN _⟩;rw[r];simp[qG1,gQ o,zB7]
 .have F:¬(i:Int)<(ps.length:Int):=oM
  obtain⟨u,h,J⟩:∃ u h,vp=.slice u ps.length h:=by
   rcases t.val with⟨D,b,c,j,_⟩|⟨g,B,cap,cur,C,j,_⟩
   .rw[D];exact⟨b,c,j⟩
   .exact⟨_,cap,j⟩
  subst J;go_wp2_with fail
  go_quiet (fail)
  go_wp2
  go_ret2
  refine⟨?_,a.drewN _⟩;rw[r];have:qG1 ps i k=false:=by unfold qG1;rw[gN oM]
  rw[this];rfl
def φ(l:HL):Nat:=11+l.key.size
theorem xQ8(p)(w)(a:θ p<=1000):
  Calls prog 340 #[.agg #[.string p.k,.string p.v]] w λe b=>e=.returned (.int .i64 (θ p))/\Kp [] w b:=by
 unfold θ at a;go_enter func340,ntmps340;go_wp2;go_ret;exact⟨qK7 (by unfold θ;omega),kF.alloc _⟩
theorem xQ7(p)(w)(a:φ p<=1000):
  Calls prog 334 #[.agg #[.string p.key,.int .i64 p.b,.int .u64 p.s,.pointer p.ptr]] w λe b=>e=.returned (.int .i64 (φ p))/\Kp [] w b:=by
 unfold φ at a;go_enter func334,ntmps334;go_wp2;go_ret;exact⟨qK7 (by unfold φ;omega),kF.alloc _⟩
theorem jT9(p:KV)(w:World):
  Calls prog 339 #[.agg #[.string p.k,.string p.v]] w λe a=>e=.returned (.string p.k)/\Kp [] w a:=by
 go_enter func339,ntmps339;go_wp2;go_ret;exact⟨rfl,kF.alloc _⟩
theorem jT8(p:HL)(w:World):
  Calls prog 333 #[.agg #[.string p.key,.int .i64 p.b,.int .u64 p.s,.pointer p.ptr]] w λe a=>e=.returned (.string p.key)/\Kp [] w a:=by
 go_enter func333,ntmps333;go_wp2;go_ret;exact⟨rfl,kF.alloc _⟩
theorem qL3{α:Type}(f:α->Nat)(l:List α)(j:Nat)(h:j<l.length):meas f (l.take (j+1))=meas f (l.take j)+f l[j]:=by
 rw[tA h,qE2,qC2,qD1];omega
theorem qN7{α:Type}(f:α->Nat)(l:List α)(j:Nat):meas f (l.take j)<=meas f l:=by
 have:=qN6 f l j;omega
theorem jU2(v)(ps)(w)(k:Slc w 185 2 v ps.length (qA4 ps))(P:ps.length<=1000000)(q:∀ p∈ps,θ p<=1000)(N:meas θ ps<=1000000):
  Calls prog 272 #[v] w λe H=>e=.returned (.int .i64 (meas θ ps))/\Kp [] w H:=by
 obtain⟨m,n,a⟩:∃ m n,v=.slice m ps.length n:=by
  rcases k.val with⟨B,b,c,d,_⟩|⟨g,l,cap,cur,A,d,_⟩
  .rw[B];exact⟨b,c,d⟩
  .exact⟨_,cap,d⟩
 subst a;have t:=zh k;have u:=zh q;clear k q;go_enter func272,ntmps272;go_wp2
 go_loopw [3,8] (λs i wr=>∃ (j:Nat),j<=ps.length/\i=.int .i64 j/\s=.int .i64 (meas θ (ps.take j):Nat)/\Kp [] w wr) (λ_ i _=>ps.length-(intOf i).toNat)
 case atStart=>exact⟨0,zL _,rfl,rfl,Kp.refl _ _⟩
 case round=>
  obtain⟨j,M,rfl,rfl,hK⟩:=hrel;by_cases h:j<ps.length
  .obtain⟨J,l,I,cur,A,a,K,F,o⟩:=t.out.pair oM;obtain⟨c0,z⟩:=o j h;simp only[vJ,true_and] at a;obtain⟨rfl,rfl⟩:=a;have f:=hK.hp F;have x:=ξ f (l+j*2);rw[c0] at x;have y:=ξ f (l+j*2+1);rw[z] at y;have L:=ζ f;have E:(j:Int)<(ps.length:Int):=oM
   have G:=u.out ps[j] (gM h);have O:=qN7 θ ps j;have r:=zh (qL3 θ ps j h);clear o;go_wp2_with fail;refine (xQ8 ps[j] _ G).mono ?_;rintro e Q ⟨rfl,C⟩;have D:=((hK.alloc _)).tr C;go_wp2;refine⟨⟨j+1,oM,by go_num,by rw[r.out];go_num,D⟩,by simp[intOf];omega⟩
  .have E:¬(j:Int)<(ps.length:Int):=oM
   go_wp2;go_ret;exact⟨qK7 (by rw[tL oM]),hK⟩
theorem jU1(v)(ps)(w)(l:Slc w 87 4 v ps.length (qA9 ps))(T:ps.length<=1000000)(q:∀ p∈ps,φ p<=1000)(R:meas φ ps<=1000000):
  Calls prog 276 #[v] w λe L=>e=.returned (.int .i64 (meas φ ps))/\Kp [] w L:=by
 obtain⟨m,n,f⟩:∃ m n,v=.slice m ps.length n:=by
  rcases l.val with⟨F,b,c,h,_⟩|⟨g,d,cap,cur,E,h,_⟩
  .rw[F];exact⟨b,c,h⟩
  .exact⟨_,cap,h⟩
 subst f;have t:=zh l;have u:=zh q;clear l q;go_enter func276,ntmps276;go_wp2
 go_loopw [3,8] (λs i wr=>∃ (j:Nat),j<=ps.length/\i=.int .i64 j/\s=.int .i64 (meas φ (ps.take j):Nat)/\Kp [] w wr) (λ_ i _=>ps.length-(intOf i).toNat)
 case atStart=>exact⟨0,zL _,rfl,rfl,Kp.refl _ _⟩
 case round=>
  obtain⟨j,Q,rfl,rfl,hK⟩:=hrel;by_cases k:j<ps.length
  .obtain⟨N,d,M,cur,E,f,O,J,o⟩:=t.out.link oM;obtain⟨c0,B,C,D⟩:=o j k;simp only[vJ,true_and] at f;obtain⟨rfl,rfl⟩:=f;have a:=hK.hp J;have x:=ξ a (d+j*4);rw[c0] at x;have y:=ξ a (d+j*4+1);rw[B] at y;have z:=ξ a (d+j*4+2);rw[C] at z;have A:=ξ a (d+j*4+3);rw[D] at A;have P:=ζ a;have I:(j:Int)<(ps.length:Int):=oM
   have K:=u.out ps[j] (gM k);have S:=qN7 φ ps j;have r:=zh (qL3 φ ps j k);clear o;go_wp2_with fail;refine (xQ7 ps[j] _ K).mono ?_;rintro e U ⟨rfl,G⟩;have H:=((hK.alloc _)).tr G;go_wp2;refine⟨⟨j+1,oM,by go_num,by rw[r.out];go_num,H⟩,by simp[intOf];omega⟩
  .have I:¬(j:Int)<(ps.length:Int):=oM
   go_wp2;go_ret;exact⟨qK7 (by rw[tL oM]),hK⟩
theorem zN5{α:Type}(f:α->List Value)(sz:Nat)(a:∀ x,(f x).length=sz):∀ (l:List α) (i:Nat),(l.take i).flatMap f=(l.flatMap f).take (i*sz)
 | [],i=>by simp
 | x::l,0=>by simp
 | x::l,i+1=>by
  rw[List.take_succ_cons,fC,fC,zN5 f sz a l i,List.take_append];rw[tL (l:=f x) (by rw[a,Nat.succ_mul];omega),a,show (i+1)*sz-sz=i*sz by rw[Nat.succ_mul];omega]
theorem zN4{α:Type}(f:α->List Value)(sz:Nat)(a:∀ x,(f x).length=sz):∀ (l:List α) (i:Nat),(l.drop i).flatMap f=(l.flatMap f).drop (i*sz)
 | [],i=>by simp
 | x::l,0=>by simp
 | x::l,i+1=>by
  rw[List.drop_succ_cons,fC,zN4 f sz a l i,List.drop_append];rw[dL (l:=f x) (by rw[a,Nat.succ_mul];omega),a,show (i+1)*sz-sz=i*sz by rw[Nat.succ_mul];omega];simp
theorem xN6(ps)(i:Nat):qA4 (ps.take i)=(qA4 ps).take (i*2):=zN5 pcs 2 (λ_=>rfl) ps i
theorem xN3(ps)(i:Nat):qA4 (ps.drop i)=(qA4 ps).drop (i*2):=zN4 pcs 2 (λ_=>rfl) ps i
theorem xI3(ps)(i:Nat):qA9 (ps.take i)=(qA9 ps).take (i*4):=zN5 lcs 4 (λ_=>rfl) ps i
theorem xI1(ps)(i:Nat):qA9 (ps.drop i)=(qA9 ps).drop (i*4):=zN4 lcs 4 (λ_=>rfl) ps i
theorem qS4{w}{T}{sz g b n:Nat}{cur}{fr}{cs:List Value}(k:w.heap[g]?=some (.cells cur T fr))(f:∀ j u,cs[j]?=some u->cur[b+j]?=some u)(h:cs.length=n*sz)(i m c:Nat)(l:i+m<=n)(e:m<=c):
  Slc w T sz (.slice (some ⟨g,b+i*sz,none⟩) m c) m ((cs.drop (i*sz)).take (m*sz)):=by
 refine⟨?_,?_⟩
 .rw[lK,lD,h,<-Nat.mul_sub_right_distrib];have:=Nat.mul_le_mul_right sz (show m<=n-i by omega);omega
 .by_cases d:m=0
  .subst d;exact .inl ⟨rfl,_,_,rfl,sM⟩
  .refine .inr ⟨g,b+i*sz,c,cur,fr,rfl,oM,e,k,λj u a=>?_⟩;rw[List.getElem?_take] at a;split at a
   .rw[List.getElem?_drop] at a;rw[Nat.add_assoc];exact f _ _ a
   .cases a
theorem xB3{α:Type}(f:α->Nat)(a:Nat)(l:List α)(j n:Nat)(h:j<l.length)(b:2*n<a):qG4 f a (l.drop j) n=qG4 f a (l.drop (j+1)) (n+f l[j])+1:=by
 rw[dG h];simp[qG4,b]
theorem xB1{α:Type}(f:α->Nat)(a:Nat)(l:List α)(n:Nat)(b:¬2*n<a):qG4 f a l n=0:=by
 cases l with
 | nil=>rfl
 | cons x l=>simp[qG4,b]
def zD1(w:World)(T:TypeId)(sz:Nat)(vs:List Value)(css:List (Nat × List Value)):Prop:=vs.length=css.length∧∀ i (h:i<css.length) (h':i<vs.length),Slc w T sz vs[i] css[i].1 css[i].2
theorem jN4(v)(ps)(w)(G:Slc w 185 2 v ps.length (qA4 ps))(hn:ps.length<=1000000)(V:∀ p∈ps,θ p<=21)(hm:meas θ ps<=1000000):
  Calls prog 241 #[v] w λe W=>∃ g vs,e=.returned (.slice (some ⟨g,0,none⟩) (qB8 θ ps).length (qB8 θ ps).length)/\W.heap[g]?=some (.cells vs.toArray 186)/\zD1 w 185 2 vs ((qB8 θ ps).map λl=>(l.length,qA4 l))/\Kp [] w W:=by
 obtain⟨t,a,A⟩:∃ t a,v=.slice t ps.length a:=by
  rcases G.val with⟨L,b,c,m,_⟩|⟨g,d,cap,cur,fr,m,_⟩
  .rw[L];exact⟨b,c,m⟩
  .exact⟨_,cap,m⟩
 subst A;have r:=zh G;have B:=zh V;clear G V;go_enter func241,ntmps241;go_wp2_with fail;refine (jU2 _ ps w r hn (λp hp=>lT (B p hp) oM) hm).mono ?_;rintro e X ⟨rfl,N⟩;by_cases D:meas θ ps<=126
 .have hb:((meas θ ps:Nat):Int)<=126:=oM
  go_wp2;go_ret;have n:Kp [] w (X.alloc (.cells #[.slice t ps.length a] 186)):=N.alloc _;have e:qB8 θ ps=[ps]:=by unfold qB8;rw[if_pos D]
  rw[e];refine⟨X.heap.size,[.slice t ps.length a],rfl,υ _ _,⟨rfl,λi m h2=>?_⟩,n⟩;have:i=0:=by simp at m;omega
  subst this;exact r
 .have hb:¬((meas θ ps:Nat):Int)<=126:=oM
  have ae:1<=ps.length:=by
   cases ps with
   | nil=>simp[meas] at D
   | cons x l=>simp
  obtain⟨f,d,ah,cur,fr,A,ak,z,P⟩:=r.out.pair ae;simp only[vJ,true_and] at A;obtain⟨rfl,rfl⟩:=A;go_wp2
  go_loopw [4,5] (λs q wr=>∃ (j:Nat),j<=ps.length/\s=.int .i64 j/\q=.int .i64 (meas θ (ps.take j):Nat)/\qG4 θ (meas θ ps) ps 0=qG4 θ (meas θ ps) (ps.drop j) (meas θ (ps.take j))+j/\Kp [] w wr) (λs _ _=>ps.length-(intOf s).toNat)
  case atStart=>exact⟨0,zL _,rfl,rfl,by simp[meas],N⟩
  case round=>
   obtain⟨j,hj,rfl,rfl,Q,hK⟩:=hrel;have H:=zh Q;clear Q;have aq:=qN7 θ ps j;by_cases E:2*meas θ (ps.take j)<meas θ ps
   .have y:j<ps.length:=by
     by_cases h:j<ps.length
     .exact h
     .rw[tL oM] at E;omega
    obtain⟨c0,c1⟩:=P j y;have C:=hK.hp z;have Z:=ξ C (d+j*2);rw[c0] at Z;have a1:=ξ C (d+j*2+1);rw[c1] at a1;have al:=ζ C;have am:(j:Int)<(ps.length:Int):=oM
    have ad:2*((meas θ (ps.take j):Nat):Int)<((meas θ ps:Nat):Int):=oM
    have au:=B.out ps[j] (gM y);have J:=zh (qL3 θ ps j y);have Y:=zh (xB3 θ _ ps j _ y E);clear P;go_wp2_with fail;refine (xQ8 ps[j] _ oM).mono ?_;rintro e o ⟨rfl,n⟩;have ac:=hK.tr n;go_wp2;refine⟨⟨j+1,oM,by go_num,by rw[J.out];go_num,?_,ac⟩,by simp[intOf];omega⟩;rw[H.out,Y.out,J.out];omega
   .have ad:¬2*((meas θ (ps.take j):Nat):Int)<((meas θ ps:Nat):Int):=oM
    have F:qG4 θ (meas θ ps) ps 0=j:=by rw[H.out,xB1 _ _ _ _ E];omega
    have I:=zh F;clear F;go_wp2_with fail;have ao:j<ps.length:=by
     have S:=zE4 θ (meas θ ps) 21 ps 0 B oM oM;rw[I.out] at S;by_cases h:j<ps.length
     .exact h
     .rw[tL oM] at S;omega
    have ap:¬a=j:=oM
    have an:(j:Int)<=(ps.length:Int):=oM
    have F:(j:Int)<=(a:Int):=oM
    have ar:(ps.length:Int)<=(a:Int):=oM
    refine wp_region_any kR ?_;change wpAny _ _ _ _ _ _ _ (World.drew _);refine zu 0 (.slice (some ⟨f,d,none⟩) ps.length a) ?_;refine zu 1 (ϊ j) ?_;refine zu 2 (ϊ j) ?_;refine zu 3 (.slice (some ⟨f,d,none⟩) j j) ?_;refine zu 4 (.slice (some ⟨f,d,none⟩) ps.length a) ?_;refine zu 5 (ϊ j) ?_;refine zu 6 (.slice (some ⟨f,d+j*2,none⟩) (ps.length-j) (a-j)) ?_;have ab:=hK;refine zQ 7 λK hK=>?_;go_simp;obtain⟨o,U,aa,n⟩:∃ o,o=(wr.alloc (.cells #[.slice (some ⟨f,d,none⟩) j j,.slice (some ⟨f,d+j*2,none⟩) (ps.length-j) (a-j)] 186)).drew/\Ϙ o wr.heap.size (.cells #[.slice (some ⟨f,d,none⟩) j j,.slice (some ⟨f,d+j*2,none⟩) (ps.length-j) (a-j)] 186)/\Kp [] w o:=⟨_,rfl,υ _ _,(ab.alloc _).drew⟩;rw[<-U];clear U;refine hK _ _ ?_
    try simp only[zZ]
    refine zQ 8 λK hK=>?_;go_simp;refine hK _ _ ?_;refine wpAny_done kR ?_ _;go_wp2;go_ret;have e:qB8 θ ps=[ps.take j,ps.drop j]:=by unfold qB8;rw[if_neg D,I.out]
    rw[e];obtain⟨R,af⟩:=r.out;have O:∀ k u,(qA4 ps)[k]?=some u->cur[d+k]?=some u:=by
     rcases af with⟨L,_⟩|⟨g',av,ag,ai,aj,m,_,_,M,h5⟩
     .omega
     .simp only[vJ,Option.some.injEq,Addr.mk.injEq] at m;obtain⟨⟨rfl,rfl,_⟩,_,_⟩:=m;rw[z] at M;cases M;exact h5
    refine⟨wr.heap.size,[.slice (some ⟨f,d,none⟩) j j,.slice (some ⟨f,d+j*2,none⟩) (ps.length-j) (a-j)],rfl,aa,⟨rfl,λi m h2=>?_⟩,n⟩;have hi:i=0\/i=1:=by simp at m;omega
    rcases hi with rfl|rfl
    .have:=qS4 (T:=185) (sz:=2) z O R 0 j j oM lR;simp only[Nat.zero_mul,Nat.add_zero,dZ] at this;rw[<-xN6] at this;simpa [Nat.min_eq_left hj] using this
    .have:=qS4 (T:=185) (sz:=2) z O R j (ps.length-j) (a-j) oM oM;rw[<-xN3,tL (by rw[qR1];simp)] at this;simpa using this
theorem jN3(v)(ps)(w)(G:Slc w 87 4 v ps.length (qA9 ps))(hn:ps.length<=1000000)(V:∀ p∈ps,φ p<=21)(hm:meas φ ps<=1000000):
  Calls prog 258 #[v] w λe W=>∃ g vs,e=.returned (.slice (some ⟨g,0,none⟩) (qB8 φ ps).length (qB8 φ ps).length)/\W.heap[g]?=some (.cells vs.toArray 156)/\zD1 w 87 4 vs ((qB8 φ ps).map λl=>(l.length,qA9 l))/\Kp [] w W:=by
 obtain⟨y,d,B⟩:∃ y d,v=.slice y ps.length d:=by
  rcases G.val with⟨L,b,c,m,_⟩|⟨g,a,cap,cur,fr,m,_⟩
  .rw[L];exact⟨b,c,m⟩
  .exact⟨_,cap,m⟩
 subst B;have t:=zh G;have C:=zh V;clear G V;go_enter func258,ntmps258;go_wp2_with fail;refine (jU1 _ ps w t hn (λp hp=>lT (C p hp) oM) hm).mono ?_;rintro e X ⟨rfl,N⟩;by_cases D:meas φ ps<=126
 .have hb:((meas φ ps:Nat):Int)<=126:=oM
  go_wp2;go_ret;have n:Kp [] w (X.alloc (.cells #[.slice y ps.length d] 156)):=N.alloc _;have e:qB8 φ ps=[ps]:=by unfold qB8;rw[if_pos D]
  rw[e];refine⟨X.heap.size,[.slice y ps.length d],rfl,υ _ _,⟨rfl,λi m h2=>?_⟩,n⟩;have:i=0:=by simp at m;omega
  subst this;exact t
 .have hb:¬((meas φ ps:Nat):Int)<=126:=oM
  have ae:1<=ps.length:=by
   cases ps with
   | nil=>simp[meas] at D
   | cons x l=>simp
  obtain⟨f,a,ah,cur,fr,B,ak,A,P⟩:=t.out.link ae;simp only[vJ,true_and] at B;obtain⟨rfl,rfl⟩:=B;go_wp2
  go_loopw [4,5] (λs q wr=>∃ (j:Nat),j<=ps.length/\s=.int .i64 j/\q=.int .i64 (meas φ (ps.take j):Nat)/\qG4 φ (meas φ ps) ps 0=qG4 φ (meas φ ps) (ps.drop j) (meas φ (ps.take j))+j/\Kp [] w wr) (λs _ _=>ps.length-(intOf s).toNat)
  case atStart=>exact⟨0,zL _,rfl,rfl,by simp[meas],N⟩
  case round=>
   obtain⟨j,hj,rfl,rfl,Q,hK⟩:=hrel;have H:=zh Q;clear Q;have aq:=qN7 φ ps j;by_cases E:2*meas φ (ps.take j)<meas φ ps
   .have z:j<ps.length:=by
     by_cases h:j<ps.length
     .exact h
     .rw[tL oM] at E;omega
    obtain⟨c0,c1,c2,c3⟩:=P j z;have o:=hK.hp A;have Z:=ξ o (a+j*4);rw[c0] at Z;have a1:=ξ o (a+j*4+1);rw[c1] at a1;have a2:=ξ o (a+j*4+2);rw[c2] at a2;have a3:=ξ o (a+j*4+3);rw[c3] at a3;have al:=ζ o;have am:(j:Int)<(ps.length:Int):=oM
    have ad:2*((meas φ (ps.take j):Nat):Int)<((meas φ ps:Nat):Int):=oM
    have au:=C.out ps[j] (gM z);have J:=zh (qL3 φ ps j z);have Y:=zh (xB3 φ _ ps j _ z E);clear P;go_wp2_with fail;refine (xQ7 ps[j] _ oM).mono ?_;rintro e r ⟨rfl,n⟩;have ac:=hK.tr n;go_wp2;refine⟨⟨j+1,oM,by go_num,by rw[J.out];go_num,?_,ac⟩,by simp[intOf];omega⟩;rw[H.out,Y.out,J.out];omega
   .have ad:¬2*((meas φ (ps.take j):Nat):Int)<((meas φ ps:Nat):Int):=oM
    have F:qG4 φ (meas φ ps) ps 0=j:=by rw[H.out,xB1 _ _ _ _ E];omega
    have I:=zh F;clear F;go_wp2_with fail;have ao:j<ps.length:=by
     have S:=zE4 φ (meas φ ps) 21 ps 0 C oM oM;rw[I.out] at S;by_cases h:j<ps.length
     .exact h
     .rw[tL oM] at S;omega
    have ap:¬d=j:=oM
    have an:(j:Int)<=(ps.length:Int):=oM
    have F:(j:Int)<=(d:Int):=oM
    have ar:(ps.length:Int)<=(d:Int):=oM
    refine wp_region_any kR ?_;change wpAny _ _ _ _ _ _ _ (World.drew _);refine zu 0 (.slice (some ⟨f,a,none⟩) ps.length d) ?_;refine zu 1 (ϊ j) ?_;refine zu 2 (ϊ j) ?_;refine zu 3 (.slice (some ⟨f,a,none⟩) j j) ?_;refine zu 4 (.slice (some ⟨f,a,none⟩) ps.length d) ?_;refine zu 5 (ϊ j) ?_;refine zu 6 (.slice (some ⟨f,a+j*4,none⟩) (ps.length-j) (d-j)) ?_;have ab:=hK;refine zQ 7 λK hK=>?_;go_simp;obtain⟨r,U,aa,n⟩:∃ r,r=(wr.alloc (.cells #[.slice (some ⟨f,a,none⟩) j j,.slice (some ⟨f,a+j*4,none⟩) (ps.length-j) (d-j)] 156)).drew/\Ϙ r wr.heap.size (.cells #[.slice (some ⟨f,a,none⟩) j j,.slice (some ⟨f,a+j*4,none⟩) (ps.length-j) (d-j)] 156)/\Kp [] w r:=⟨_,rfl,υ _ _,(ab.alloc _).drew⟩;rw[<-U];clear U;refine hK _ _ ?_
    try simp only[zZ]
    refine zQ 8 λK hK=>?_;go_simp;refine hK _ _ ?_;refine wpAny_done kR ?_ _;go_wp2;go_ret;have e:qB8 φ ps=[ps.take j,ps.drop j]:=by unfold qB8;rw[if_neg D,I.out]
    rw[e];obtain⟨R,af⟩:=t.out;have O:∀ k u,(qA9 ps)[k]?=some u->cur[a+k]?=some u:=by
     rcases af with⟨L,_⟩|⟨g',av,ag,ai,aj,m,_,_,M,h5⟩
     .omega
     .simp only[vJ,Option.some.injEq,Addr.mk.injEq] at m;obtain⟨⟨rfl,rfl,_⟩,_,_⟩:=m;rw[A] at M;cases M;exact h5
    refine⟨wr.heap.size,[.slice (some ⟨f,a,none⟩) j j,.slice (some ⟨f,a+j*4,none⟩) (ps.length-j) (d-j)],rfl,aa,⟨rfl,λi m h2=>?_⟩,n⟩;have hi:i=0\/i=1:=by simp at m;omega
    rcases hi with rfl|rfl
    .have:=qS4 (T:=87) (sz:=4) A O R 0 j j oM lR;simp only[Nat.zero_mul,Nat.add_zero,dZ] at this;rw[<-xI3] at this;simpa [Nat.min_eq_left hj] using this
    .have:=qS4 (T:=87) (sz:=4) A O R j (ps.length-j) (d-j) oM oM;rw[<-xI1,tL (by rw[zP8];simp)] at this;simpa using this
end Go.Proofs.YtdohpenfkdckiaaGreatDoor
