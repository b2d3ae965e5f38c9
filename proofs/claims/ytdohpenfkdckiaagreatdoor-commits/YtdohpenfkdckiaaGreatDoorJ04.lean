import Derived.Test.YtdohpenfkdckiaaGreatDoorJ01
set_option linter.all false
set_option maxRecDepth 100000
set_option maxHeartbeats 20000000
namespace Go.Proofs.YtdohpenfkdckiaaGreatDoor
open Go.Proofs.Tryz
open Go.RowKit
def Apt(w:World)(S:List Nat)(Ts:List TypeId):Prop:=∀ k∈S,∀ c t fr,w.heap[k]?=some (.cells c t fr)→t ∉ Ts
structure Slc(w:World)(T:TypeId)(sz:Nat)(v:Value)(n:Nat)(cs:List Value):Prop where
 len:cs.length=n*sz
 val:(n=0∧∃ b c,v=.slice b 0 c∧(b=none→c=0))∨∃ g off cap cur fr,v=.slice (some ⟨g,off,none⟩) n cap∧1≤n∧n≤cap∧w.heap[g]?=some (.cells cur T fr)∧∀ j u,cs[j]?=some u→cur[off+j]?=some u
theorem Slc.keep{w w'}{T}{sz:Nat}{v}{n:Nat}{cs:List Value}{S}(h:Slc w T sz v n cs)(hK:Kp S w w')(i:Apt w S [T]):Slc w' T sz v n cs:=by
 refine⟨h.len,?_⟩;rcases h.val with h|⟨g,k,cap,cur,b,c,d,e,a,f⟩
 .exact .inl h
 .exact .inr ⟨g,k,cap,cur,b,c,d,e,hK.heap a (λj=>i g j _ _ _ a sM),f⟩
theorem Apt.nil(w)(Ts:List TypeId):Apt w [] Ts:=λk a=>by simp at a
theorem Slc.keep0{w w'}{T}{sz:Nat}{v}{n:Nat}{cs:List Value}(h:Slc w T sz v n cs)(hK:Kp [] w w'):Slc w' T sz v n cs:=h.keep hK (Apt.nil _ _)
def pcs(p:KV):List Value:=[.string p.k,.string p.v]
def qA3(ps:List KV):List Value:=ps.flatMap pcs
theorem qQ9(ps):(qA3 ps).length=ps.length*2:=by
 induction ps with
 | nil=>rfl
 | cons p ps ih=>simp[qA3,pcs] at *;omega
theorem qR7{ps}{i:Nat}(h:i<ps.length):(qA3 ps)[i*2]?=some (.string ps[i].k)/\(qA3 ps)[i*2+1]?=some (.string ps[i].v):=by
 induction ps generalizing i with
 | nil=>simp at h
 | cons p ps ih=>
  cases i with
  | zero=>simp[qA3,pcs]
  | succ i=>
   have:=ih (i:=i) (by simpa using h);have a:(qA3 (p::ps))[(i+1)*2]?=(qA3 ps)[i*2]?:=by
    rw[show qA3 (p::ps)=.string p.k::.string p.v::qA3 ps from rfl,show (i+1)*2=i*2+1+1 by omega];simp
   have b:(qA3 (p::ps))[(i+1)*2+1]?=(qA3 ps)[i*2+1]?:=by
    rw[show qA3 (p::ps)=.string p.k::.string p.v::qA3 ps from rfl,show (i+1)*2+1=i*2+1+1+1 by omega];simp
   rw[a,b];simpa using this
theorem Slc.pair{w}{v}{ps}(h:Slc w 185 2 v ps.length (qA3 ps))(m:1<=ps.length):
  ∃ g a cap cur b,v=.slice (some ⟨g,a,none⟩) ps.length cap/\ps.length<=cap/\w.heap[g]?=some (.cells cur 185 b)/\∀ i (h:i<ps.length),cur[a+i*2]?=some (.string ps[i].k)/\cur[a+i*2+1]?=some (.string ps[i].v):=by
 rcases h.val with⟨k,_⟩|⟨g,a,cap,cur,b,e,l,f,j,c⟩
 .omega
 .exact⟨g,a,cap,cur,b,e,f,j,λi d=>⟨c _ _ (qR7 d).1,c _ _ (qR7 d).2⟩⟩
structure HL where
 key:ByteArray
 b:Int
 s:Int
 p:Option Nat
def HL.ptr(l:HL):Option Addr:=l.p.map fun q=>⟨q,0,none⟩
def lcs(l:HL):List Value:=[.string l.key,.int .i64 l.b,.int .u64 l.s,.pointer l.ptr]
def qA7(ls:List HL):List Value:=ls.flatMap lcs
theorem zO9(ls):(qA7 ls).length=ls.length*4:=by
 induction ls with
 | nil=>rfl
 | cons p ps ih=>simp[qA7,lcs] at *;omega
theorem qV9{ls}{i:Nat}(h:i<ls.length):(qA7 ls)[i*4]?=some (.string ls[i].key)/\(qA7 ls)[i*4+1]?=some (.int .i64 ls[i].b)/\(qA7 ls)[i*4+2]?=some (.int .u64 ls[i].s)/\(qA7 ls)[i*4+3]?=some (.pointer ls[i].ptr):=by
 induction ls generalizing i with
 | nil=>simp at h
 | cons p ps ih=>
  cases i with
  | zero=>simp[qA7,lcs]
  | succ i=>
   have:=ih (i:=i) (by simpa using h);have e:∀ c,(qA7 (p::ps))[(i+1)*4+c]?=(qA7 ps)[i*4+c]?:=λc=>by
    rw[show qA7 (p::ps)=.string p.key::.int .i64 p.b::.int .u64 p.s::.pointer p.ptr::qA7 ps from rfl,show (i+1)*4+c=i*4+c+1+1+1+1 by omega];simp
   have a:=e 0;rw[Nat.add_zero,Nat.add_zero] at a;rw[a,e 1,e 2,e 3];simpa using this
theorem Slc.link{w}{v}{ls}(h:Slc w 87 4 v ls.length (qA7 ls))(m:1<=ls.length):
  ∃ g a cap cur d,v=.slice (some ⟨g,a,none⟩) ls.length cap/\ls.length<=cap/\w.heap[g]?=some (.cells cur 87 d)/\∀ i (h:i<ls.length),cur[a+i*4]?=some (.string ls[i].key)/\cur[a+i*4+1]?=some (.int .i64 ls[i].b)/\cur[a+i*4+2]?=some (.int .u64 ls[i].s)/\cur[a+i*4+3]?=some (.pointer ls[i].ptr):=by
 rcases h.val with⟨k,_⟩|⟨g,a,cap,cur,d,e,l,f,j,b⟩
 .omega
 .exact⟨g,a,cap,cur,d,e,f,j,λi c=>⟨b _ _ (qV9 c).1,b _ _ (qV9 c).2.1,b _ _ (qV9 c).2.2.1,b _ _ (qV9 c).2.2.2⟩⟩
theorem jN0(g F L:Nat)(cap)(v)(ps)(f:KV->Bool)(i:Nat)(w)(l:w.heap[F]?=some (.cells #[.func (.func g) #[] cap] 215))(m:w.heap[L]?=some (.cells #[v] 186))
  (r:Slc w 185 2 v ps.length (qA3 ps)) (A:i<ps.length) (E:ps.length<=1000000)
  (C:∀ (args) (W),Sem.run prog (callFunc g args) W=.ok (.enter g args) W)
  (p:∀ W,Kp [] w W->Calls prog g (#[.agg #[.string ps[i].k,.string ps[i].v]]++cap) W λe W'=>e=.returned (.bool (f ps[i]))/\Kp [] W W'):
  Calls prog 214 #[.int .i64 i,.pointer (some ⟨F,0,none⟩),.pointer (some ⟨L,0,none⟩)] w λe B=>e=.returned (.bool (f ps[i]))/\Kp [] w B:=by
 obtain⟨h,d,k,cur,y,rfl,D,q,o⟩:=r.pair oM;obtain⟨c0,x⟩:=o i A;have s:=zh p;clear p r o;go_enter func214,ntmps214;go_wp2_with fail;have b:=n3 l m q;refine wp_region_held_drew (S:=λW=>Ϙ W F (.cells #[.func (.func g) #[] cap] 215)/\Ϙ W L (.cells #[.slice (some ⟨h,d,none⟩) ps.length k] 186)/\Ϙ W h (.cells cur 185 y)) kR b (λ_=>?_);refine zV 0 (.func (.func g) #[] cap) rfl (λW a=>by have c:=ξ a.1 0;simp at c;clear a;go_simp) b ?_;refine zV 1 (.slice (some ⟨h,d,none⟩) ps.length k) rfl (λW a=>by have c:=ξ a.2.1 0;simp at c;clear a;go_simp) b ?_;refine zU 2 (ϊ i) b ?_;refine zU 3 (.pointer (some ⟨h,d+i*2,none⟩)) b ?_;refine zV 4 (.agg #[.string ps[i].k,.string ps[i].v]) rfl (λW a=>by have t:=ξ a.2.2 (d+i*2);rw[c0] at t;have u:=ξ a.2.2 (d+i*2+1);rw[x] at u;clear a;go_simp) b ?_;refine zq 5 λK hK=>?_;go_simp;refine (s w.drew (kF.drew)).mono ?_;rintro e w1 ⟨rfl,z⟩;have j:Kp [] w w1:=((Kp.refl _ w).drew).tr z;have n:=And.intro (j.hp l) (And.intro (j.hp m) (j.hp q));refine zk hK n ?_
 refine zq 6 λK hK=>?_;go_simp;refine hK.out _ _ n (λ_=>?_);refine zd ?_;go_wp2;go_ret;exact⟨rfl,j⟩
theorem zM2(g:Nat)(cap)(v)(ps)(f:KV->Bool)(w)
  (t:Slc w 185 2 v ps.length (qA3 ps)) (s:ps.length<=1000000) (u:∀ i j (a:i<ps.length) (k:j<ps.length),i<=j->f ps[i]=true->f ps[j]=true)
  (E:∀ (args) (W),Sem.run prog (callFunc g args) W=.ok (.enter g args) W)
  (r:∀ W,Kp [] w W->∀ i (h:i<ps.length),Calls prog g (#[.agg #[.string ps[i].k,.string ps[i].v]]++cap) W λe l=>e=.returned (.bool (f ps[i]))/\Kp [] W l):
  Calls prog 146 #[v,.func (.func g) #[] cap] w λe J=>e=.returned (.int .i64 (ps.findIdx f:Nat))/\Kp [] w J:=by
 have L:=zM;obtain⟨n,o,I⟩:∃ n o,v=.slice n ps.length o:=by
  rcases t.val with⟨A,b,c,d,_⟩|⟨g,M,cap,cur,K,d,_⟩
  .rw[A];exact⟨b,c,d⟩
  .exact⟨_,cap,d⟩
 subst I;have y:=zh r;have z:=zh u;clear r u;go_enter func146,ntmps146;go_wp2_with fail;obtain⟨w1,x,D,B,q⟩:=alH w (.cells #[.slice n ps.length o] 186) (.cells #[.func (.func g) #[] cap] 215)
 rw[<-x];clear x;refine (xO3 214 _ ps.length (λi=>((ps[i]?.map f).getD false)) w1 s ?_ ?_ ?_).mono ?_
 .intro i j F k H;have a:i<ps.length:=oM
  simp only[gQ a,gQ k,Option.map_some,Option.getD_some] at *;exact z i j a k F H
 .intro args W;simp[go_sem,func214]
 .intro W m i a;refine (jN0 g (w.heap.size+1) w.heap.size cap _ ps f i W (m.hp B) (m.hp D) (t.keep0 (q.tr m)) a s E (λl p=>y l ((q.tr m).tr p) i a)).mono ?_;rintro e l ⟨rfl,p⟩;exact⟨by simp[gQ a],p⟩
 .rintro e N ⟨i,rfl,⟨d,h2,h3⟩,hK2⟩;have e:=xD6 d (λj k G=>by
   have:=h2 j G;simpa [gQ k] using this) (λh=>by
   have:=h3 h;simpa [gQ h] using this)
  subst e;have C:=q.tr hK2;go_wp2;go_ret;exact⟨rfl,C⟩
theorem jM8(g F L:Nat)(cap)(v)(ps)(f:HL->Bool)(i:Nat)(w)(l:w.heap[F]?=some (.cells #[.func (.func g) #[] cap] 217))(m:w.heap[L]?=some (.cells #[v] 156))
  (r:Slc w 87 4 v ps.length (qA7 ps)) (E:i<ps.length) (J:ps.length<=1000000)
  (H:∀ (args) (W),Sem.run prog (callFunc g args) W=.ok (.enter g args) W)
  (p:∀ W,Kp [] w W->Calls prog g (#[.agg #[.string ps[i].key,.int .i64 ps[i].b,.int .u64 ps[i].s,.pointer ps[i].ptr]]++cap) W λe W'=>e=.returned (.bool (f ps[i]))/\Kp [] W W'):
  Calls prog 256 #[.int .i64 i,.pointer (some ⟨F,0,none⟩),.pointer (some ⟨L,0,none⟩)] w λe G=>e=.returned (.bool (f ps[i]))/\Kp [] w G:=by
 obtain⟨h,b,k,cur,C,rfl,I,q,o⟩:=r.link oM;obtain⟨c0,z,A,B⟩:=o i E;have s:=zh p;clear p r o;go_enter func256,ntmps256;go_wp2_with fail;have d:=n3 l m q;refine wp_region_held_drew (S:=λW=>Ϙ W F (.cells #[.func (.func g) #[] cap] 217)/\Ϙ W L (.cells #[.slice (some ⟨h,b,none⟩) ps.length k] 156)/\Ϙ W h (.cells cur 87 C)) kR d (λ_=>?_);refine zV 0 (.func (.func g) #[] cap) rfl (λW a=>by have c:=ξ a.1 0;simp at c;clear a;go_simp) d ?_;refine zV 1 (.slice (some ⟨h,b,none⟩) ps.length k) rfl (λW a=>by have c:=ξ a.2.1 0;simp at c;clear a;go_simp) d ?_;refine zU 2 (ϊ i) d ?_;refine zU 3 (.pointer (some ⟨h,b+i*4,none⟩)) d ?_;refine zV 4 (.agg #[.string ps[i].key,ϊ ps[i].b,.int .u64 ps[i].s,.pointer ps[i].ptr]) rfl (λW a=>by have t:=ξ a.2.2 (b+i*4);rw[c0] at t;have u:=ξ a.2.2 (b+i*4+1);rw[z] at u;have x:=ξ a.2.2 (b+i*4+2);rw[A] at x;have y:=ξ a.2.2 (b+i*4+3);rw[B] at y;clear a;go_simp) d ?_;refine zq 5 λK hK=>?_;go_simp;refine (s w.drew (kF.drew)).mono ?_;rintro e w1 ⟨rfl,D⟩;have j:Kp [] w w1:=((Kp.refl _ w).drew).tr D;have n:=And.intro (j.hp l) (And.intro (j.hp m) (j.hp q));refine zk hK n ?_
 refine zq 6 λK hK=>?_;go_simp;refine hK.out _ _ n (λ_=>?_);refine zd ?_;go_wp2;go_ret;exact⟨rfl,j⟩
theorem jM9(g:Nat)(cap)(v)(ps)(f:HL->Bool)(w)
  (t:Slc w 87 4 v ps.length (qA7 ps)) (s:ps.length<=1000000) (u:∀ i j (a:i<ps.length) (k:j<ps.length),i<=j->f ps[i]=true->f ps[j]=true)
  (E:∀ (args) (W),Sem.run prog (callFunc g args) W=.ok (.enter g args) W)
  (r:∀ W,Kp [] w W->∀ i (h:i<ps.length),Calls prog g (#[.agg #[.string ps[i].key,.int .i64 ps[i].b,.int .u64 ps[i].s,.pointer ps[i].ptr]]++cap) W λe l=>e=.returned (.bool (f ps[i]))/\Kp [] W l):
  Calls prog 215 #[v,.func (.func g) #[] cap] w λe J=>e=.returned (.int .i64 (ps.findIdx f:Nat))/\Kp [] w J:=by
 have L:=zM;obtain⟨n,o,I⟩:∃ n o,v=.slice n ps.length o:=by
  rcases t.val with⟨A,b,c,d,_⟩|⟨g,M,cap,cur,K,d,_⟩
  .rw[A];exact⟨b,c,d⟩
  .exact⟨_,cap,d⟩
 subst I;have y:=zh r;have z:=zh u;clear r u;go_enter func215,ntmps215;go_wp2_with fail;obtain⟨w1,x,D,B,q⟩:=alH w (.cells #[.slice n ps.length o] 156) (.cells #[.func (.func g) #[] cap] 217)
 rw[<-x];clear x;refine (xO3 256 _ ps.length (λi=>((ps[i]?.map f).getD false)) w1 s ?_ ?_ ?_).mono ?_
 .intro i j F k H;have a:i<ps.length:=oM
  simp only[gQ a,gQ k,Option.map_some,Option.getD_some] at *;exact z i j a k F H
 .intro args W;simp[go_sem,func256]
 .intro W m i a;refine (jM8 g (w.heap.size+1) w.heap.size cap _ ps f i W (m.hp B) (m.hp D) (t.keep0 (q.tr m)) a s E (λl p=>y l ((q.tr m).tr p) i a)).mono ?_;rintro e l ⟨rfl,p⟩;exact⟨by simp[gQ a],p⟩
 .rintro e N ⟨i,rfl,⟨d,h2,h3⟩,hK2⟩;have e:=xD6 d (λj k G=>by
   have:=h2 j G;simpa [gQ k] using this) (λh=>by
   have:=h3 h;simpa [gQ h] using this)
  subst e;have C:=q.tr hK2;go_wp2;go_ret;exact⟨rfl,C⟩
abbrev ϟ(v:Nat)(h:HL):Array Value:=#[.pointer (some ⟨v,0,none⟩),.string h.key,.int .i64 h.b,.int .u64 h.s,.pointer h.ptr]
abbrev ϡ(h:HL):Array Value:=#[.string h.key,.int .i64 h.b,.int .u64 h.s,.pointer h.ptr]
theorem jW7(g F:Nat)(cap:Array Value)(p:KV)(r:Bool)(w:World)(a:w.heap[F]?=some (.cells #[.func (.func g) #[] cap] 215))
  (k:∀ (args:Array Value) (W:World),Sem.run prog (callFunc g args) W=.ok (.enter g args) W)
  (b:∀ W,Kp [] w W->Calls prog g (#[.agg #[.string p.k,.string p.v]]++cap) W λe W'=>e=.returned (.bool r)/\Kp [] W W'):
  Calls prog 219 #[.agg #[.string p.k,.string p.v],.pointer (some ⟨F,0,none⟩)] w λe h=>e=.returned (.bool !r)/\Kp [] w h:=by
 have c:=zh b;clear b;have j:=ζ a;have i:=ϻ a 0;go_enter func219,ntmps219;go_wp2_with fail;refine (c _ (kF.alloc _)).mono ?_;rintro e w1 ⟨rfl,d⟩;have f:Kp [] w w1:=(kF.alloc _).tr d;go_wp2;go_ret;exact⟨rfl,f⟩
theorem jW8(g:Nat)(cap)(v)(ps)(f:KV->Bool)(w)
  (A:Slc w 185 2 v ps.length (qA3 ps)) (z:ps.length<=1000000) (k:∀ i j (a:i<ps.length) (m:j<ps.length),i<=j->f ps[j]=true->f ps[i]=true)
  (x:∀ (args) (W),Sem.run prog (callFunc g args) W=.ok (.enter g args) W)
  (l:∀ W,Kp [] w W->∀ i (h:i<ps.length),Calls prog g (#[.agg #[.string ps[i].k,.string ps[i].v]]++cap) W λe b=>e=.returned (.bool (f ps[i]))/\Kp [] W b):
  Calls prog 154 #[v,.func (.func g) #[] cap] w λe B=>e=.returned (.int .i64 (ps.findIdx (λp=>!f p)-1:Nat))/\Kp [] w B:=by
 have D:=zM;have o:=zh l;have q:=zh k;clear l k;go_enter func154,ntmps154;go_wp2_with fail;have r:=υ w (.cells #[.func (.func g) #[] cap] 215);have c:Kp [] w (w.alloc (.cells #[.func (.func g) #[] cap] 215)):=kF.alloc _;refine (zM2 219 _ v ps (λp=>!f p) _ (A.keep0 c) z ?_ ?_ ?_).mono ?_
 .intro i j a m y n;by_cases e:f ps[j]=true
  .rw[q.out i j a m y e] at n;simp at n
  .simpa using e
 .intro args W;simp[go_sem,func219]
 .intro W d i a;exact jW7 g w.heap.size cap ps[i] (f ps[i]) W (d.hp r) x (λb s=>o b ((c.tr d).tr s) i a)
 .rintro e E ⟨rfl,t⟩;have u:=c.tr t;have C:ps.findIdx (λp=>!f p)<=ps.length:=fL;go_wp2
  all_goals
   go_ret;exact⟨qJ5 oM,u⟩
theorem jW6(g F:Nat)(cap:Array Value)(p:HL)(r:Bool)(w:World)(a:w.heap[F]?=some (.cells #[.func (.func g) #[] cap] 217))
  (k:∀ (args:Array Value) (W:World),Sem.run prog (callFunc g args) W=.ok (.enter g args) W)
  (b:∀ W,Kp [] w W->Calls prog g (#[.agg #[.string p.key,.int .i64 p.b,.int .u64 p.s,.pointer p.ptr]]++cap) W λe W'=>e=.returned (.bool r)/\Kp [] W W'):
  Calls prog 216 #[.agg #[.string p.key,.int .i64 p.b,.int .u64 p.s,.pointer p.ptr],.pointer (some ⟨F,0,none⟩)] w λe h=>e=.returned (.bool !r)/\Kp [] w h:=by
 have c:=zh b;clear b;have j:=ζ a;have i:=ϻ a 0;go_enter func216,ntmps216;go_wp2_with fail;refine (c _ (kF.alloc _)).mono ?_;rintro e w1 ⟨rfl,d⟩;have f:Kp [] w w1:=(kF.alloc _).tr d;go_wp2;go_ret;exact⟨rfl,f⟩
theorem zO0(g:Nat)(cap)(v)(ps)(f:HL->Bool)(w)
  (A:Slc w 87 4 v ps.length (qA7 ps)) (z:ps.length<=1000000) (k:∀ i j (a:i<ps.length) (m:j<ps.length),i<=j->f ps[j]=true->f ps[i]=true)
  (x:∀ (args) (W),Sem.run prog (callFunc g args) W=.ok (.enter g args) W)
  (l:∀ W,Kp [] w W->∀ i (h:i<ps.length),Calls prog g (#[.agg #[.string ps[i].key,.int .i64 ps[i].b,.int .u64 ps[i].s,.pointer ps[i].ptr]]++cap) W λe b=>e=.returned (.bool (f ps[i]))/\Kp [] W b):
  Calls prog 148 #[v,.func (.func g) #[] cap] w λe B=>e=.returned (.int .i64 (ps.findIdx (λp=>!f p)-1:Nat))/\Kp [] w B:=by
 have D:=zM;have o:=zh l;have q:=zh k;clear l k;go_enter func148,ntmps148;go_wp2_with fail;have r:=υ w (.cells #[.func (.func g) #[] cap] 217);have c:Kp [] w (w.alloc (.cells #[.func (.func g) #[] cap] 217)):=kF.alloc _;refine (jM9 216 _ v ps (λp=>!f p) _ (A.keep0 c) z ?_ ?_ ?_).mono ?_
 .intro i j a m y n;by_cases e:f ps[j]=true
  .rw[q.out i j a m y e] at n;simp at n
  .simpa using e
 .intro args W;simp[go_sem,func216]
 .intro W d i a;exact jW6 g w.heap.size cap ps[i] (f ps[i]) W (d.hp r) x (λb s=>o b ((c.tr d).tr s) i a)
 .rintro e E ⟨rfl,t⟩;have u:=c.tr t;have C:ps.findIdx (λp=>!f p)<=ps.length:=fL;go_wp2
  all_goals
   go_ret;exact⟨qJ5 oM,u⟩
def ι(lvl:Int)(vp vl:Value):Obj:=.cells #[.int .i64 lvl,vp,vl] 213
theorem kR5(K:Nat)(k:ByteArray)(p:HL)(w:World)(hK:w.heap[K]?=some (.cells #[.string k] 9)):
  Calls prog 221 #[.agg #[.string p.key,.int .i64 p.b,.int .u64 p.s,.pointer p.ptr],.pointer (some ⟨K,0,none⟩)] w λe a=>e=.returned (.bool !kl k p.key)/\Kp [] w a:=by
 have b:=ζ hK;have c:=ϻ hK 0;go_enter func221,ntmps221;go_wp2;go_ret;exact⟨by rw[<-xE7];rfl,kF.alloc _⟩
def Rise(ls:List HL):Prop:=ls.Pairwise fun a b=>kl a.key b.key=true
theorem Rise.at{ls}(h:Rise ls){i j:Nat}(a:i<ls.length)(c:j<ls.length)(b:i<j):kl ls[i].key ls[j].key=true:=
 pG h i j a c b
theorem zU1(q:Nat)(v:Int)(vp vl)(ls)(k)(w)(g:w.heap[q]?=some (ι v vp vl))(u:Slc w 87 4 vl ls.length (qA7 ls))(s:ls.length<=1000000)(t:Rise ls):
  Calls prog 158 #[.pointer (some ⟨q,0,none⟩),.string k] w λe y=>e=.returned (.int .i64 (ls.findIdx (λl=>kl k l.key)-1:Nat))/\Kp [] w y:=by
 have A:=zM;have B:=ζ g;have x:=ξ g 2;simp only[ι,zG,zH,zI] at x;go_enter func158,ntmps158;go_wp2_with fail;have m:=υ w (.cells #[.string k] 9);have b:Kp [] w (w.alloc (.cells #[.string k] 9)):=kF.alloc _;refine (zO0 221 _ vl ls (λl=>!kl k l.key) _ (u.keep0 b) s ?_ ?_ ?_).mono ?_
 .intro i j c r z d;by_cases e:i=j
  .subst e;exact d
  .have h:=t.at c r oM;have f:kl k ls[j].key=false:=by simpa using d
   by_cases a:kl k ls[i].key=true
   .rw[qO4 a h] at f;cases f
   .simpa using a
 .intro args W;simp[go_sem,func221]
 .intro W p i c;exact kR5 w.heap.size k ls[i] W (p.hp m)
 .rintro e C ⟨rfl,n⟩;have o:=b.tr n;go_wp2;go_ret;exact⟨sM,o⟩
theorem kN4(K:Nat)(k:ByteArray)(p:KV)(w:World)(hK:w.heap[K]?=some (.cells #[.string k] 9)):
  Calls prog 222 #[.agg #[.string p.k,.string p.v],.pointer (some ⟨K,0,none⟩)] w λe a=>e=.returned (.bool !kl p.k k)/\Kp [] w a:=by
 have b:=ζ hK;have c:=ϻ hK 0;go_enter func222,ntmps222;go_wp2;go_ret;exact⟨rfl,kF.alloc _⟩
theorem kN5{ps}(g:Sorted ps)(k):∀ i j (c:i<ps.length) (d:j<ps.length),i<=j->(!kl ps[i].k k)=true->(!kl ps[j].k k)=true:=by
 intro i j c d h a;by_cases e:i=j
 .subst e;exact a
 .have f:=pG g i j c d oM;by_cases b:kl ps[j].k k=true
  .rw[qO4 f b] at a;cases a
  .simpa using b
theorem zH7(q:Nat)(K:Int)(vp vl)(ps)(k)(w)(d:w.heap[q]?=some (ι K vp vl))(s:Slc w 185 2 vp ps.length (qA3 ps))(H:ps.length<=1000000)(I:Sorted ps):
  Calls prog 159 #[.pointer (some ⟨q,0,none⟩),.string k] w λe M=>e=.returned (.tuple #[.int .i64 (qB0 ps k),.bool (qG7 ps (qB0 ps k) k)])/\Kp [] w M:=by
 have R:=zM;have z:=ζ d;have f:=ξ d 1;simp only[ι,zG,zH,zI] at f;go_enter func159,ntmps159;go_wp2_with fail;have l:=υ w (.cells #[.string k] 9);have m:Kp [] w (w.alloc (.cells #[.string k] 9)):=kF.alloc _;refine (zM2 222 _ vp ps (λp=>!kl p.k k) _ (s.keep0 m) H (kN5 I k) ?_ ?_).mono ?_
 .intro args W;simp[go_sem,func222]
 .intro W E i o;exact kN4 w.heap.size k ps[i] W (E.hp l)
 rintro e T ⟨rfl,n⟩;have a:=m.tr n;have y:=a.hp d;have x:=n.hp l;have t:=s.keep0 a;have e:ps.findIdx (λp=>!kl p.k k)=qB0 ps k:=rfl;rw[e];clear n m l s d f z e;have z:=ζ y;have Q:=ζ x;have f:=ξ y 1;simp only[ι,zG,zH,zI] at f;have S:=ϻ x 0;have G:=qX0 ps k;obtain⟨i,r⟩:=eY (qB0 ps k);rw[r] at G |-;by_cases o:i<ps.length
 .obtain⟨N,B,h,cur,C,rfl,O,A,v⟩:=t.pair oM;obtain⟨c0,_⟩:=v i o;have L:=ξ A (B+i*2);rw[c0] at L;have P:=ζ A;have F:(i:Int)<(ps.length:Int):=oM
  clear v t;go_wp2_with fail
  go_quiet (fail)
  go_wp2
  go_ret2
  refine⟨?_,a.drewN _⟩;rw[r];simp[qG7,gQ o,zH4]
 .have F:¬(i:Int)<(ps.length:Int):=oM
  obtain⟨u,h,J⟩:∃ u h,vp=.slice u ps.length h:=by
   rcases t.val with⟨D,b,c,j,_⟩|⟨g,B,cap,cur,C,j,_⟩
   .rw[D];exact⟨b,c,j⟩
   .exact⟨_,cap,j⟩
  subst J;go_wp2_with fail
  go_quiet (fail)
  go_wp2
  go_ret2
  refine⟨?_,a.drewN _⟩;rw[r];have:qG7 ps i k=false:=by unfold qG7;rw[gN oM]
  rw[this];rfl
def qA0(l:HL):Nat:=11+l.key.size
theorem xO7(p)(w)(a:ρ p<=1000):
  Calls prog 340 #[.agg #[.string p.k,.string p.v]] w λe b=>e=.returned (.int .i64 (ρ p))/\Kp [] w b:=by
 unfold ρ at a;go_enter func340,ntmps340;go_wp2;go_ret;exact⟨qJ5 (by unfold ρ;omega),kF.alloc _⟩
theorem xO6(p)(w)(a:qA0 p<=1000):
  Calls prog 334 #[.agg #[.string p.key,.int .i64 p.b,.int .u64 p.s,.pointer p.ptr]] w λe b=>e=.returned (.int .i64 (qA0 p))/\Kp [] w b:=by
 unfold qA0 at a;go_enter func334,ntmps334;go_wp2;go_ret;exact⟨qJ5 (by unfold qA0;omega),kF.alloc _⟩
theorem jZ3(p:KV)(w:World):
  Calls prog 339 #[.agg #[.string p.k,.string p.v]] w λe a=>e=.returned (.string p.k)/\Kp [] w a:=by
 go_enter func339,ntmps339;go_wp2;go_ret;exact⟨rfl,kF.alloc _⟩
theorem jZ2(p:HL)(w:World):
  Calls prog 333 #[.agg #[.string p.key,.int .i64 p.b,.int .u64 p.s,.pointer p.ptr]] w λe a=>e=.returned (.string p.key)/\Kp [] w a:=by
 go_enter func333,ntmps333;go_wp2;go_ret;exact⟨rfl,kF.alloc _⟩
theorem qL6{α:Type}(f:α->Nat)(l:List α)(j:Nat)(h:j<l.length):meas f (l.take (j+1))=meas f (l.take j)+f l[j]:=by
 rw[tA h,qD7,qC1,qD6];omega
theorem qO6{α:Type}(f:α->Nat)(l:List α)(j:Nat):meas f (l.take j)<=meas f l:=by
 have:=qN8 f l j;omega
theorem jZ6(v)(ps)(w)(k:Slc w 185 2 v ps.length (qA3 ps))(P:ps.length<=1000000)(q:∀ p∈ps,ρ p<=1000)(N:meas ρ ps<=1000000):
  Calls prog 272 #[v] w λe H=>e=.returned (.int .i64 (meas ρ ps))/\Kp [] w H:=by
 obtain⟨m,n,a⟩:∃ m n,v=.slice m ps.length n:=by
  rcases k.val with⟨B,b,c,d,_⟩|⟨g,l,cap,cur,A,d,_⟩
  .rw[B];exact⟨b,c,d⟩
  .exact⟨_,cap,d⟩
 subst a;have t:=zh k;have u:=zh q;clear k q;go_enter func272,ntmps272;go_wp2
 go_loopw [3,8] (λs i wr=>∃ (j:Nat),j<=ps.length/\i=.int .i64 j/\s=.int .i64 (meas ρ (ps.take j):Nat)/\Kp [] w wr) (λ_ i _=>ps.length-(intOf i).toNat)
 case atStart=>exact⟨0,zL _,rfl,rfl,Kp.refl _ _⟩
 case round=>
  obtain⟨j,M,rfl,rfl,hK⟩:=hrel;by_cases h:j<ps.length
  .obtain⟨J,l,I,cur,A,a,K,F,o⟩:=t.out.pair oM;obtain⟨c0,z⟩:=o j h;simp only[vJ,true_and] at a;obtain⟨rfl,rfl⟩:=a;have f:=hK.hp F;have x:=ξ f (l+j*2);rw[c0] at x;have y:=ξ f (l+j*2+1);rw[z] at y;have L:=ζ f;have E:(j:Int)<(ps.length:Int):=oM
   have G:=u.out ps[j] (gM h);have O:=qO6 ρ ps j;have r:=zh (qL6 ρ ps j h);clear o;go_wp2_with fail;refine (xO7 ps[j] _ G).mono ?_;rintro e w1 ⟨rfl,C⟩;have D:=((hK.alloc _)).tr C;go_wp2;refine⟨⟨j+1,oM,by go_num,by rw[r.out];go_num,D⟩,by simp[intOf];omega⟩
  .have E:¬(j:Int)<(ps.length:Int):=oM
   go_wp2;go_ret;exact⟨qJ5 (by rw[tL oM]),hK⟩
theorem jZ5(v)(ps)(w)(l:Slc w 87 4 v ps.length (qA7 ps))(T:ps.length<=1000000)(q:∀ p∈ps,qA0 p<=1000)(R:meas qA0 ps<=1000000):
  Calls prog 276 #[v] w λe L=>e=.returned (.int .i64 (meas qA0 ps))/\Kp [] w L:=by
 obtain⟨m,n,f⟩:∃ m n,v=.slice m ps.length n:=by
  rcases l.val with⟨F,b,c,h,_⟩|⟨g,d,cap,cur,E,h,_⟩
  .rw[F];exact⟨b,c,h⟩
  .exact⟨_,cap,h⟩
 subst f;have t:=zh l;have u:=zh q;clear l q;go_enter func276,ntmps276;go_wp2
 go_loopw [3,8] (λs i wr=>∃ (j:Nat),j<=ps.length/\i=.int .i64 j/\s=.int .i64 (meas qA0 (ps.take j):Nat)/\Kp [] w wr) (λ_ i _=>ps.length-(intOf i).toNat)
 case atStart=>exact⟨0,zL _,rfl,rfl,Kp.refl _ _⟩
 case round=>
  obtain⟨j,Q,rfl,rfl,hK⟩:=hrel;by_cases k:j<ps.length
  .obtain⟨N,d,M,cur,E,f,O,J,o⟩:=t.out.link oM;obtain⟨c0,B,C,D⟩:=o j k;simp only[vJ,true_and] at f;obtain⟨rfl,rfl⟩:=f;have a:=hK.hp J;have x:=ξ a (d+j*4);rw[c0] at x;have y:=ξ a (d+j*4+1);rw[B] at y;have z:=ξ a (d+j*4+2);rw[C] at z;have A:=ξ a (d+j*4+3);rw[D] at A;have P:=ζ a;have I:(j:Int)<(ps.length:Int):=oM
   have K:=u.out ps[j] (gM k);have S:=qO6 qA0 ps j;have r:=zh (qL6 qA0 ps j k);clear o;go_wp2_with fail;refine (xO6 ps[j] _ K).mono ?_;rintro e w1 ⟨rfl,G⟩;have H:=((hK.alloc _)).tr G;go_wp2;refine⟨⟨j+1,oM,by go_num,by rw[r.out];go_num,H⟩,by simp[intOf];omega⟩
  .have I:¬(j:Int)<(ps.length:Int):=oM
   go_wp2;go_ret;exact⟨qJ5 (by rw[tL oM]),hK⟩
theorem zM5{α:Type}(f:α->List Value)(sz:Nat)(a:∀ x,(f x).length=sz):∀ (l:List α) (i:Nat),(l.take i).flatMap f=(l.flatMap f).take (i*sz)
 | [],i=>by simp
 | x::l,0=>by simp
 | x::l,i+1=>by
  rw[List.take_succ_cons,fC,fC,zM5 f sz a l i,List.take_append];rw[tL (l:=f x) (by rw[a,Nat.succ_mul];omega),a,show (i+1)*sz-sz=i*sz by rw[Nat.succ_mul];omega]
theorem zM4{α:Type}(f:α->List Value)(sz:Nat)(a:∀ x,(f x).length=sz):∀ (l:List α) (i:Nat),(l.drop i).flatMap f=(l.flatMap f).drop (i*sz)
 | [],i=>by simp
 | x::l,0=>by simp
 | x::l,i+1=>by
  rw[List.drop_succ_cons,fC,zM4 f sz a l i,List.drop_append];rw[dL (l:=f x) (by rw[a,Nat.succ_mul];omega),a,show (i+1)*sz-sz=i*sz by rw[Nat.succ_mul];omega];simp
theorem xL7(ps)(i:Nat):qA3 (ps.take i)=(qA3 ps).take (i*2):=zM5 pcs 2 (λ_=>rfl) ps i
theorem xL4(ps)(i:Nat):qA3 (ps.drop i)=(qA3 ps).drop (i*2):=zM4 pcs 2 (λ_=>rfl) ps i
theorem xG7(ps)(i:Nat):qA7 (ps.take i)=(qA7 ps).take (i*4):=zM5 lcs 4 (λ_=>rfl) ps i
theorem xG5(ps)(i:Nat):qA7 (ps.drop i)=(qA7 ps).drop (i*4):=zM4 lcs 4 (λ_=>rfl) ps i
theorem qS1{w}{T}{sz g b n:Nat}{cur}{fr}{cs:List Value}(k:w.heap[g]?=some (.cells cur T fr))(f:∀ j u,cs[j]?=some u->cur[b+j]?=some u)(h:cs.length=n*sz)(i m c:Nat)(l:i+m<=n)(e:m<=c):
  Slc w T sz (.slice (some ⟨g,b+i*sz,none⟩) m c) m ((cs.drop (i*sz)).take (m*sz)):=by
 refine⟨?_,?_⟩
 .rw[lK,lD,h,<-Nat.mul_sub_right_distrib];have:=Nat.mul_le_mul_right sz (show m<=n-i by omega);omega
 .by_cases d:m=0
  .subst d;exact .inl ⟨rfl,_,_,rfl,sM⟩
  .refine .inr ⟨g,b+i*sz,c,cur,fr,rfl,oM,e,k,λj u a=>?_⟩;rw[List.getElem?_take] at a;split at a
   .rw[List.getElem?_drop] at a;rw[Nat.add_assoc];exact f _ _ a
   .cases a
theorem xA1{α:Type}(f:α->Nat)(a:Nat)(l:List α)(j n:Nat)(h:j<l.length)(b:2*n<a):qH0 f a (l.drop j) n=qH0 f a (l.drop (j+1)) (n+f l[j])+1:=by
 rw[dG h];simp[qH0,b]
theorem zZ9{α:Type}(f:α->Nat)(a:Nat)(l:List α)(n:Nat)(b:¬2*n<a):qH0 f a l n=0:=by
 cases l with
 | nil=>rfl
 | cons x l=>simp[qH0,b]
def zC4(w:World)(T:TypeId)(sz:Nat)(vs:List Value)(css:List (Nat × List Value)):Prop:=vs.length=css.length∧∀ i (h:i<css.length) (h':i<vs.length),Slc w T sz vs[i] css[i].1 css[i].2
theorem jR3(v)(ps)(w)(G:Slc w 185 2 v ps.length (qA3 ps))(hn:ps.length<=1000000)(V:∀ p∈ps,ρ p<=21)(hm:meas ρ ps<=1000000):
  Calls prog 241 #[v] w λe W=>∃ g vs,e=.returned (.slice (some ⟨g,0,none⟩) (qB7 ρ ps).length (qB7 ρ ps).length)/\W.heap[g]?=some (.cells vs.toArray 186)/\zC4 w 185 2 vs ((qB7 ρ ps).map λl=>(l.length,qA3 l))/\Kp [] w W:=by
 obtain⟨t,a,A⟩:∃ t a,v=.slice t ps.length a:=by
  rcases G.val with⟨L,b,c,m,_⟩|⟨g,d,cap,cur,fr,m,_⟩
  .rw[L];exact⟨b,c,m⟩
  .exact⟨_,cap,m⟩
 subst A;have r:=zh G;have B:=zh V;clear G V;go_enter func241,ntmps241;go_wp2_with fail;refine (jZ6 _ ps w r hn (λp hp=>lT (B p hp) oM) hm).mono ?_;rintro e w1 ⟨rfl,N⟩;by_cases D:meas ρ ps<=126
 .have hb:((meas ρ ps:Nat):Int)<=126:=oM
  go_wp2;go_ret;have n:Kp [] w (w1.alloc (.cells #[.slice t ps.length a] 186)):=N.alloc _;have e:qB7 ρ ps=[ps]:=by unfold qB7;rw[if_pos D]
  rw[e];refine⟨w1.heap.size,[.slice t ps.length a],rfl,υ _ _,⟨rfl,λi m h2=>?_⟩,n⟩;have:i=0:=by simp at m;omega
  subst this;exact r
 .have hb:¬((meas ρ ps:Nat):Int)<=126:=oM
  have ae:1<=ps.length:=by
   cases ps with
   | nil=>simp[meas] at D
   | cons x l=>simp
  obtain⟨f,d,ah,cur,fr,A,ak,z,P⟩:=r.out.pair ae;simp only[vJ,true_and] at A;obtain⟨rfl,rfl⟩:=A;go_wp2
  go_loopw [4,5] (λs q wr=>∃ (j:Nat),j<=ps.length/\s=.int .i64 j/\q=.int .i64 (meas ρ (ps.take j):Nat)/\qH0 ρ (meas ρ ps) ps 0=qH0 ρ (meas ρ ps) (ps.drop j) (meas ρ (ps.take j))+j/\Kp [] w wr) (λs _ _=>ps.length-(intOf s).toNat)
  case atStart=>exact⟨0,zL _,rfl,rfl,by simp[meas],N⟩
  case round=>
   obtain⟨j,hj,rfl,rfl,Q,hK⟩:=hrel;have H:=zh Q;clear Q;have aq:=qO6 ρ ps j;by_cases E:2*meas ρ (ps.take j)<meas ρ ps
   .have y:j<ps.length:=by
     by_cases h:j<ps.length
     .exact h
     .rw[tL oM] at E;omega
    obtain⟨c0,c1⟩:=P j y;have C:=hK.hp z;have Y:=ξ C (d+j*2);rw[c0] at Y;have Z:=ξ C (d+j*2+1);rw[c1] at Z;have al:=ζ C;have am:(j:Int)<(ps.length:Int):=oM
    have ad:2*((meas ρ (ps.take j):Nat):Int)<((meas ρ ps:Nat):Int):=oM
    have au:=B.out ps[j] (gM y);have J:=zh (qL6 ρ ps j y);have X:=zh (xA1 ρ _ ps j _ y E);clear P;go_wp2_with fail;refine (xO7 ps[j] _ oM).mono ?_;rintro e o ⟨rfl,n⟩;have ac:=hK.tr n;go_wp2;refine⟨⟨j+1,oM,by go_num,by rw[J.out];go_num,?_,ac⟩,by simp[intOf];omega⟩;rw[H.out,X.out,J.out];omega
   .have ad:¬2*((meas ρ (ps.take j):Nat):Int)<((meas ρ ps:Nat):Int):=oM
    have F:qH0 ρ (meas ρ ps) ps 0=j:=by rw[H.out,zZ9 _ _ _ _ E];omega
    have I:=zh F;clear F;go_wp2_with fail;have ao:j<ps.length:=by
     have S:=zD5 ρ (meas ρ ps) 21 ps 0 B oM oM;rw[I.out] at S;by_cases h:j<ps.length
     .exact h
     .rw[tL oM] at S;omega
    have ap:¬a=j:=oM
    have an:(j:Int)<=(ps.length:Int):=oM
    have F:(j:Int)<=(a:Int):=oM
    have ar:(ps.length:Int)<=(a:Int):=oM
    refine wp_region_any kR ?_;change wpAny _ _ _ _ _ _ _ (World.drew _);refine zu 0 (.slice (some ⟨f,d,none⟩) ps.length a) ?_;refine zu 1 (ϊ j) ?_;refine zu 2 (ϊ j) ?_;refine zu 3 (.slice (some ⟨f,d,none⟩) j j) ?_;refine zu 4 (.slice (some ⟨f,d,none⟩) ps.length a) ?_;refine zu 5 (ϊ j) ?_;refine zu 6 (.slice (some ⟨f,d+j*2,none⟩) (ps.length-j) (a-j)) ?_;have ab:=hK;refine zQ 7 λK hK=>?_;go_simp;obtain⟨o,U,aa,n⟩:∃ o,o=(wr.alloc (.cells #[.slice (some ⟨f,d,none⟩) j j,.slice (some ⟨f,d+j*2,none⟩) (ps.length-j) (a-j)] 186)).drew/\Ϙ o wr.heap.size (.cells #[.slice (some ⟨f,d,none⟩) j j,.slice (some ⟨f,d+j*2,none⟩) (ps.length-j) (a-j)] 186)/\Kp [] w o:=⟨_,rfl,υ _ _,(ab.alloc _).drew⟩;rw[<-U];clear U;refine hK _ _ ?_
    try simp only[zZ]
    refine zQ 8 λK hK=>?_;go_simp;refine hK _ _ ?_;refine wpAny_done kR ?_ _;go_wp2;go_ret;have e:qB7 ρ ps=[ps.take j,ps.drop j]:=by unfold qB7;rw[if_neg D,I.out]
    rw[e];obtain⟨R,af⟩:=r.out;have O:∀ k u,(qA3 ps)[k]?=some u->cur[d+k]?=some u:=by
     rcases af with⟨L,_⟩|⟨g',av,ag,ai,aj,m,_,_,M,h5⟩
     .omega
     .simp only[vJ,Option.some.injEq,Addr.mk.injEq] at m;obtain⟨⟨rfl,rfl,_⟩,_,_⟩:=m;rw[z] at M;cases M;exact h5
    refine⟨wr.heap.size,[.slice (some ⟨f,d,none⟩) j j,.slice (some ⟨f,d+j*2,none⟩) (ps.length-j) (a-j)],rfl,aa,⟨rfl,λi m h2=>?_⟩,n⟩;have hi:i=0\/i=1:=by simp at m;omega
    rcases hi with rfl|rfl
    .have:=qS1 (T:=185) (sz:=2) z O R 0 j j oM lR;simp only[Nat.zero_mul,Nat.add_zero,dZ] at this;rw[<-xL7] at this;simpa [Nat.min_eq_left hj] using this
    .have:=qS1 (T:=185) (sz:=2) z O R j (ps.length-j) (a-j) oM oM;rw[<-xL4,tL (by rw[qQ9];simp)] at this;simpa using this
theorem jR2(v)(ps)(w)(G:Slc w 87 4 v ps.length (qA7 ps))(hn:ps.length<=1000000)(V:∀ p∈ps,qA0 p<=21)(hm:meas qA0 ps<=1000000):
  Calls prog 258 #[v] w λe W=>∃ g vs,e=.returned (.slice (some ⟨g,0,none⟩) (qB7 qA0 ps).length (qB7 qA0 ps).length)/\W.heap[g]?=some (.cells vs.toArray 156)/\zC4 w 87 4 vs ((qB7 qA0 ps).map λl=>(l.length,qA7 l))/\Kp [] w W:=by
 obtain⟨y,d,B⟩:∃ y d,v=.slice y ps.length d:=by
  rcases G.val with⟨L,b,c,m,_⟩|⟨g,a,cap,cur,fr,m,_⟩
  .rw[L];exact⟨b,c,m⟩
  .exact⟨_,cap,m⟩
 subst B;have t:=zh G;have C:=zh V;clear G V;go_enter func258,ntmps258;go_wp2_with fail;refine (jZ5 _ ps w t hn (λp hp=>lT (C p hp) oM) hm).mono ?_;rintro e w1 ⟨rfl,N⟩;by_cases D:meas qA0 ps<=126
 .have hb:((meas qA0 ps:Nat):Int)<=126:=oM
  go_wp2;go_ret;have n:Kp [] w (w1.alloc (.cells #[.slice y ps.length d] 156)):=N.alloc _;have e:qB7 qA0 ps=[ps]:=by unfold qB7;rw[if_pos D]
  rw[e];refine⟨w1.heap.size,[.slice y ps.length d],rfl,υ _ _,⟨rfl,λi m h2=>?_⟩,n⟩;have:i=0:=by simp at m;omega
  subst this;exact t
 .have hb:¬((meas qA0 ps:Nat):Int)<=126:=oM
  have ae:1<=ps.length:=by
   cases ps with
   | nil=>simp[meas] at D
   | cons x l=>simp
  obtain⟨f,a,ah,cur,fr,B,ak,A,P⟩:=t.out.link ae;simp only[vJ,true_and] at B;obtain⟨rfl,rfl⟩:=B;go_wp2
  go_loopw [4,5] (λs q wr=>∃ (j:Nat),j<=ps.length/\s=.int .i64 j/\q=.int .i64 (meas qA0 (ps.take j):Nat)/\qH0 qA0 (meas qA0 ps) ps 0=qH0 qA0 (meas qA0 ps) (ps.drop j) (meas qA0 (ps.take j))+j/\Kp [] w wr) (λs _ _=>ps.length-(intOf s).toNat)
  case atStart=>exact⟨0,zL _,rfl,rfl,by simp[meas],N⟩
  case round=>
   obtain⟨j,hj,rfl,rfl,Q,hK⟩:=hrel;have H:=zh Q;clear Q;have aq:=qO6 qA0 ps j;by_cases E:2*meas qA0 (ps.take j)<meas qA0 ps
   .have z:j<ps.length:=by
     by_cases h:j<ps.length
     .exact h
     .rw[tL oM] at E;omega
    obtain⟨c0,c1,c2,c3⟩:=P j z;have o:=hK.hp A;have Y:=ξ o (a+j*4);rw[c0] at Y;have Z:=ξ o (a+j*4+1);rw[c1] at Z;have a2:=ξ o (a+j*4+2);rw[c2] at a2;have a3:=ξ o (a+j*4+3);rw[c3] at a3;have al:=ζ o;have am:(j:Int)<(ps.length:Int):=oM
    have ad:2*((meas qA0 (ps.take j):Nat):Int)<((meas qA0 ps:Nat):Int):=oM
    have au:=C.out ps[j] (gM z);have J:=zh (qL6 qA0 ps j z);have X:=zh (xA1 qA0 _ ps j _ z E);clear P;go_wp2_with fail;refine (xO6 ps[j] _ oM).mono ?_;rintro e r ⟨rfl,n⟩;have ac:=hK.tr n;go_wp2;refine⟨⟨j+1,oM,by go_num,by rw[J.out];go_num,?_,ac⟩,by simp[intOf];omega⟩;rw[H.out,X.out,J.out];omega
   .have ad:¬2*((meas qA0 (ps.take j):Nat):Int)<((meas qA0 ps:Nat):Int):=oM
    have F:qH0 qA0 (meas qA0 ps) ps 0=j:=by rw[H.out,zZ9 _ _ _ _ E];omega
    have I:=zh F;clear F;go_wp2_with fail;have ao:j<ps.length:=by
     have S:=zD5 qA0 (meas qA0 ps) 21 ps 0 C oM oM;rw[I.out] at S;by_cases h:j<ps.length
     .exact h
     .rw[tL oM] at S;omega
    have ap:¬d=j:=oM
    have an:(j:Int)<=(ps.length:Int):=oM
    have F:(j:Int)<=(d:Int):=oM
    have ar:(ps.length:Int)<=(d:Int):=oM
    refine wp_region_any kR ?_;change wpAny _ _ _ _ _ _ _ (World.drew _);refine zu 0 (.slice (some ⟨f,a,none⟩) ps.length d) ?_;refine zu 1 (ϊ j) ?_;refine zu 2 (ϊ j) ?_;refine zu 3 (.slice (some ⟨f,a,none⟩) j j) ?_;refine zu 4 (.slice (some ⟨f,a,none⟩) ps.length d) ?_;refine zu 5 (ϊ j) ?_;refine zu 6 (.slice (some ⟨f,a+j*4,none⟩) (ps.length-j) (d-j)) ?_;have ab:=hK;refine zQ 7 λK hK=>?_;go_simp;obtain⟨r,U,aa,n⟩:∃ r,r=(wr.alloc (.cells #[.slice (some ⟨f,a,none⟩) j j,.slice (some ⟨f,a+j*4,none⟩) (ps.length-j) (d-j)] 156)).drew/\Ϙ r wr.heap.size (.cells #[.slice (some ⟨f,a,none⟩) j j,.slice (some ⟨f,a+j*4,none⟩) (ps.length-j) (d-j)] 156)/\Kp [] w r:=⟨_,rfl,υ _ _,(ab.alloc _).drew⟩;rw[<-U];clear U;refine hK _ _ ?_
    try simp only[zZ]
    refine zQ 8 λK hK=>?_;go_simp;refine hK _ _ ?_;refine wpAny_done kR ?_ _;go_wp2;go_ret;have e:qB7 qA0 ps=[ps.take j,ps.drop j]:=by unfold qB7;rw[if_neg D,I.out]
    rw[e];obtain⟨R,af⟩:=t.out;have O:∀ k u,(qA7 ps)[k]?=some u->cur[a+k]?=some u:=by
     rcases af with⟨L,_⟩|⟨g',av,ag,ai,aj,m,_,_,M,h5⟩
     .omega
     .simp only[vJ,Option.some.injEq,Addr.mk.injEq] at m;obtain⟨⟨rfl,rfl,_⟩,_,_⟩:=m;rw[A] at M;cases M;exact h5
    refine⟨wr.heap.size,[.slice (some ⟨f,a,none⟩) j j,.slice (some ⟨f,a+j*4,none⟩) (ps.length-j) (d-j)],rfl,aa,⟨rfl,λi m h2=>?_⟩,n⟩;have hi:i=0\/i=1:=by simp at m;omega
    rcases hi with rfl|rfl
    .have:=qS1 (T:=87) (sz:=4) A O R 0 j j oM lR;simp only[Nat.zero_mul,Nat.add_zero,dZ] at this;rw[<-xG7] at this;simpa [Nat.min_eq_left hj] using this
    .have:=qS1 (T:=87) (sz:=4) A O R j (ps.length-j) (d-j) oM oM;rw[<-xG5,tL (by rw[zO9];simp)] at this;simpa using this
theorem qL0{w}{base:Nat}{T}{sz:Nat}{v}{n:Nat}{xs:List Value}(h:w.ownsRow base T sz v n xs):Slc w T sz v n xs:=by
 refine⟨h.1,?_⟩;rcases h.2 with⟨a,c⟩|⟨g,cap,cur,a,c,e,f,k,l,i⟩
 .exact .inl ⟨c,_,_,a,λ_=>rfl⟩
 .by_cases d:n=0
  .subst d;exact .inl ⟨rfl,_,_,a,sM⟩
  .refine .inr ⟨g,0,cap,cur,(0,0),a,oM,f,e,λj u b=>?_⟩;rw[<-i,List.getElem?_take] at b;split at b
   .simpa using b
   .cases b
theorem Slc.form{w}{T}{sz:Nat}{v}{n:Nat}{cs:List Value}(h:Slc w T sz v n cs):∃ b m c,v=.slice b m c:=by
 rcases h.val with⟨_,b,c,a,_⟩|⟨g,e,cap,cur,d,a,_⟩
 .exact⟨b,0,c,a⟩
 .exact⟨_,_,cap,a⟩
def qD4{α:Type}(low:α→ByteArray)(key:ByteArray):List (List α)→List (ByteArray × List α)
 | []=>[]
 | a::rest=>(key,a)::rest.map fun b=>((b.head?.map low).getD ⟨#[]⟩,b)
theorem qQ4{α:Type}(low:α->ByteArray)(key)(l:List (List α)):(qD4 low key l).length=l.length:=by
 cases l<;>simp[qD4]
theorem zF3{α:Type}{low:α->ByteArray}{key}{l:List (List α)}{i:Nat}(h:i<l.length):(qD4 low key l)[i]?=some (if i=0 then key else (l[i].head?.map low).getD ⟨#[]⟩,l[i]):=by
 cases l with
 | nil=>simp at h
 | cons a r=>
  cases i with
  | zero=>simp[qD4]
  | succ i=>
   have b:i<r.length:=by simpa using h
   simp[qD4,gQ b]
def MkL{α:Type}(T:TypeId)(sz:Nat)(C:List α→List Value)(node:Value→Obj)(w0 w:World)(h:HL)(x:ByteArray × List α):Prop:=
 h.key=x.1∧h.b=0∧h.s=0∧∃ q v,h.p=some q∧w.heap[q]?=some (node v)∧Slc w0 T sz v x.2.length (C x.2)
theorem qN3{w i:World}{base:Nat}{T:TypeId}{sz:Nat}{v:Value}{n:Nat}{xs:List Value}{o:Obj}{k:Nat}{c:Array Value}{t:TypeId}{d:Nat × Nat}(h:w.ownsRow base T sz v n xs)(l:(w.alloc o).grownBy i v.ownBlock)(b:w.heap[k]?=some (.cells c t d))(m:t≠T):i.heap[k]?=some (.cells c t d):=by
 have f:=ν o b;refine (l.block k (ζ f) ?_).trans f;intro e;rcases h.2 with⟨a,_⟩|⟨g,cap,cur,a,p,j,_⟩
 .rw[a] at e;cases e
 .rw[a] at e;have e:k=g:=by simpa [Value.ownBlock] using e
  rw[e,j] at b;cases b;exact m rfl
theorem MkL.grown{α:Type}{T}{sz:Nat}{C:List α->List Value}{a:Value->Obj}{w0 w w'}{h}{x:ByteArray × List α}(m:MkL T sz C a w0 w h x)(n:∀ v,∃ c,a v=.cells c 213)(l:∀ (k:Nat) (c),w.heap[k]?=some (.cells c 213)->w'.heap[k]?=some (.cells c 213)):MkL T sz C a w0 w' h x:=by
 obtain⟨e,f,g,q,v,i,b,j⟩:=m;obtain⟨c,d⟩:=n v;rw[d] at b;exact⟨e,f,g,q,v,i,by rw[d];exact l q c b,j⟩
theorem zG6{w w'}{base:Nat}{T}{sz:Nat}{v}{n:Nat}{xs:List Value}(h:w.ownsRow base T sz v n xs)(hK:Kp [] w w'):w'.ownsRow base T sz v n xs:=by
 refine⟨h.1,?_⟩;rcases h.2 with a|⟨g,cap,cur,b,c,d,e⟩
 .exact .inl a
 .exact .inr ⟨g,cap,cur,b,c,hK.hp d,e⟩
theorem qV5:(prog.info? 87).map (λi=>(i.zero,i.size,i.bytes))=some (some (.agg #[.string ⟨#[]⟩,.int .i64 0,.int .u64 0,.pointer none]),4,40):=kR
theorem zN3:(prog.info? 185).map (λi=>(i.zero,i.size,i.bytes))=some (some (.agg #[.string ⟨#[]⟩,.string ⟨#[]⟩]),2,32):=kR
theorem xG6(hs)(h):qA7 (hs++[h])=qA7 hs++lcs h:=by simp[qA7]
theorem zD3{w:World}{cs:List Value}{T:TypeId}:∀ j u,cs[j]?=some u->(w.alloc (.cells cs.toArray T)).cell? ((⟨w.heap.size,0,none⟩:Addr).add j)=some u:=by
 intro j u a;rw[qG4,Nat.zero_add,ξ (υ _ _)];simpa using a
theorem jI5(g:Nat)(cap)(B:Value->Obj)(key)(v)(ps)(w)(f:Slc w 185 2 v ps.length (qA3 ps))(hn:ps.length<=1000000)(hz:∀ p∈ps,ρ p<=21)(hm:meas ρ ps<=210)
  (bi:∀ (args) (W),Sem.run prog (callFunc g args) W=.ok (.enter g args) W) (ax:∀ v,∃ c,B v=.cells c 213)
  (aw:∀ W x,Kp [] w W->(∃ b n c,x=.slice b n c)->Calls prog g (#[x]++cap) W λe W'=>∃ q,e=.returned (.pointer (some ⟨q,0,none⟩))/\W'.heap[q]?=some (B x)/\Kp [] W W'):
  Calls prog 181 #[.string key,v,.func (.func g) #[] cap] w λe w'=>∃ v',e=.returned v'/\∃ f,w'.ownsRow w.heap.size 87 4 v' (qB7 ρ ps).length (qA7 f)/\f.length=(qB7 ρ ps).length/\(∀ i (h:i<f.length) (t:i<(qD4 KV.k key (qB7 ρ ps)).length),MkL 185 2 qA3 B w w' f[i] (qD4 KV.k key (qB7 ρ ps))[i])/\Kp [] w w':=by
 obtain⟨i0,E,az,a2,a3⟩:=info_parts qV5;have HM:=zh aw;have am:=zh ax;have al:Hid (∀ l∈qB7 ρ ps,(qB7 ρ ps).length=1\/3<=l.length):=by
  rcases zE7 ρ ps hz hm with⟨e,_⟩|⟨a,b,e,_,_,_,C,h2⟩
  .show ∀ l∈qB7 ρ ps,_;rw[e];intro l _;exact .inl rfl
  .show ∀ l∈qB7 ρ ps,_;rw[e];intro l hl;simp only[List.mem_cons,List.not_mem_nil,or_false] at hl;rcases hl with rfl|rfl
   .exact .inr C
   .exact .inr h2
 have be:(qB7 ρ ps).length<=2:=by unfold qB7;split<;>simp
 clear aw ax;go_enter func181,ntmps181;go_wp2_with fail;refine (jR3 v ps w f hn hz oM).mono ?_;rintro e w1 ⟨gh,vs,rfl,ao,ba,R⟩;obtain⟨ay,aj⟩:=ba;obtain⟨d,aa⟩:=eY (qB7 ρ ps);have O:=zh aa;rw[aa] at ay aj be al |-;clear aa;rw[List.length_map] at ay;have a8:Hid (∀ i (h:i<d.length) (t:i<vs.length),Slc w 185 2 vs[i] d[i].length (qA3 d[i])):=λi h t=>by
  have:=aj i (by simpa using h) t;simpa using this
 clear aj;have a6:=zh R;have HB:=zh R.size;have H1:=zh ao;clear R f ao;go_wp2
 go_loopw [0,7,13] (λk s i wr=>∃ (j:Nat) (f:List HL) (L:ByteArray),j<=d.length/\i=.int .i64 j/\k=.string L/\(j=0->L=key)/\f.length=j/\wr.ownsRow w.heap.size 87 4 s j (qA7 f)/\Hid (∀ i (h:i<f.length) (t:i<(qD4 KV.k key d).length),MkL 185 2 qA3 B w wr f[i] (qD4 KV.k key d)[i])/\Hid (Kp [] w wr)/\Ϙ wr gh (.cells vs.toArray 186)) (λ_ _ i _=>d.length-(intOf i).toNat)
 case atStart=>exact⟨0,[],key,Nat.zero_le _,rfl,rfl,λ_=>rfl,rfl,World.ownsRow_nil _ _ _ _,(λi h=>by simp at h:∀ i (h:i<[].length) (t:i<(qD4 KV.k key d).length),_),a6,H1⟩
 case round=>
  obtain⟨j,f,L,hj,rfl,rfl,ab,ah,ad,V,A,Q⟩:=hrel;by_cases ac:j<d.length
  .have bc:(j:Int)<(d.length:Int):=oM
   have J:=a8.out j ac oM;have h0:=ξ Q j;rw[zG,List.getElem?_eq_getElem (show j<vs.length by omega)] at h0;have bk:=ζ Q;have y:0<j->1<=d[j].length:=λh=>by
    rcases al d[j] (List.getElem_mem ac) with C|C<;>omega
   obtain⟨u,G⟩:=eX (if j=0 then key else (d[j].head?.map KV.k).getD ⟨#[]⟩)
   have S:(qD4 KV.k key d)[j]?=some (u,d[j]):=by rw[zF3 ac,G]
   obtain⟨M,ai⟩:=eY (vs[j]);rw[ai] at J h0;have an:=zh J;have a5:=zh Q;have ak:Hid (∀ (r m:World) (q:Nat) (s z:Value) (o:Obj) (x:Int),x=(j:Int)+1->Ϙ r q (B M)->Kp [] wr r->r.ownsRow w.heap.size 87 4 s j (qA7 f)->m.ownsRow w.heap.size 87 4 z (j+1) (qA7 f++[.string u,ϊ 0,.int .u64 0,ϖ q])->(r.alloc o).grownBy m s.ownBlock->
     ∃ (K:Nat) (hs':List HL) (k'':ByteArray),K<=d.length/\Value.int .i64 x=.int .i64 K/\Value.string u=.string k''/\(K=0->k''=key)/\hs'.length=K/\m.ownsRow w.heap.size 87 4 z K (qA7 hs')/\Hid (∀ i (h:i<hs'.length) (t:i<(qD4 KV.k key d).length),MkL 185 2 qA3 B w m hs'[i] (qD4 KV.k key d)[i])/\Hid (Kp [] w m)/\Ϙ m gh (.cells vs.toArray 186)):=by
    show ∀ (r m:World) (q:Nat) (s z:Value) (o:Obj) (x:Int),_;intro r m q s z o x hx hq T ae ag Y;have au:∀ (k:Nat) (c:Array Value),Ϙ r k (.cells c 213)->Ϙ m k (.cells c 213):=λk c F=>qN3 ae Y F dC;obtain⟨cn,aq⟩:=am.out M;have bf:Ϙ m q (B M):=by rw[aq];rw[aq] at hq;exact au q cn hq
    have a9:=λi h t=>
     (V.out i h t).grown am λk c F=>au k c (T.hp F)
    refine⟨j+1,f++[⟨u,0,0,some q⟩],u,oM,by rw[hx];go_num,rfl,oM,by simp[ah],by rw[xG6];exact ag,?_,((A.out.tr T).alloc o).grown Y (λk F=>Or.inr (qI6 ae k F)),qN3 ae Y (T.hp a5) dC⟩;show ∀ i (h:i<(f++[(⟨u,0,0,some q⟩:HL)]).length) (t:i<(qD4 KV.k key d).length),_;intro i C t;by_cases E:i<f.length
    .rw[List.getElem_append_left E];exact a9 i E t
    .have bb:i=j:=by simp at C;omega
     subst bb;have e:(qD4 KV.k key d)[i]=(u,d[i]):=by
      rw[List.getElem?_eq_getElem t] at S;exact Option.some.inj S
     rw[e,List.getElem_append_right oM];simp only[ah,Nat.sub_self,List.getElem_singleton];exact⟨rfl,rfl,rfl,q,M,rfl,bf,an⟩
   clear S V;by_cases N:j=0
   .have bd:L=u:=by rw[G,if_pos N];exact ab N
    subst bd;clear G ab ai J y;subst N;go_wp2_with fail;refine (HM wr M A.out an.form).mono ?_;rintro e r ⟨q,rfl,I,D⟩;have H:=zG6 ad D;have bg:=Nat.le_trans A.out.size D.size;have P:=zh I;clear I
    go_wp2_with (at_builtin;refine wpList_append_own _ rfl _ _ 156 rfl w.heap.size 87 i0 _ 4 40 underlying156 E az a2 a3 rfl dC _ _ _ rfl (H.alloc _) ⟨r.heap.size,0,none⟩ 1 1 [.string L,ϊ 0,.int .u64 0,ϖ q] rfl rfl zD3 (by simp[Value.oneCell']) (by unfold maxLen;omega) oM sO ?_;intro z m af Z _)
    exact⟨ak r m q _ z _ 1 oM P D H af Z,by simp[intOf];omega⟩
   .have bm:(0:Int)<(j:Int):=oM
    obtain⟨gb,a4,bh,cur,fr,rfl,bj,ag,ar⟩:=J.pair (y oM);obtain⟨c0,c1⟩:=ar 0 (y oM);have X:=A.out.hp ag;have a0:wr.cell? ⟨gb,a4,none⟩=some _:=(ξ X _).trans (by simpa using c0);have a1:wr.cell? ⟨gb,a4+1,none⟩=some _:=(ξ X _).trans (by simpa using c1);have av:u=KV.k (d[j][0]'(y oM)):=by
     rw[G,if_neg N];rw[List.head?_eq_getElem?,List.getElem?_eq_getElem (y oM)];rfl
    have bl:=ζ X;have bn:(0:Int)<(d[j].length:Int):=by have:=y oM;omega
    have a7:=zh av;clear G ab ai J ar av;go_wp2_with fail;refine (jZ3 (d[j][0]'(y oM)) _).mono ?_;rintro e W0 ⟨rfl,ap⟩;rw[show (d[j][0]'(y oM)).k=u from a7.out.symm];go_wp2_with fail;refine (HM W0 _ (A.out.tr ap) ⟨_,_,_,rfl⟩).mono ?_;rintro e r ⟨q,rfl,I,D⟩;have U:=ap.tr D;have H:=zG6 ad U;have bg:=Nat.le_trans A.out.size U.size;have P:=zh I;clear I
    go_wp2_with (at_builtin;refine wpList_append_own _ rfl _ _ 156 rfl w.heap.size 87 i0 _ 4 40 underlying156 E az a2 a3 rfl dC _ _ _ rfl (H.alloc _) ⟨r.heap.size,0,none⟩ 1 1 [.string u,ϊ 0,.int .u64 0,ϖ q] rfl rfl zD3 (by simp[Value.oneCell']) (by unfold maxLen;omega) oM sO ?_;intro z m af Z _)
    exact⟨ak r m q _ z _ _ rfl P U H af Z,by simp[intOf];omega⟩
  .have bc:¬(j:Int)<(d.length:Int):=oM
   go_wp2;go_ret;have e:j=d.length:=oM
   subst e;exact⟨_,rfl,f,by rw[O.out];exact ad,by rw[O.out];exact ah,by rw[O.out];exact V.out,A.out⟩
theorem jI4(g:Nat)(cap)(B:Value->Obj)(key)(v)(ps)(w)(f:Slc w 87 4 v ps.length (qA7 ps))(hn:ps.length<=1000000)(hz:∀ p∈ps,qA0 p<=21)(hm:meas qA0 ps<=210)
  (bk:∀ (args) (W),Sem.run prog (callFunc g args) W=.ok (.enter g args) W) (ay:∀ v,∃ c,B v=.cells c 213)
  (ax:∀ W x,Kp [] w W->(∃ b n c,x=.slice b n c)->Calls prog g (#[x]++cap) W λe W'=>∃ q,e=.returned (.pointer (some ⟨q,0,none⟩))/\W'.heap[q]?=some (B x)/\Kp [] W W'):
  Calls prog 223 #[.string key,v,.func (.func g) #[] cap] w λe w'=>∃ v',e=.returned v'/\∃ f,w'.ownsRow w.heap.size 87 4 v' (qB7 qA0 ps).length (qA7 f)/\f.length=(qB7 qA0 ps).length/\(∀ i (h:i<f.length) (t:i<(qD4 HL.key key (qB7 qA0 ps)).length),MkL 87 4 qA7 B w w' f[i] (qD4 HL.key key (qB7 qA0 ps))[i])/\Kp [] w w':=by
 obtain⟨i0,F,a4,a5,a6⟩:=info_parts qV5;have HM:=zh ax;have an:=zh ay;have am:Hid (∀ l∈qB7 qA0 ps,(qB7 qA0 ps).length=1\/3<=l.length):=by
  rcases zE7 qA0 ps hz hm with⟨e,_⟩|⟨a,b,e,_,_,_,C,h2⟩
  .show ∀ l∈qB7 qA0 ps,_;rw[e];intro l _;exact .inl rfl
  .show ∀ l∈qB7 qA0 ps,_;rw[e];intro l hl;simp only[List.mem_cons,List.not_mem_nil,or_false] at hl;rcases hl with rfl|rfl
   .exact .inr C
   .exact .inr h2
 have bg:(qB7 qA0 ps).length<=2:=by unfold qB7;split<;>simp
 clear ax ay;go_enter func223,ntmps223;go_wp2_with fail;refine (jR2 v ps w f hn hz oM).mono ?_;rintro e w1 ⟨gh,vs,rfl,ap,bc,U⟩;obtain⟨az,ak⟩:=bc;obtain⟨d,ab⟩:=eY (qB7 qA0 ps);have R:=zh ab;rw[ab] at az ak bg am |-;clear ab;rw[List.length_map] at az;have ba:Hid (∀ i (h:i<d.length) (t:i<vs.length),Slc w 87 4 vs[i] d[i].length (qA7 d[i])):=λi h t=>by
  have:=ak i (by simpa using h) t;simpa using this
 clear ak;have a8:=zh U;have HB:=zh U.size;have H1:=zh ap;clear U f ap;go_wp2
 go_loopw [0,7,13] (λk s i wr=>∃ (j:Nat) (f:List HL) (M:ByteArray),j<=d.length/\i=.int .i64 j/\k=.string M/\(j=0->M=key)/\f.length=j/\wr.ownsRow w.heap.size 87 4 s j (qA7 f)/\Hid (∀ i (h:i<f.length) (t:i<(qD4 HL.key key d).length),MkL 87 4 qA7 B w wr f[i] (qD4 HL.key key d)[i])/\Hid (Kp [] w wr)/\Ϙ wr gh (.cells vs.toArray 156)) (λ_ _ i _=>d.length-(intOf i).toNat)
 case atStart=>exact⟨0,[],key,Nat.zero_le _,rfl,rfl,λ_=>rfl,rfl,World.ownsRow_nil _ _ _ _,(λi h=>by simp at h:∀ i (h:i<[].length) (t:i<(qD4 HL.key key d).length),_),a8,H1⟩
 case round=>
  obtain⟨j,f,M,hj,rfl,rfl,ac,ai,ae,Z,A,T⟩:=hrel;by_cases ad:j<d.length
  .have be:(j:Int)<(d.length:Int):=oM
   have K:=ba.out j ad oM;have h0:=ξ T j;rw[zG,List.getElem?_eq_getElem (show j<vs.length by omega)] at h0;have bm:=ζ T;have y:0<j->1<=d[j].length:=λh=>by
    rcases am d[j] (List.getElem_mem ad) with C|C<;>omega
   obtain⟨u,H⟩:=eX (if j=0 then key else (d[j].head?.map HL.key).getD ⟨#[]⟩)
   have V:(qD4 HL.key key d)[j]?=some (u,d[j]):=by rw[zF3 ad,H]
   obtain⟨N,aj⟩:=eY (vs[j]);rw[aj] at K h0;have ao:=zh K;have a7:=zh T;have al:Hid (∀ (r m:World) (q:Nat) (s z:Value) (o:Obj) (x:Int),x=(j:Int)+1->Ϙ r q (B N)->Kp [] wr r->r.ownsRow w.heap.size 87 4 s j (qA7 f)->m.ownsRow w.heap.size 87 4 z (j+1) (qA7 f++[.string u,ϊ 0,.int .u64 0,ϖ q])->(r.alloc o).grownBy m s.ownBlock->
     ∃ (L:Nat) (hs':List HL) (k'':ByteArray),L<=d.length/\Value.int .i64 x=.int .i64 L/\Value.string u=.string k''/\(L=0->k''=key)/\hs'.length=L/\m.ownsRow w.heap.size 87 4 z L (qA7 hs')/\Hid (∀ i (h:i<hs'.length) (t:i<(qD4 HL.key key d).length),MkL 87 4 qA7 B w m hs'[i] (qD4 HL.key key d)[i])/\Hid (Kp [] w m)/\Ϙ m gh (.cells vs.toArray 156)):=by
    show ∀ (r m:World) (q:Nat) (s z:Value) (o:Obj) (x:Int),_;intro r m q s z o x hx hq X af ah hg;have av:∀ (k:Nat) (c:Array Value),Ϙ r k (.cells c 213)->Ϙ m k (.cells c 213):=λk c G=>qN3 af hg G dC;obtain⟨cn,ar⟩:=an.out N;have bh:Ϙ m q (B N):=by rw[ar];rw[ar] at hq;exact av q cn hq
    have bb:=λi h t=>
     (Z.out i h t).grown an λk c G=>av k c (X.hp G)
    refine⟨j+1,f++[⟨u,0,0,some q⟩],u,oM,by rw[hx];go_num,rfl,oM,by simp[ai],by rw[xG6];exact ah,?_,((A.out.tr X).alloc o).grown hg (λk G=>Or.inr (qI6 af k G)),qN3 af hg (X.hp a7) dC⟩;show ∀ i (h:i<(f++[(⟨u,0,0,some q⟩:HL)]).length) (t:i<(qD4 HL.key key d).length),_;intro i C t;by_cases F:i<f.length
    .rw[List.getElem_append_left F];exact bb i F t
    .have bd:i=j:=by simp at C;omega
     subst bd;have e:(qD4 HL.key key d)[i]=(u,d[i]):=by
      rw[List.getElem?_eq_getElem t] at V;exact Option.some.inj V
     rw[e,List.getElem_append_right oM];simp only[ai,Nat.sub_self,List.getElem_singleton];exact⟨rfl,rfl,rfl,q,N,rfl,bh,ao⟩
   clear V Z;by_cases P:j=0
   .have bf:M=u:=by rw[H,if_pos P];exact ac P
    subst bf;clear H ac aj K y;subst P;go_wp2_with fail;refine (HM wr N A.out ao.form).mono ?_;rintro e r ⟨q,rfl,J,D⟩;have I:=zG6 ae D;have bi:=Nat.le_trans A.out.size D.size;have S:=zh J;clear J
    go_wp2_with (at_builtin;refine wpList_append_own _ rfl _ _ 156 rfl w.heap.size 87 i0 _ 4 40 underlying156 F a4 a5 a6 rfl dC _ _ _ rfl (I.alloc _) ⟨r.heap.size,0,none⟩ 1 1 [.string M,ϊ 0,.int .u64 0,ϖ q] rfl rfl zD3 (by simp[Value.oneCell']) (by unfold maxLen;omega) oM sO ?_;intro z m ag aa _)
    exact⟨al r m q _ z _ 1 oM S D I ag aa,by simp[intOf];omega⟩
   .have bo:(0:Int)<(j:Int):=oM
    obtain⟨O,Q,bj,cur,fr,rfl,bl,ah,au⟩:=K.link (y oM);obtain⟨c0,c1,c2,c3⟩:=au 0 (y oM);have E:=A.out.hp ah;have a0:wr.cell? ⟨O,Q,none⟩=some _:=(ξ E _).trans (by simpa using c0);have a1:wr.cell? ⟨O,Q+1,none⟩=some _:=(ξ E _).trans (by simpa using c1);have a2:wr.cell? ⟨O,Q+2,none⟩=some _:=(ξ E _).trans (by simpa using c2);have a3:wr.cell? ⟨O,Q+3,none⟩=some _:=(ξ E _).trans (by simpa using c3);have aw:u=HL.key (d[j][0]'(y oM)):=by
     rw[H,if_neg P];rw[List.head?_eq_getElem?,List.getElem?_eq_getElem (y oM)];rfl
    have bn:=ζ E;have bp:(0:Int)<(d[j].length:Int):=by have:=y oM;omega
    have a9:=zh aw;clear H ac aj K au aw;go_wp2_with fail;refine (jZ2 (d[j][0]'(y oM)) _).mono ?_;rintro e W0 ⟨rfl,aq⟩;rw[show (d[j][0]'(y oM)).key=u from a9.out.symm];go_wp2_with fail;refine (HM W0 _ (A.out.tr aq) ⟨_,_,_,rfl⟩).mono ?_;rintro e r ⟨q,rfl,J,D⟩;have Y:=aq.tr D;have I:=zG6 ae Y;have bi:=Nat.le_trans A.out.size Y.size;have S:=zh J;clear J
    go_wp2_with (at_builtin;refine wpList_append_own _ rfl _ _ 156 rfl w.heap.size 87 i0 _ 4 40 underlying156 F a4 a5 a6 rfl dC _ _ _ rfl (I.alloc _) ⟨r.heap.size,0,none⟩ 1 1 [.string u,ϊ 0,.int .u64 0,ϖ q] rfl rfl zD3 (by simp[Value.oneCell']) (by unfold maxLen;omega) oM sO ?_;intro z m ag aa _)
    exact⟨al r m q _ z _ _ rfl S Y I ag aa,by simp[intOf];omega⟩
  .have be:¬(j:Int)<(d.length:Int):=oM
   go_wp2;go_ret;have e:j=d.length:=oM
   subst e;exact⟨_,rfl,f,by rw[R.out];exact ae,by rw[R.out];exact ai,by rw[R.out];exact Z.out,A.out⟩
end Go.Proofs.YtdohpenfkdckiaaGreatDoor
