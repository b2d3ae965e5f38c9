import Derived.Test.YtdohpenfkdckiaaGreatDoorJ12
import Derived.Lib.AppendStr
set_option linter.all false
set_option maxRecDepth 100000
set_option maxHeartbeats 20000000
namespace Go.Proofs.YtdohpenfkdckiaaGreatDoor
open Go.Proofs.Tryz
open Go.RowKit
def qM8(s:ByteArray):List Int:=s.data.toList.map (fun b=>(b.toNat:Int))
theorem qS0(s):(qM8 s).length=s.size:=by
 unfold qM8;rw[List.length_map];exact Array.length_toList
theorem zS8(s):∀ x∈qM8 s,0<=x/\x<256:=by
 intro x a;simp only[qM8,List.mem_map] at a;obtain⟨b,_,rfl⟩:=a;have:=b.toNat_lt;omega
theorem zT3(s):Lib.strCells s=u8s (qM8 s):=by
 unfold Lib.strCells u8s qM8;rw[List.map_map];rfl
def qD9(p:KV):List Int:=[(p.k.size:Int)*16+p.v.size]++qM8 p.k++qM8 p.v
theorem qU4(p):(qD9 p).length=ρ p:=by
 simp only[qD9,lA,lC,List.length_nil,qS0,ρ]
theorem kQ5(a b:List Int):u8s (a++b)=u8s a++u8s b:=by simp[u8s]
theorem xQ3(a:List Int):(u8s a).length=a.length:=by simp[u8s]
theorem qT2{w f:World}{base:Nat}{T:TypeId}{sz:Nat}{v:Value}{n:Nat}{xs:List Value}{k:Nat}{c:Array Value}{t:TypeId}{d:Nat × Nat}(h:w.ownsRow base T sz v n xs)(i:w.grownBy f v.ownBlock)(b:w.heap[k]?=some (.cells c t d))(j:t≠T):f.heap[k]?=some (.cells c t d):=by
 refine (i.block k (ζ b) ?_).trans b;rcases h.2 with⟨rfl,_⟩|⟨g,cap,cur,rfl,_,a,_⟩
 .simp[Value.ownBlock]
 .intro e;simp only[Value.ownBlock,Option.some.injEq] at e;subst e;rw[b] at a;simp only[Option.some.injEq,Obj.cells.injEq] at a;exact j a.2.1
def St(w w':World):Prop:=∀ (k:Nat) (c:Array Value) (t:TypeId) (fr:Nat × Nat),w.heap[k]?=some (.cells c t fr)→t≠5→w'.heap[k]?=some (.cells c t fr)
theorem St.refl(w):St w w:=λ_ _ _ _ h _=>h
theorem St.trans{a b c}(h:St a b)(k:St b c):St a c:=λq x t d e f=>k q x t d (h q x t d e f) f
theorem St.alloc{a b}(h:St a b)(o):St a (b.alloc o):=λq x t c e d=>ν o (h q x t c e d)
theorem St.grown{a w w'}{base:Nat}{sz:Nat}{v}{n:Nat}{xs:List Value}(s:St a w)(h:w.ownsRow base 5 sz v n xs)(d:w.grownBy w' v.ownBlock):St a w':=λq x t c e b=>qT2 h d (s q x t c e b) b
theorem kF4:∀ k<9,∀ v<13,bits BinOp.or .i64 (((k:Nat):Int)*16) ((v:Nat):Int)=((k:Nat):Int)*16+((v:Nat):Int):=dC
theorem kH3(p)(v)(base k:Nat)(xs:List Int)(w)(N:k<=1000)(hp:qC6 p)(I:base<=w.heap.size)
  (O:w.ownsRow base 5 1 v k (u8s xs)):
  Calls prog 338 #[.agg #[.string p.k,.string p.v],v] w λe E=>∃ v',e=.returned v'/\E.ownsRow base 5 1 v' (k+ρ p) (u8s (xs++qD9 p))/\Below base w E/\St w E:=by
 obtain⟨D,s,A,B,C⟩:=info_parts Tryz.info5;obtain⟨ac,R,S⟩:=hp;have ab:=kF4 p.k.size oM p.v.size oM;obtain⟨x,z⟩:∃ x:Int,x=(p.k.size:Int)*16+p.v.size:=⟨_,rfl⟩;rw[<-z] at ab;have ae:x % 256=x:=oM
 have hw:wrap64 ((p.k.size:Int)*16)=(p.k.size:Int)*16:=by simp only[wrap64];omega
 have HX:=zh z;have a:=zh I;have g:=zh (n2 R S);have b:=zh N;have d:=zh O;clear z ac R S I N O;go_enter func338,ntmps338
 go_wp2_with (at_builtin;refine wpList_append_own _ rfl _ _ 118 rfl base 5 D (.int .u8 0) 1 1 underlying118 s A B C rfl dC _ _ _ rfl ((d.alloc _).alloc _) ⟨w.heap.size+1,0,none⟩ 1 1 [.int .u8 x] rfl rfl ?_ (by simp[Value.oneCell']) (by have:=b.out;unfold maxLen;omega) (by have:=b.out;omega) (by have:=a.out;simp;omega) ?_)
 .intro j u y
  cases j with
  | zero=>
   simp only[zH,Option.some.injEq] at y;subst y;have h:=ξ (υ (w.alloc (.cells #[.string p.k,.string p.v] 185)) (.cells #[.int .u8 x] 5)) 0;simp[Addr.add]
  | succ j=>simp at y
 intro v1 w1 P c _;have M:=ν (.cells #[.int .u8 x] 5) (υ w (.cells #[.string p.k,.string p.v] 185));have o:=qT2 ((d.alloc _).alloc _) c M dC;have ad:=c.size;have J:=(((Below.refl base w).alloc a _).alloc (by have:=a.out;simp;omega) _).grown c (by have:=a.out;simp;omega) (qI6 d);have T:=(((St.refl w).alloc _).alloc _).grown ((d.alloc _).alloc _) c;have Y:=zh T;have c0:=ξ o;have f:=zh P;have l:=zh J;have V:=zh o;clear P c M o J ad T
 go_wp2_with (at_builtin;refine Lib.wpList_append_own_string _ rfl _ _ 118 9 rfl base 5 D underlying118 underlying9 s A B C _ _ _ rfl f p.k rfl (by have:=b.out;have:=g.out;unfold maxLen;omega) (by have:=b.out;have:=g.out;omega) (by have:=l.out.size;have:=a.out;omega) ?_)
 intro v2 w2 Q i _;have q:=qT2 f i V dC;have K:=l.out.grown i (by have:=l.out.size;have:=a.out;omega) (qI6 f);have c0:=ξ q 0;have F:=ξ q 1;simp only[zG,zH,zI] at c0 F;have n:Hid (w2.ownsRow base 5 1 v2 (k+1+p.k.size) (u8s xs++[.int .u8 x]++Lib.strCells p.k)):=by show World.ownsRow _ _ _ _ _ _ _;rw[List.append_assoc];exact Q
 have m:=zh K;have Z:=zh (Y.grown f i);clear Q i q K c0
 go_wp2_with (at_builtin;refine Lib.wpList_append_own_string _ rfl _ _ 118 9 rfl base 5 D underlying118 underlying9 s A B C _ _ _ rfl n p.v rfl (by have:=b.out;have:=g.out;unfold maxLen;omega) (by have:=b.out;have:=g.out;omega) (by have:=m.out.size;have:=a.out;omega) ?_)
 intro U w3 t r _;have L:=m.out.grown r (by have:=m.out.size;have:=a.out;omega) (qI6 n);have G:u8s (xs++qD9 p)=u8s xs++[.int .u8 x]++Lib.strCells p.k++Lib.strCells p.v:=by
  rw[zT3,zT3,qD9,HX.out];simp[u8s]
 have H:k+ρ p=k+1+p.k.size+p.v.size:=by unfold ρ;omega
 have W:Hid (w3.ownsRow base 5 1 U (k+ρ p) (u8s (xs++qD9 p))):=by show World.ownsRow _ _ _ _ _ _ _;rw[G,H];simp only[List.append_assoc,List.singleton_append,List.cons_append,List.nil_append] at t |-;exact t
 have X:=zh L;have aa:=zh (Z.grown n r);clear t r L G H F;go_wp2;go_ret;exact⟨U,rfl,W,X,aa⟩
theorem zV6(v)(base k:Nat)(xs:List Int)(n:Int)(m:Nat)(w)(J:k<=1000)(G:m<=100)(t:0<=n)
  (D:base<=w.heap.size) (u:w.ownsRow base 5 1 v k (u8s xs)):
  Calls prog 250 #[v,.int .u64 n,.int .i64 m] w λe f=>∃ b,e=.returned b/\f.ownsRow base 5 1 b (k+m) (u8s (xs++qB4 m n))/\Below base w f/\St w f:=by
 obtain⟨B,r,y,z,A⟩:=info_parts Tryz.info5;go_enter func250,ntmps250;go_wp2
 go_loopw [0,1,8] (λs q i wr=>∃ (j:Nat) (b:Value) (a:Int),j<=m/\i=.int .i64 j/\q=.int .u64 a/\a=n / (256:Int) ^ j/\0<=a/\a<=n/\s=b/\wr.ownsRow base 5 1 b (k+j) (u8s (xs++qB4 j n))/\Below base w wr/\Hid (St w wr)) (λ_ _ i _=>m-(intOf i).toNat)
 case atStart=>exact⟨0,v,n,Nat.zero_le _,rfl,rfl,sM,t,Int.le_refl _,rfl,by simpa [qB4] using u,Below.refl _ _,St.refl _⟩
 case round=>
  obtain⟨j,b,a,E,rfl,rfl,o,H,I,rfl,d,c,h⟩:=hrel;have g:=zh o;clear o;by_cases F:j<m
  .go_wp2_with (at_builtin;refine wpList_append_own _ rfl _ _ 118 rfl base 5 B (.int .u8 0) 1 1 underlying118 r y z A rfl dC _ _ _ rfl (d.alloc _) ⟨wr.heap.size,0,none⟩ 1 1 [.int .u8 (a % 256)] rfl rfl (cell_one_new _ _ _) (by simp[Value.oneCell']) (by unfold maxLen;omega) oM (by have:=c.size;simp;omega) ?_;intro C w1 x l _)
   refine⟨⟨j+1,C,a / 256,oM,by go_num,rfl,?_,oM,oM,rfl,?_,?_,(h.alloc _).grown (d.alloc _) l⟩,by simp[intOf];omega⟩
   .rw[g.out,Int.ediv_ediv_of_nonneg (by exact Int.pow_nonneg dC),Int.pow_succ]
   .have p:u8s (xs++qB4 (j+1) n)=u8s (xs++qB4 j n)++[.int .u8 (a % 256)]:=by rw[zP2,<-g.out];simp[u8s]
    rw[p];exact x
   .exact (c.alloc (by have:=c.size;omega) _).grown l (by have:=c.size;simp;omega) (qI6 d)
  .go_wp2;go_ret;have e:j=m:=oM
   subst e;exact⟨_,rfl,d,c,h⟩
def qE3(h:HL):List Int:=qB4 2 h.b++qB4 8 h.s++[(h.key.size:Int)]++qM8 h.key
theorem qT7(h):(qE3 h).length=11+h.key.size:=by
 simp only[qE3,lA,lC,List.length_nil,qS0,qI0]
theorem jW3(h)(v)(base k:Nat)(xs:List Int)(w)(J:k<=900)(K:h.key.size<=8)(F:0<=h.b)(af:h.b<=1000000)(P:0<=h.s)(E:base<=w.heap.size)
  (L:w.ownsRow base 5 1 v k (u8s xs)):
  Calls prog 332 #[qC0 h,v] w λe s=>∃ v',e=.returned v'/\s.ownsRow base 5 1 v' (k+(11+h.key.size)) (u8s (xs++qE3 h))/\Below base w s/\St w s:=by
 obtain⟨U,I,R,S,T⟩:=info_parts Tryz.info5;obtain⟨x,Q⟩:∃ x:Int,x=(h.key.size:Int):=⟨_,rfl⟩;have ai:(h.key.size:Int) % 256=x:=oM
 have ag:IntKind.u64.wrap h.b=h.b:=by rw[IntKind.wrap_u64];omega
 have HX:=zh Q;have a:=zh E;have t:=zh K;have b:=zh J;have z:=zh (n2 F P);have HO:=zh L;clear Q K E J L F P af;rw[qC0];go_enter func332,ntmps332;go_wp2_with fail;have C:=υ w (.cells (ϡ h) 87);refine (zV6 v base k xs h.b 2 (w.alloc (.cells (ϡ h) 87)) (by have:=b.out;omega) oM z.1 (by have:=a.out;simp;omega) (HO.alloc _)).mono ?_;rintro e w1 ⟨v1,rfl,M,G,p⟩;have m:=p _ _ _ _ C dC;have aa:=zh M;have y:=zh (((Below.refl base w).alloc a _).trans G);have ab:=zh (((St.refl w).alloc _).trans p);have W:=zh m;have c2:=ϻ m 2;clear M G p C m ag;go_wp2_with fail;refine (zV6 v1 base (k+2) (xs++qB4 2 h.b) h.s 8 w1 (by have:=b.out;omega) oM z.2 (by have:=y.out.size;have:=a.out;omega) aa).mono ?_;rintro e w2 ⟨v2,rfl,N,H,q⟩;have f:=q _ _ _ _ W dC;have d:=zh N;have c:=zh (y.trans H);have ac:=zh (ab.trans q);have X:=zh f;have ah:=ζ f;have c0:=ϻ f 0;clear N H q f c2
 go_wp2_with (at_builtin;refine wpList_append_own _ rfl _ _ 118 rfl base 5 U (.int .u8 0) 1 1 underlying118 I R S T rfl dC _ _ _ rfl (d.alloc _) ⟨w2.heap.size,0,none⟩ 1 1 [.int .u8 x] rfl rfl ?_ (by simp[Value.oneCell']) (by have:=b.out;unfold maxLen;omega) (by have:=b.out;omega) (by have:=c.out.size;have:=a.out;simp;omega) ?_)
 .intro j u r
  cases j with
  | zero=>
   simp only[zH,Option.some.injEq] at r;subst r;simp[Addr.add]
  | succ j=>simp at r
 intro v3 w3 O g _;have D:=qT2 (d.alloc _) g (ν (.cells #[.int .u8 x] 5) X) dC;have i:=zh ((c.alloc (by have:=c.out.size;have:=a.out;omega) _).grown g (by have:=c.out.size;have:=a.out;simp;omega) (qI6 d));have ad:=zh ((ac.alloc _).grown (d.alloc _) g);have l:Hid (w3.ownsRow base 5 1 v3 (k+2+8+1) (u8s (xs++qB4 2 h.b++qB4 8 h.s)++[.int .u8 x])):=by show World.ownsRow _ _ _ _ _ _ _;rw[List.append_assoc xs];exact O
 have c0:=ϻ D 0;clear O g D
 go_wp2_with (at_builtin;refine Lib.wpList_append_own_string _ rfl _ _ 118 9 rfl base 5 U underlying118 underlying9 I R S T _ _ _ rfl l h.key rfl (by have:=b.out;have:=t.out;unfold maxLen;omega) (by have:=b.out;have:=t.out;omega) (by have:=i.out.size;have:=a.out;omega) ?_)
 intro V w4 o n _;have Z:=zh (i.grown n (by have:=i.out.size;have:=a.out;omega) (qI6 l));have ae:=zh (ad.grown l n);have A:u8s (xs++qE3 h)=u8s (xs++qB4 2 h.b++qB4 8 h.s)++[.int .u8 x]++Lib.strCells h.key:=by
  rw[zT3,qE3,HX.out];simp[u8s]
 have B:k+(11+h.key.size)=k+2+8+1+h.key.size:=oM
 have Y:Hid (w4.ownsRow base 5 1 V (k+(11+h.key.size)) (u8s (xs++qE3 h))):=by show World.ownsRow _ _ _ _ _ _ _;rw[A,B];simp only[List.append_assoc,List.singleton_append,List.cons_append,List.nil_append] at o |-;exact o
 clear o n A B c0;go_wp2;go_ret;exact⟨V,rfl,Y,Z,ae⟩
theorem Hid.mk'{p:Prop}(h:p):Hid p:=h
theorem xB9{α:Type}(f:α->List Int)(l:List α)(j:Nat)(h:j<l.length):(l.take (j+1)).flatMap f=(l.take j).flatMap f++f l[j]:=by
 rw[tA h,fA];simp
theorem kT2(vb)(base k:Nat)(xs:List Int)(v)(ps)(w)(hk:k+meas ρ ps<=900)(hn:ps.length<=1000000)(E:∀ p∈ps,qC6 p)
  (o:Slc w 185 2 v ps.length (qA3 ps)) (z:base<=w.heap.size) (U:w.ownsRow base 5 1 vb k (u8s xs)):
  Calls prog 289 #[vb,v] w λe r=>∃ a,e=.returned a/\r.ownsRow base 5 1 a (k+meas ρ ps) (u8s (xs++ps.flatMap qD9))/\Below base w r/\St w r:=by
 obtain⟨x,y,f⟩:∃ x y,v=.slice x ps.length y:=by
  rcases o.val with⟨S,b,c,m,_⟩|⟨g,q,cap,cur,R,m,_⟩
  .rw[S];exact⟨b,c,m⟩
  .exact⟨_,cap,m⟩
 subst f;have L:=zh o;have N:=zh E;have t:=zh z;clear o E z;go_enter func289,ntmps289;go_wp2
 go_loopw [0,9] (λs i wr=>∃ (j:Nat) (a:Value),j<=ps.length/\i=.int .i64 j/\s=a/\Hid (wr.ownsRow base 5 1 a (k+meas ρ (ps.take j)) (u8s (xs++(ps.take j).flatMap qD9)))/\Hid (Below base w wr)/\Hid (St w wr)) (λ_ i _=>ps.length-(intOf i).toNat)
 case atStart=>exact⟨0,vb,zL _,rfl,rfl,by show World.ownsRow _ _ _ _ _ _ _;simpa [qD6] using U,Below.refl _ _,St.refl _⟩
 case round=>
  obtain⟨j,a,hj,rfl,rfl,u,HL,l⟩:=hrel;by_cases d:j<ps.length
  .obtain⟨Y,q,X,cur,R,f,Z,V,B⟩:=L.out.pair oM;obtain⟨c0,Q⟩:=B j d;simp only[vJ,true_and] at f;obtain⟨rfl,rfl⟩:=f;have n:=l.out _ _ _ _ V dC;have O:=ξ n (q+j*2);rw[c0] at O;have P:=ξ n (q+j*2+1);rw[Q] at P;have aa:=ζ n;have T:(j:Int)<(ps.length:Int):=oM
   have W:=N.out ps[j] (gM d);have ab:=qO6 ρ ps j;have I:=zh (qL6 ρ ps j d);have G:=zh (xB9 qD9 ps j d);clear B;go_wp2_with fail;refine (kH3 ps[j] _ base (k+meas ρ (ps.take j)) (xs++(ps.take j).flatMap qD9) _ oM W (by have:=t.out;have:=HL.out.size;simp;omega) (u.alloc _)).mono ?_;rintro e w1 ⟨F,rfl,C,A,D⟩;have K:Hid (w1.ownsRow base 5 1 F (k+meas ρ (ps.take (j+1))) (u8s (xs++(ps.take (j+1)).flatMap qD9))):=by
    show World.ownsRow _ _ _ _ _ _ _;rw[I.out,G.out,<-aA,<-Nat.add_assoc];exact C
   have H:=zh ((HL.alloc (by have:=t.out;have:=HL.out.size;omega) _).trans A);have M:=zh ((l.alloc _).trans D);clear C A D;go_wp2;exact⟨⟨j+1,F,oM,by go_num,rfl,K,H,M⟩,by simp[intOf];omega⟩
  .have T:¬(j:Int)<(ps.length:Int):=oM
   have e:ps.take j=ps:=tL oM;have h:=u.out;rw[e] at h;have J:=Hid.mk' h;clear e h;go_wp2;go_ret;exact⟨_,rfl,J,HL,l⟩
theorem kT1(vb)(base k:Nat)(xs:List Int)(v)(ps)(w)(hk:k+meas qA0 ps<=900)(hn:ps.length<=1000000)(F:∀ p∈ps,p.key.size<=8/\0<=p.b/\p.b<=1000000/\0<=p.s)
  (r:Slc w 87 4 v ps.length (qA7 ps)) (A:base<=w.heap.size) (Z:w.ownsRow base 5 1 vb k (u8s xs)):
  Calls prog 288 #[vb,v] w λe t=>∃ a,e=.returned a/\t.ownsRow base 5 1 a (k+meas qA0 ps) (u8s (xs++ps.flatMap qE3))/\Below base w t/\St w t:=by
 obtain⟨y,z,m⟩:∃ y z,v=.slice y ps.length z:=by
  rcases r.val with⟨X,b,c,q,_⟩|⟨g,f,cap,cur,W,q,_⟩
  .rw[X];exact⟨b,c,q⟩
  .exact⟨_,cap,q⟩
 subst m;have M:=zh r;have O:=zh F;have u:=zh A;clear r F A;go_enter func288,ntmps288;go_wp2
 go_loopw [0,9] (λs i wr=>∃ (j:Nat) (a:Value),j<=ps.length/\i=.int .i64 j/\s=a/\Hid (wr.ownsRow base 5 1 a (k+meas qA0 (ps.take j)) (u8s (xs++(ps.take j).flatMap qE3)))/\Hid (Below base w wr)/\Hid (St w wr)) (λ_ i _=>ps.length-(intOf i).toNat)
 case atStart=>exact⟨0,vb,zL _,rfl,rfl,by show World.ownsRow _ _ _ _ _ _ _;simpa [qD6] using Z,Below.refl _ _,St.refl _⟩
 case round=>
  obtain⟨j,a,hj,rfl,rfl,x,HL,o⟩:=hrel;by_cases l:j<ps.length
  .obtain⟨gb,f,ab,cur,W,m,ac,aa,C⟩:=M.out.link oM;obtain⟨c0,T,U,V⟩:=C j l;simp only[vJ,true_and] at m;obtain⟨rfl,rfl⟩:=m;have d:=o.out _ _ _ _ aa dC;have P:=ξ d (f+j*4);rw[c0] at P;have Q:=ξ d (f+j*4+1);rw[T] at Q;have R:=ξ d (f+j*4+2);rw[U] at R;have S:=ξ d (f+j*4+3);rw[V] at S;have ad:=ζ d;have Y:(j:Int)<(ps.length:Int):=oM
   have n:=O.out ps[j] (gM l);have ae:=qO6 qA0 ps j;have J:=zh (qL6 qA0 ps j l);have H:=zh (xB9 qE3 ps j l);clear C;go_wp2_with fail;refine (jW3 ps[j] _ base (k+meas qA0 (ps.take j)) (xs++(ps.take j).flatMap qE3) _ oM n.1 n.2.1 n.2.2.1 n.2.2.2 (by have:=u.out;have:=HL.out.size;simp;omega) (x.alloc _)).mono ?_;rintro e w1 ⟨G,rfl,D,B,E⟩;have L:Hid (w1.ownsRow base 5 1 G (k+meas qA0 (ps.take (j+1))) (u8s (xs++(ps.take (j+1)).flatMap qE3))):=by
    show World.ownsRow _ _ _ _ _ _ _;rw[J.out,H.out,<-aA,<-Nat.add_assoc];exact D
   have I:=zh ((HL.alloc (by have:=u.out;have:=HL.out.size;omega) _).trans B);have N:=zh ((o.alloc _).trans E);clear D B E;go_wp2;exact⟨⟨j+1,G,oM,by go_num,rfl,L,I,N⟩,by simp[intOf];omega⟩
  .have Y:¬(j:Int)<(ps.length:Int):=oM
   have e:ps.take j=ps:=tL oM;have h:=x.out;rw[e] at h;have K:=Hid.mk' h;clear e h;go_wp2;go_ret;exact⟨_,rfl,K,HL,o⟩
def qL7(lv:Int)(ps:List KV)(hs:List HL):List Int:=[lv,((ps.length+hs.length:Nat):Int)]++ps.flatMap qD9++hs.flatMap qE3
def qA5(lv:Int)(ps:List KV)(hs:List HL):List Int:=qL7 lv ps hs++List.replicate (128-(2+meas ρ ps+meas qA0 hs)) 0
theorem zE3{α:Type}(f:α->List Int)(g:α->Nat)(h:∀ x,(f x).length=g x)(l:List α):(l.flatMap f).length=meas g l:=by
 induction l with
 | nil=>simp[qD6]
 | cons a l ih=>rw[fC,lA,h,ih,qC1]
theorem xJ6(a:Int)(ps)(hs):(qL7 a ps hs).length=2+meas ρ ps+meas qA0 hs:=by
 unfold qL7;rw[lA,lA,zE3 qD9 ρ qU4,zE3 qE3 qA0 (λh=>qT7 h)];simp
theorem qR6(a:Int)(ps)(hs)(h:2+meas ρ ps+meas qA0 hs<=128):(qA5 a ps hs).length=128:=by
 unfold qA5;rw[lA,xJ6,List.length_replicate];omega
theorem qO8{w}{T}{sz:Nat}{v}{n:Nat}{cs:List Value}(h:Slc w T sz v n cs):∃ d e,v=.slice d n e:=by
 rcases h.val with⟨f,b,c,a,_⟩|⟨g,j,cap,cur,i,a,_⟩
 .rw[f];exact⟨b,c,a⟩
 .exact⟨_,cap,a⟩
theorem Slc.st{w w'}{T}{sz:Nat}{v}{n:Nat}{cs:List Value}(h:Slc w T sz v n cs)(i:T≠5)(j:St w w'):Slc w' T sz v n cs:=by
 refine⟨h.len,?_⟩;rcases h.val with a|⟨g,k,cap,cur,b,a,c,d,e,f⟩
 .exact Or.inl a
 .exact Or.inr ⟨g,k,cap,cur,b,a,c,d,j _ _ _ _ e i,f⟩
theorem kJ3(q:Nat)(d:Int)(pb lb)(n m f c:Nat)(w)(a:w.heap[q]?=some (ι d (.slice pb n f) (.slice lb m c)))(i:n<=100000)(h:m<=100000):
  Calls prog 161 #[.pointer (some ⟨q,0,none⟩)] w λe g=>e=.returned (.int .i64 ((n+m:Nat):Int))/\Kp [] w g:=by
 have j:=ζ a;have b:=ξ a;simp only[ι,zG,zH,zI] at b;clear a;go_enter func161,ntmps161;go_wp2_with fail
 go_quiet (fail)
 go_wp2;go_ret;exact⟨qJ5 oM,kF.drewN _⟩
theorem qF7(w)(o1):∃ a,a=w.alloc o1/\a.heap[w.heap.size]?=some o1/\Kp [] w a/\a.heap.size=w.heap.size+1:=⟨_,rfl,υ _ _,kF.alloc _,sM⟩
theorem kT6:zeroCells288=(List.replicate 128 (.int .u8 0)).toArray:=kR
theorem jW1(a:Int)(ps)(hs):qE2 zeroCells288 0 (u8s (qL7 a ps hs)).toArray=(u8s (qA5 a ps hs)).toArray:=by
 rw[kT6];unfold qE2
 congr 1
 rw[qA5,kQ5];simp only[List.take_zero,nA,List.drop_replicate,Nat.zero_add,List.size_toArray,xQ3,xJ6]
 congr 1
 simp[u8s]
theorem zK4(q:Nat)(a:Int)(vp vl)(ps)(hs)(w)(Y:w.heap[q]?=some (ι a vp vl))(bf:0<=a)(bg:a<256)
  (aa:Slc w 185 2 vp ps.length (qA3 ps)) (Z:Slc w 87 4 vl hs.length (qA7 hs)) (hm:2+meas ρ ps+meas qA0 hs<=128) (hc:ps.length+hs.length<=255)
  (a8:∀ p∈ps,qC6 p) (a7:∀ p∈hs,p.key.size<=8/\0<=p.b/\p.b<=1000000/\0<=p.s):
  Calls prog 271 #[.pointer (some ⟨q,0,none⟩)] w λe w'=>e=.returned (.agg (u8s (qA5 a ps hs)).toArray)/\Kp [] w w':=by
 obtain⟨r,s,rfl⟩:=qO8 aa;obtain⟨m,o,rfl⟩:=qO8 Z;have bl:IntKind.u8.wrap a=a:=by rw[IntKind.wrap_u8];omega
 obtain⟨f,ap⟩:∃ f:Nat,f=ps.length+hs.length:=⟨_,rfl⟩;have bk:IntKind.u8.wrap (f:Int)=(f:Int):=by rw[IntKind.wrap_u8];omega
 have ac:=zh ap;have y:=zh hc;have z:=zh hm;have HP:=zh aa;have HL:=zh Z;have bb:=zh a8;have ba:=zh a7;have HQ:=zh Y;have bn:=ζ Y;clear bf bg aa Z hm hc a8 a7 ap Y;go_enter func271,ntmps271;go_wp2_with fail;obtain⟨I,a1,ai,C,bo⟩:=qF7 w (.cells zeroCells288 288);rw[<-a1];clear a1;have ay:=C.hp HQ.out;have b:Ϙ I.drew q (ι a (.slice r ps.length s) (.slice m hs.length o)):=ay;refine wp_region_held_drew (S:=λW=>Ϙ W q (ι a (.slice r ps.length s) (.slice m hs.length o))) kR b (λ_=>?_);refine zP 0 q 0 b ?_;refine zV 1 (ϖ q) rfl (λW d=>by have c:=ζ d;clear d;go_simp) b ?_;refine zP 2 q 0 b ?_;refine zV 3 (ϊ a) rfl (λW d=>by have c:=ξ d 0;simp only[ι,zG,zH,zI] at c;clear d;go_simp) b ?_;refine zU 4 (.int .u8 a) b ?_;refine zP 5 q 0 b ?_;refine zP 9 q 0 b ?_;refine zV 10 (ϖ q) rfl (λW d=>by have c:=ζ d;clear d;go_simp) b ?_;refine zP 11 q 1 b ?_;refine zV 12 (.slice r ps.length s) rfl (λW d=>by have c:=ξ d 1;simp only[ι,zG,zH,zI] at c;clear d;go_simp) b ?_;refine zP 14 q 0 b ?_;refine zV 15 (ϖ q) rfl (λW d=>by have c:=ζ d;clear d;go_simp) b ?_;refine zP 16 q 2 b ?_;refine zV 17 (.slice m hs.length o) rfl (λW d=>by have c:=ξ d 2;simp only[ι,zG,zH,zI] at c;clear d;go_simp) b ?_;refine zq 6 λK hK=>?_;go_simp;refine (kJ3 q a r m ps.length hs.length s o I.drew b (by have:=y.out;omega) (by have:=y.out;omega)).mono ?_;rintro e w1 ⟨rfl,M⟩;have F:=M.hp b;rw[<-ac.out];have j:Kp [] I w1:=((Kp.refl _ I).drew).tr M;refine hK.out _ _ F (λ_=>?_);clear hK K M
 try simp only[zZ]
 refine zU 7 (.int .u8 f) F ?_;refine zq 8 λK hK=>?_;go_simp;obtain⟨w2,a2,ae,k,bp⟩:=qF7 w1 (.cells #[.int .u8 a,.int .u8 f] 5);rw[<-a2];clear a2;have R:=k.hp F;have O:=(C.tr j).tr k;have aj:=(j.tr k).hp ai;have ag:=C.tr j;have an:=k.below lR sM;have aw:w2.ownsRow w1.heap.size 5 1 (.slice (some ⟨w1.heap.size,0,none⟩) 2 2) 2 (u8s [a,(f:Int)]):=⟨rfl,Or.inr ⟨w1.heap.size,2,_,rfl,lR,ae,lR,dC,rfl,rfl⟩⟩;have bs:=j.size;refine hK.out _ _ R (λ_=>?_);clear hK K F j ae k ai ay b C
 try simp only[zZ]
 refine zq 13 λK hK=>?_;go_simp;refine (kT2 (.slice (some ⟨w1.heap.size,0,none⟩) 2 2) w1.heap.size 2 [a,(f:Int)] (.slice r ps.length s) ps w2 (by have:=z.out;omega) (by have:=y.out;omega) bb (HP.keep0 O) oM aw).mono ?_;rintro e w3 ⟨v3,rfl,ax,V,H⟩;have T:=H _ _ _ _ R dC;have ak:=H _ _ _ _ aj dC;refine hK.out _ _ T (λ_=>?_);clear hK K R aj aw
 try simp only[zZ]
 refine zq 18 λK hK=>?_;go_simp;refine (kT1 v3 w1.heap.size (2+meas ρ ps) ([a,(f:Int)]++ps.flatMap qD9) (.slice m hs.length o) hs w3 (by have:=z.out;omega) (by have:=y.out;omega) ba ((HL.keep0 O).st dC H) (by have:=V.size;omega) ax).mono ?_;rintro e u ⟨v4,rfl,G,ao,ab⟩;have U:=ab _ _ _ _ T dC;have al:=ab _ _ _ _ ak dC;refine hK.out _ _ U (λ_=>?_);clear hK K T ak ax
 try simp only[zZ]
 refine zq 19 λK hK=>?_;go_simp;refine zk hK U ?_
 refine zd ?_;have ad:=zh (ag.trans (Kp.of_below ((an.trans V).trans ao) lR) sM);have a6:u8s ([a,(f:Int)]++ps.flatMap qD9++hs.flatMap qE3)=u8s (qL7 a ps hs):=by rw[qL7,<-ac.out]
 rw[a6] at G;obtain⟨N,E⟩:=eY (2+meas ρ ps+meas qA0 hs);rw[E] at G;have HN:=zh E;rcases G.2 with⟨_,h0⟩|⟨g,cap,cur,rfl,hg,ar,bh,_,az,a0⟩
 .omega
 have a9:Hid (cur.toList.take N=u8s (qL7 a ps hs)):=by show _=_;rw[<-a0,Nat.mul_one]
 have L:Hid (N<=cur.size/\N<=128):=⟨by rw[az];omega,by rw[<-E];exact z⟩;have HG:=zh ar;have HR:=zh al;clear G a0 az ar al U a6 E H ab V ao an ag O bh;go_wp2_with fail;obtain⟨w5,a3,P,D,bq⟩:=qF7 u (.cells zeroCells288 288);rw[<-a3];clear a3;have aq:=D.hp HG.out;have am:=D.hp HR.out;have X:qA9 cur 0 N=(u8s (qL7 a ps hs)).toArray:=by
  simp only[qA9,dZ];rw[a9.out]
 have av:∀ v∈(qA9 cur 0 N).toList,v.oneCell'=true:=by
  rw[X];intro v l;simp only[u8s,List.mem_map] at l;obtain⟨x,_,rfl⟩:=l;rfl
 rw[zB1 (n:=N) 3 underlying118 Tryz.size5 (by have:=L.out.2;show N=min N 128;omega) P aq (by rw[qL1];have:=L.out.2;omega) (by have:=L.out.1;omega) av,X];have au:=jW1 a ps hs;rw[au];obtain⟨B,i⟩:=eX ((u8s (qA5 a ps hs)).toArray);have A:B.size=128:=by rw[i];simp only[List.size_toArray,xQ3];exact qR6 a ps hs z
 have bc:∀ v∈B.toList,v.oneCell'=true:=by
  rw[i];intro v l;simp only[u8s,List.mem_map] at l;obtain⟨x,_,rfl⟩:=l;rfl
 rw[<-i];have HB:=zh i;have bj:=ζ HR.out;have bi:w.heap.size≠u.heap.size:=oM
 obtain⟨h,a4,ah,Q,af,br⟩:∃ h,h=w5.setRow u.heap.size B/\Ϙ h u.heap.size (.cells B 288)/\Ϙ h w.heap.size (.cells zeroCells288 288)/\Kp [] w h/\h.heap.size=w5.heap.size:=
  ⟨_,rfl,setRow_heap _ _ _ _ _ _ P,(setRow_other _ _ _ _ bi).trans am,(ad.tr D).setRow (Or.inr (by have:=ad.out.size;omega)) _,sM⟩
 rw[<-a4];clear a4 X av am P aq D au i;have bm:qA9 B 0 128=B:=by rw[<-A];simp[qA9,tL]
 go_wp2_with (
  with_reducible refine qX6 (t:=288) ?_ 128 ?_ u.heap.size 0 ?_ B 288 (0,0) ?_ ?_ ?_
  .kernel_rfl
  .kernel_rfl
  .rfl
  .exact ah
  .omega)
 rw[qP9 Q (by simp[qL1,A]) bc];rw[show B.toList.toArray=B from by simp,qP5 (by rw[qL1,A])];obtain⟨J,a5,be,bd⟩:∃ J,J=h.setRow w.heap.size B/\Ϙ J w.heap.size (.cells B 288)/\Kp [] w J:=
  ⟨_,rfl,setRow_heap _ _ _ _ _ _ Q,af.setRow (Or.inr lR) _⟩
 rw[<-a5];clear a5 ah Q af;go_wp2_with fail;exact bodyPost_ret (results_cell_row results271 _ _ w.heap.size _ _ _ _ rfl be underlying288 rfl (by rw[A];kernel_rfl)) rfl ⟨by rw[HB.out],bd⟩
variable {κ:Nat}
def nx(c:Int):Int:=wrap64 (c+1)
def nk(c:Int):Nat→Int
 | 0=>c
 | k+1=>nx (nk c k)
theorem zE0(A n C:Nat)(cache)(a k:Int)(w)(h:w.heap[A]?=some (qA8 κ n C cache a k)):
  Calls prog 329 #[.pointer (some ⟨A,0,none⟩)] w λe j=>e=.returned (.bool false)/\j=w.setCell ⟨A,2,none⟩ (.int .i64 (nx a)):=by
 have b:=ξ h 2;have c:=ξ h 5;have d:=ξ h 6;have f:=ξ h 7;simp at b c d f;have l:=φ h 2;clear h;have o:wrap64 (a+1)=nx a:=rfl;by_cases i:a<0
 .have g:decide (a<0)=true:=by simp[i]
  have m:decide (0<=a)=false:=sO
  go_enter func329,ntmps329;go_wp2;go_ret;exact⟨rfl,rfl⟩
 have g:decide (a<0)=false:=sO
 go_enter func329,ntmps329;go_wp2;go_ret;exact⟨rfl,rfl⟩
theorem kJ4(A n C:Nat)(a c:Int)(i:Nat)(cs)(w)(h:w.heap[A]?=some (qA8 κ n C (.slice none 0 0) a c))
  (y:i<n) (z:n<=1000) (l:w.heap[C]?=some (.cells cs 115)) (B:n*128<=cs.size) (s:allBytes cs) (p:C≠A):
  Calls prog 327 #[.pointer (some ⟨A,0,none⟩),.int .i64 i] w λe j=>∃ g,e=.returned (.tuple #[.slice (some ⟨g,0,none⟩) 128 128,.nilIface])/\w.heap.size<=g/\
   j.heap[g]?=some (.cells (qA9 cs (i*128) 128) 5)/\j.heap[A]?=some (qA8 κ n C (.slice none 0 0) (nx a) c)/\Kp [A] w j:=by
 have c0:=ξ h 0;have d:=ξ h 1;simp at c0 d;have t:=ζ h;have u:=ζ l;go_enter func327,ntmps327;go_wp2_with fail;refine (zE0 A n C _ a c _ h).mono ?_;rintro e w1 ⟨rfl,rfl⟩;go_wp2_with fail;refine (xJ9 A n C (.slice none 0 0) (nx a) c i _ (μ h 2 _) oM oM).mono ?_;rintro e w1 ⟨rfl,rfl⟩
 go_wp2_with (refine xR6 (.int .u8 0) (.int .u8 0) 1 1 underlying118 Tryz.info5 (by simp[Value.cells]) (by simp[Value.cells]) .i64 .i64 128 rfl rfl dC dC ?_;intro Z v x)
 have f:((w.setCell ⟨A,2,none⟩ (ϊ (nx a))).alloc (.cells Z 5)).heap[w.heap.size]?=some (.cells Z 5):=by
  simpa using υ (w.setCell ⟨A,2,none⟩ (ϊ (nx a))) (.cells Z 5)
 have m:=ν (.cells Z 5) ((qB1 p 2 (ϊ (nx a))).trans l);rw[zB1 (n:=128) 3 underlying118 Tryz.size5 rfl f m oM oM (zC6 s _ _).one];obtain⟨b,o,r,k,q⟩:∃ b,b=((w.setCell ⟨A,2,none⟩ (ϊ (nx a))).alloc (.cells Z 5)).setRow w.heap.size (qE2 Z 0 (qA9 cs (i*128) 128))/\Kp [A] w b/\
   b.heap[A]?=some (qA8 κ n C (.slice none 0 0) (nx a) c)/\b.heap[w.heap.size]?=some (.cells (qA9 cs (i*128) 128) 5):=
  ⟨_,rfl,((kF.sc _).alloc _).setRow sM _,(setRow_other _ _ _ _ oM).trans (ν _ (μ h 2 _)),by
   rw[setRow_heap _ _ _ _ _ _ f,qP5 (by rw[qU5 oM];omega)]⟩
 rw[<-o];clear o f m c0 d h;have d:=ξ k 1;simp at d;go_wp2;refine wp_loop_rounds 1 ?_;rw[rounds_succ];go_wp2
 go_ret2
 exact⟨_,rfl,lR,q,k,r⟩
theorem zP1(V A n C:Nat)(d j:Int)(i:Nat)(l)(w)(x:w.heap[V]?=some (qE4 A n))(h:w.heap[A]?=some (qA8 κ n C (.slice none 0 0) d j))
  (O:i<n) (P:n<=1000) (s:w.heap[C]?=some (.cells (enc l) 115)) (Q:n*128<=l.length) (I:C≠A) (U:V≠A):
  Calls prog 247 #[.pointer (some ⟨V,0,none⟩),.int .i64 i] w λe E=>e=.returned (.agg (enc (qB3 l i)))/\
   E.heap[A]?=some (qA8 κ n C (.slice none 0 0) (nx d) j)/\Kp [A] w E:=by
 have c0:=ξ x 0;simp at c0;have W:=ζ x;have R:=ζ h;have T:=ζ s;go_enter func247,ntmps247;go_wp2_with fail;refine (kJ4 A n C d j i (enc l) _ (ν _ h) O P (ν _ s) (by rw[qI7];exact Q) (qM1 l) I).mono ?_;rintro e w1 ⟨g,rfl,D,f,r,k⟩;rw[qO7] at f;have B:qB3 l i=(l.drop (i*128)).take 128:=rfl;rw[<-B] at f;have p:(qB3 l i).length=128:=by simp[qB3];omega
 clear B;obtain⟨a,o⟩:=eY (qB3 l i);rw[o] at f p;have F:=zh o;clear o;have M:Ϙ w1 w.heap.size (.cells zeroCells288 288):=k.heap (υ _ _) sO;have u:Kp [A] w w1:=(kF.alloc _).tr k;have Y:w.heap.size+1<=g:=by simpa using D
 have X:=ζ f;have S:=ζ r;clear k D c0;go_wp2_with fail;have m:=υ w1 (.cells zeroCells288 288);rw[zB1 (n:=128) 3 underlying118 Tryz.size5 rfl m (ν _ f) (by simp[qL1]) (by rw[qI7];omega) (zC6 (qM1 _) _ _).one];rw[qO7,dZ,tL oM,qP5 (by rw[qL1,qI7,p])];obtain⟨b,y,K,G,v,J⟩:∃ b,b=(w1.alloc (.cells zeroCells288 288)).setRow w1.heap.size (enc a)/\Kp [A] w b/\Ϙ b A (qA8 κ n C (.slice none 0 0) (nx d) j)/\
   Ϙ b w.heap.size (.cells zeroCells288 288)/\Ϙ b w1.heap.size (.cells (enc a) 288):=
  ⟨_,rfl,(u.alloc _).setRow (Or.inr u.size) _,(setRow_other _ _ _ _ oM).trans (ν _ r),(setRow_other _ _ _ _ oM).trans (ν _ M),setRow_heap _ _ _ _ _ _ m⟩
 rw[<-y];clear y m;have Z:qA9 (enc a) 0 128=enc a:=by rw[qO7,dZ,tL oM]
 have q:(enc a).size=128:=by rw[qI7,p]
 go_wp2_with (
  with_reducible refine qX6 (t:=288) ?_ 128 ?_ w1.heap.size 0 ?_ (enc a) 288 (0,0) ?_ ?_ ?_
  .kernel_rfl
  .kernel_rfl
  .rfl
  .exact J
  .rw[qI7];omega)
 rw[qP9 v (by simp[qL1,q]) (qM1 a).one];rw[show (enc a).toList.toArray=enc a from by simp,qP5 (by rw[qL1,q])];obtain⟨c,z,L,H,N⟩:∃ c,c=b.setRow w.heap.size (enc a)/\Kp [A] w c/\Ϙ c A (qA8 κ n C (.slice none 0 0) (nx d) j)/\Ϙ c w.heap.size (.cells (enc a) 288):=
  ⟨_,rfl,K.setRow sM _,(setRow_other _ _ _ _ oM).trans G,setRow_heap _ _ _ _ _ _ v⟩
 rw[<-z];clear z;go_wp2_with fail;exact bodyPost_ret (results_cell_row results247 _ _ w.heap.size _ _ _ _ rfl N underlying288 rfl (by rw[q];kernel_rfl)) rfl ⟨by rw[F.out],H,L⟩
theorem jO2(A n C:Nat)(a b:Int)(w)(h:w.heap[A]?=some (qA8 κ n C (.slice none 0 0) a b)):
  Calls prog 326 #[.pointer (some ⟨A,0,none⟩)] w λe c=>e=.returned .nilIface/\c.heap[A]?=some (qA8 κ n C (.slice none 0 0) (nx a) b)/\Kp [A] w c:=by
 have d:=ξ h 1;simp at d;have f:=φ h 1;go_enter func326,ntmps326;go_wp2_with fail;refine (zE0 A n C _ a b _ h).mono ?_;rintro e w1 ⟨rfl,rfl⟩;go_wp2;refine wp_loop_rounds 1 ?_;rw[rounds_succ];go_wp2;go_ret;refine⟨rfl,?_,(kF.sc _).sc _⟩;exact μ (μ h 2 _) 1 _
end Go.Proofs.YtdohpenfkdckiaaGreatDoor
