import Derived.Test.YtdohpenfkdckiaaGreatDoorJ13
set_option linter.all false
set_option maxRecDepth 100000
set_option maxHeartbeats 20000000
namespace Go.Proofs.YtdohpenfkdckiaaGreatDoor
open Go.Proofs.Tryz
open Go.RowKit
structure PutIn(E:SEnv)(w:World)(Vc Tc Kc x A n:Nat)(t:Tx)(s:Sto)(r:Root)(p:KV):Prop where
 hVc:w.heap[Vc]?=some (.cells #[.string p.v] 9)
 hTc:w.heap[Tc]?=some (.cells #[.pointer (some ⟨x,0,none⟩)] 32)
 hKc:w.heap[Kc]?=some (.cells #[.string p.k] 9)
 hx:w.heap[x]?=some (qA5 t)
 on:t.on=some ⟨E.V,0,none⟩
 hSt:w.heap[t.St]?=some (ν 1 s)
 sV:s.V=E.V
 hV:w.heap[E.V]?=some (qE4 A n)
 n1:n≤1000
 bl0:0≤s.bl
 bl1:s.bl≤100000
 dev:E.Dev w
 vS:E.V ∉ E.S
 rr:RR E.toEnv w t.h r
 good:RGood r
 sz:r.cont.length≤70000
theorem kB6(a d c:Nat)(v)(w)(b:w.heap[a]?=some (.cells #[.string v] 9))(g:12<v.size):
  Calls prog 72 #[.pointer (some ⟨a,0,none⟩),.pointer (some ⟨d,0,none⟩),.pointer (some ⟨c,0,none⟩)] w λe f=>e=qB7 (some 2)/\f=w:=by
 have h:(12:Int)<(v.size:Int):=oM
 have i:=ζ b;have j:=ϻ b 0;go_enter func72,ntmps72;go_wp2;exact⟨rfl,rfl,rfl,rfl⟩
theorem xS5{W}{x:Nat}{t}(v0 v1 v2 v3 v4)(h:W.heap[x]?=some (qA5 t)):
  (((((W.setCell ⟨x,4,none⟩ v0).setCell ⟨x,5,none⟩ v1).setCell ⟨x,6,none⟩ v2).setCell ⟨x,7,none⟩ v3).setCell ⟨x,8,none⟩ v4).heap[x]?=some (.cells #[.pointer (some ⟨t.St,0,none⟩),.int .u64 t.nr,.bool t.wrt,.bool t.over,v0,v1,v2,v3,v4,.int .u64 t.ch] 99)/\Kp [x] W (((((W.setCell ⟨x,4,none⟩ v0).setCell ⟨x,5,none⟩ v1).setCell ⟨x,6,none⟩ v2).setCell ⟨x,7,none⟩ v3).setCell ⟨x,8,none⟩ v4):=
 ⟨μ (μ (μ (μ (μ h 4 _) 5 _) 6 _) 7 _) 8 _,(((((Kp.refl _ W).sc _).sc _).sc _).sc _).sc _⟩
theorem xO1(E)(Vc Tc Kc x A n:Nat)(t)(s)(r)(p)(w)(u:PutIn E w Vc Tc Kc x A n t s r p)(ah:qC3 p):
  Calls prog 72 #[.pointer (some ⟨Vc,0,none⟩),.pointer (some ⟨Tc,0,none⟩),.pointer (some ⟨Kc,0,none⟩)] w λe w'=>(((r.put p).news:Int)<=(n:Int)-2-s.bl->e=qB7 none/\∃ V b,E.To w V/\RR E.toEnv w' b (r.put p)/\w'.heap[x]?=some (qA5 { t with h:=b })/\Kp [x] V w')/\((n:Int)-2-s.bl<((r.put p).news:Int)->e=qB7 (some 3)/\E.To w w'):=by
 have d:=zh u;have ad:=zh ah;have a9:=u.on;have bc:=zh u.vS;have i:Hid (∀ W,E.To w W->Ϙ W Tc (.cells #[ϖ x] 32)/\Ϙ W x (qA5 t)/\Ϙ W Kc (.cells #[.string p.k] 9)/\Ϙ W Vc (.cells #[.string p.v] 9)):=
  λW hT=>⟨E.stay u.dev hT u.hTc dC,E.stay u.dev hT u.hx dC,E.stay u.dev hT u.hKc dC,E.stay u.dev hT u.hVc dC⟩
 have hb:¬(12:Int)<(p.v.size:Int):=by have:=ah.2.2;omega
 have bm:p.k.size<=1000000:=by have:=ah.2.1;omega
 have bn:p.v.size<=1000000:=by have:=ah.2.2;omega
 have bl:=ζ u.hVc;have a6:=u.hVc;have v0:=ϻ a6 0;clear u ah a6;go_enter func72,ntmps72;go_wp2_with fail;rename_i K0 au;clear hb v0;refine shr (α:=Nat->HL->Act) (R:=λA0=>∀ z b j,Hid (E.To w j/\RR E.toEnv j b (r.put p)/\Ϙ j z (.cells (ϟ E.V b) 89))->K0 (A0 z b) j) ?_;apply Exists.intro;apply And.intro
 rotate_left
 .intro HREST;have al:=Env.To.of0 d.dev kF;have T:=i.out _ al;refine wp_region_held_drew (S:=λW=>Ϙ W Tc (.cells #[ϖ x] 32)/\Ϙ W x (qA5 t)/\Ϙ W Kc (.cells #[.string p.k] 9)/\Ϙ W Vc (.cells #[.string p.v] 9)) kR T (λ_=>?_);refine zV 0 (ϖ x) rfl (λW f=>by have c:=ξ f.1 0;simp at c;clear f;go_simp) T ?_;refine zP 1 x 0 T ?_;refine zP 2 x 4 T ?_;refine zV 3 (τ E.V t.h) rfl (λW f=>by have a0:=ξ f.2.1 4;have a1:=ξ f.2.1 5;have a2:=ξ f.2.1 6;have a3:=ξ f.2.1 7;have a4:=ξ f.2.1 8;simp only[qA5,a9,zG,zH,zI] at a0 a1 a2 a3 a4;clear f;rw[τ];go_simp) T ?_;refine zV 4 (.string p.k) rfl (λW f=>by have c:=ξ f.2.2.1 0;simp at c;clear f;go_simp) T ?_;refine zV 6 (.string p.v) rfl (λW f=>by have c:=ξ f.2.2.2 0;simp at c;clear f;go_simp) T ?_;have aj:=al.tail (kF.drew);have av:=i.out _ aj;clear al T;refine zr 5 10 (λK hK=>?_) λK hK=>?_
  .go_simp;refine (qY5 p.k w.drew oM).mono ?_;rintro e V ⟨rfl,k⟩;have P:=aj.tail k;have ac:=i.out _ P;clear aj av;refine zk hK ac ?_
   refine zr 7 10 (λK hK=>?_) λK hK=>?_
   .go_simp;refine (qY5 p.v V oM).mono ?_;rintro e w2 ⟨rfl,k⟩;have m:=P.tail k;have O:=i.out _ m;clear P ac;refine zk hK O ?_
    refine zU 8 (.agg #[.string p.k,.string p.v]) O ?_;refine zr 9 10 (λK hK=>?_) λK hK=>?_
    .go_simp;refine (zJ8 E.toEnv r t.h p w2 m.dev (d.rr.to d.dev m) d.good (by have:=d.out.sz;omega) ad).mono ?_;rintro e X ⟨b,rfl,M,y⟩;have g:=m.trans y;have B:=i.out _ g;clear m O y;refine zk hK B ?_
     refine zq 10 λK hK=>?_;go_simp;obtain⟨w4,J,a,C⟩:=alA X (.cells ϛ 89);rw[<-J];clear J;have o:=g.kp.size;have U:=ζ a;have G:=g.tail C;have Z:=i.out _ G;obtain⟨z,I⟩:=eX X.heap.size;rw[<-I] at a o U |-;clear I;have bd:=M.keepT C (Apt.nil _ _);clear M g B C;have M:=bd;refine zk hK Z ?_
     have Q:=ξ a;have Y:=ψ a;have am:=ζ a;simp only[τ];refine zq 11 λK hK=>?_;go_simp;have q:=qM7 (ϖ E.V) (.string b.key) (ϊ b.b) (.int .u64 b.s) (.pointer b.ptr) a;obtain⟨j,L,H,F⟩:=gE q;rw[<-L];clear L q Q Y;have v:=G.store' o a dC F;have l:=i.out _ v;have N:=M.keepT F (Apt.one a dC);refine zk hK l ?_
     refine zd ?_;show K0 _ j;exact HREST z b j (hid ⟨v,N,H⟩)
    .go_simp;obtain⟨X,J,a,C⟩:=alA w2 (.cells ϛ 89);rw[<-J];clear J;have o:=m.kp.size;have U:=ζ a;have g:=m.tail C;have B:=i.out _ g;obtain⟨z,I⟩:=eX w2.heap.size;rw[<-I] at a o U |-;clear I;clear m O C;refine zk hK B ?_
     refine zq 9 λK hK=>?_;go_simp;refine (zJ8 E.toEnv r t.h p X g.dev (d.rr.to d.dev g) d.good (by have:=d.out.sz;omega) ad).mono ?_;rintro e w4 ⟨b,rfl,M,y⟩;have G:=g.trans y;have Z:=i.out _ G;have ag:=y.new d.dev o a;clear g B y a;have a:=ag;refine zk hK Z ?_
     have Q:=ξ a;have Y:=ψ a;have am:=ζ a;simp only[τ];refine zq 11 λK hK=>?_;go_simp;have q:=qM7 (ϖ E.V) (.string b.key) (ϊ b.b) (.int .u64 b.s) (.pointer b.ptr) a;obtain⟨j,L,H,F⟩:=gE q;rw[<-L];clear L q Q Y;have v:=G.store' o a dC F;have l:=i.out _ v;have N:=M.keepT F (Apt.one a dC);refine zk hK l ?_
     refine zd ?_;show K0 _ j;exact HREST z b j (hid ⟨v,N,H⟩)
   .go_simp;obtain⟨w2,J,a,C⟩:=alA V (.cells ϛ 89);rw[<-J];clear J;have o:=P.kp.size;have U:=ζ a;have m:=P.tail C;have O:=i.out _ m;obtain⟨z,I⟩:=eX V.heap.size;rw[<-I] at a o U |-;clear I;clear P ac C;refine zk hK O ?_
    refine zq 7 λK hK=>?_;go_simp;refine (qY5 p.v w2 oM).mono ?_;rintro e X ⟨rfl,k⟩;have g:=m.tail k;have B:=i.out _ g;have af:=k.hp a;clear m O a k;have a:=af;refine zk hK B ?_
    refine zU 8 (.agg #[.string p.k,.string p.v]) B ?_;refine zq 9 λK hK=>?_;go_simp;refine (zJ8 E.toEnv r t.h p X g.dev (d.rr.to d.dev g) d.good (by have:=d.out.sz;omega) ad).mono ?_;rintro e w4 ⟨b,rfl,M,y⟩;have G:=g.trans y;have Z:=i.out _ G;have ag:=y.new d.dev o a;clear g B y a af;have a:=ag;refine zk hK Z ?_
    have Q:=ξ a;have Y:=ψ a;have am:=ζ a;simp only[τ];refine zq 11 λK hK=>?_;go_simp;have q:=qM7 (ϖ E.V) (.string b.key) (ϊ b.b) (.int .u64 b.s) (.pointer b.ptr) a;obtain⟨j,L,H,F⟩:=gE q;rw[<-L];clear L q Q Y;have v:=G.store' o a dC F;have l:=i.out _ v;have N:=M.keepT F (Apt.one a dC);refine zk hK l ?_
    refine zd ?_;show K0 _ j;exact HREST z b j (hid ⟨v,N,H⟩)
  .go_simp;obtain⟨V,J,a,C⟩:=alF w (.cells ϛ 89);rw[<-J];clear J;have o:w.heap.size<=w.heap.size:=lR;have U:=ζ a;have P:=Env.To.of0 d.dev C;have ac:=i.out _ P;obtain⟨z,I⟩:=eX w.heap.size;have az:w.heap.size<=z:=oM
   clear o;rw[<-I] at a U |-;have o:=az;clear I az;clear aj av C;refine zk hK ac ?_
   refine zq 5 λK hK=>?_;go_simp;refine (qY5 p.k V oM).mono ?_;rintro e w2 ⟨rfl,k⟩;have m:=P.tail k;have O:=i.out _ m;have ay:=k.hp a;clear P ac a k;have a:=ay;refine zk hK O ?_
   refine zq 7 λK hK=>?_;go_simp;refine (qY5 p.v w2 oM).mono ?_;rintro e X ⟨rfl,k⟩;have g:=m.tail k;have B:=i.out _ g;have af:=k.hp a;clear m O a ay k;have a:=af;refine zk hK B ?_
   refine zU 8 (.agg #[.string p.k,.string p.v]) B ?_;refine zq 9 λK hK=>?_;go_simp;refine (zJ8 E.toEnv r t.h p X g.dev (d.rr.to d.dev g) d.good (by have:=d.out.sz;omega) ad).mono ?_;rintro e w4 ⟨b,rfl,M,y⟩;have G:=g.trans y;have Z:=i.out _ G;have ag:=y.new d.dev o a;clear g B y a af;have a:=ag;refine zk hK Z ?_
   have Q:=ξ a;have Y:=ψ a;have am:=ζ a;simp only[τ];refine zq 11 λK hK=>?_;go_simp;have q:=qM7 (ϖ E.V) (.string b.key) (ϊ b.b) (.int .u64 b.s) (.pointer b.ptr) a;obtain⟨j,L,H,F⟩:=gE q;rw[<-L];clear L q Q Y;have v:=G.store' o a dC F;have l:=i.out _ v;have N:=M.keepT F (Apt.one a dC);refine zk hK l ?_
   refine zd ?_;show K0 _ j;exact HREST z b j (hid ⟨v,N,H⟩)
 rintro z b j ao;refine au _ _ ?_;clear au K0;obtain⟨v,N,H⟩:=ao.out;have ak:=hid v;have ap:=hid N;have bj:=hid H;clear v N ao;go_wp2_with fail;have l:=And.intro H (And.intro (i _ ak).1 (i _ ak).2.1);refine wp_region_held_drew (S:=λW=>Ϙ W z (.cells (ϟ E.V b) 89)/\Ϙ W Tc (.cells #[ϖ x] 32)/\Ϙ W x (qA5 t)) kR l (λ_=>?_);refine zV 0 (τ E.V b) rfl (λW f=>by have a0:=ξ f.1;clear f;rw[τ];go_simp) l ?_;refine zV 2 (ϖ x) rfl (λW f=>by have c:=ξ f.2.1 0;simp at c;clear f;go_simp) l ?_;refine zP 3 x 0 l ?_;refine zP 4 x 0 l ?_;refine zV 5 (ϖ t.St) rfl (λW f=>by have a0:=ξ f.2.2 0;simp only[qA5,zG,zH,zI] at a0;clear f;go_simp) l ?_;refine zq 1 λK hK=>?_;go_simp;obtain⟨bf,be⟩:=zS4 d.good ad.out;have bg:(r.put p).cont.length<=1000000:=by rw[be];have h1:=zO4 p r.cont;have h2:=d.out.sz;omega
 refine (xO6 E.toEnv (r.put p) b j.drew (ap.keepT ((Kp.refl [] _).drew) (Apt.nil _ _)) bf bg).mono ?_;rintro e ba ⟨rfl,k⟩;have aa:=((Kp.refl [] j).drew).tr k;have ai:=ak.out.tail aa;have ae:=And.intro (aa.hp l.1) (And.intro (aa.hp l.2.1) (aa.hp l.2.2));clear k;refine zk hK ae ?_
 refine zq 6 λK hK=>?_;go_simp;have aw:=E.stay d.dev ai d.hSt dC;have a5:Ϙ ba s.V (qE4 A n):=by
  rw[d.out.sV];exact ai.kp.heap d.hV (bc)
 refine (kC8 t.St A n 1 s ba aw a5 (by have:=d.out.n1;omega) d.bl0 (by have:=d.out.bl1;omega)).mono ?_;rintro e bi ⟨rfl,ab⟩;have ax:=ai.tail ab;have D:=And.intro (ab.hp ae.1) (And.intro (ab.hp ae.2.1) (ab.hp ae.2.2));refine zk hK D ?_
 have bb:=zh (ap.keepT (aa.tr ab) (Apt.nil _ _));have ar:=zh ax;have aq:=zh D;clear aw a5 aa ab ai ax l ae H;by_cases bh:((r.put p).news:Int)<=(n:Int)-2-s.bl
 .skip
  refine zU 7 (.bool false) D ?_;refine zd ?_;have U:=ζ D.1;have bk:=ζ D.2.1;have bo:=ζ D.2.2;have a7:=D.1;have a8:=D.2.1;have an:=D.2.2;have Q:=ξ a7;have c0:=ϻ a8 0;have d4:=ξ an;simp only[qA5,zG,zH,zI] at d4;have f4:=ψ an;clear D a7 a8 an;go_wp2
  go_end0
  have q:=xS5 (ϖ E.V) (.string b.key) (ϊ b.b) (.int .u64 b.s) (.pointer b.ptr) aq.2.2;refine⟨λ_=>⟨rfl,bi,b,ar,bb.keepT q.2 (Apt.one aq.2.2 dC),?_,q.2⟩,λh=>by omega⟩;rw[q.1,qA5,a9]
 .have bh:(n:Int)-2-s.bl<((r.put p).news:Int):=oM
  refine zU 7 (.bool true) D ?_;refine zd ?_;clear D;go_wp2;exact⟨rfl,rfl,λh=>by omega,λ_=>⟨rfl,ar⟩⟩
theorem kB7(E)(c b a x A n:Nat)(t)(s)(r)(p)(w)(f:PutIn E w c b a x A n t s r p)(g:qC3 p)(i:((r.put p).news:Int)<=(n:Int)-2-s.bl):
  Calls prog 72 #[.pointer (some ⟨c,0,none⟩),.pointer (some ⟨b,0,none⟩),.pointer (some ⟨a,0,none⟩)] w λe d=>e=qB7 none/\∃ w1 h',E.To w w1/\RR E.toEnv d h' (r.put p)/\d.heap[x]?=some (qA5 { t with h:=h' })/\Kp [x] w1 d:=
 (xO1 E c b a x A n t s r p w f g).mono λ_ _ h=>h.1 i
theorem kB8(E)(c b a x A n:Nat)(t)(s)(r)(p)(w)(d:PutIn E w c b a x A n t s r p)(f:qC3 p)(g:(n:Int)-2-s.bl<((r.put p).news:Int)):
  Calls prog 72 #[.pointer (some ⟨c,0,none⟩),.pointer (some ⟨b,0,none⟩),.pointer (some ⟨a,0,none⟩)] w λe i=>e=qB7 (some 3)/\E.To w i:=
 (xO1 E c b a x A n t s r p w d f).mono λ_ _ h=>h.2 g
end Go.Proofs.YtdohpenfkdckiaaGreatDoor
