import Derived.Test.YtdohpenfkdckiaaGreatDoorJ32
set_option linter.all false
set_option maxRecDepth 100000
set_option maxHeartbeats 20000000
namespace Go.Proofs.YtdohpenfkdckiaaGreatDoor.Gw
open Go.Proofs.Tryz
open Go.RowKit
theorem jY9(I:DInv)(base c:Nat)(T:Int)(k x y a b:Int)(s t)(w)(h:WOk I base T w c [])(v:5<=k)(z:k<=9):
  Calls prog 124 #[.pointer (some ⟨c,0,none⟩),.agg #[.int .i64 k,.int .i64 x,.int .i64 y,.int .i64 a,.int .i64 b,.string s,.string t]] w λe i=>e=.returned (.bool true)/\(∃ ds',WOk I base (T+2) i c ds')/\Below base w i:=by
 have g:=h;obtain⟨B,nk,p,xs,A,o,d,j,l,m⟩:=h.hW;have f:=hid g;have q:=ζ d;have r:¬k<5:=oM
 have u:¬9<k:=oM
 have n:=ξ d 1;simp only[qD6,List.length_nil,zG,zH,zI] at n;clear h g d j l m;go_enter func124,ntmps124;go_wp2;go_ret;have hK:Kp [] w (w.alloc (.cells #[ϊ k,ϊ x,ϊ y,ϊ a,ϊ b,.string s,.string t] 66)):=kF.alloc _;exact⟨rfl,⟨[],f.same hK oM⟩,hK.below f.hbs sM⟩
theorem jY5(I:DInv)(base d:Nat)(T:Int)(f:List I.G)(x y a b:Int)(s t)(w)(h:WOk I base T w d f)(hT:T<=70000)(hx:I64 x)(ha:I64 a)(hb:I64 b)(hd:1<=f.length):
  Calls prog 124 #[.pointer (some ⟨d,0,none⟩),.agg #[.int .i64 5,.int .i64 x,.int .i64 y,.int .i64 a,.int .i64 b,.string s,.string t]] w λe w'=>e=.returned (.bool true)/\(∃ H,WOk I base (T+2) w' d H)/\Below base w w':=by
 have h':=h;obtain⟨G,nk,E,xs,pd,r,v,F,N,J⟩:=h.hW;obtain⟨o,cur,rfl,bj,ai,ax⟩:=zI2 J hd;have HH:=hid h';have bg:=ζ v;have bk:=ζ ai;have hl:=h.len;have bi:=h.hbs;have bl:¬((f.length:Int)=0):=oM
 have H1:=hid (show Ϙ w d (qD6 G nk E (some ⟨o,0,none⟩) f.length r)/\w.ownsRow base 3 1 (.slice G nk E) nk xs/\(nk:Int)<=T/\w.ownsRow base 119 1 (.slice (some ⟨o,0,none⟩) f.length r) f.length (qJ7 I f) from⟨v,F,N,J⟩);have M:=ξ v 1;simp only[qD6,zG,zH,zI] at M;clear h h' F N J;go_enter func124,ntmps124;go_wp2_with fail;obtain⟨u,av,aa,ah,au,Q⟩:∃ u,u=w.alloc (.cells #[ϊ 5,ϊ x,ϊ y,ϊ a,ϊ b,.string s,.string t] 66)/\Ϙ u w.heap.size (.cells #[ϊ 5,ϊ x,ϊ y,ϊ a,ϊ b,.string s,.string t] 66)/\Ϙ u d (qD6 G nk E (some ⟨o,0,none⟩) f.length r)/\Ϙ u o (.cells cur 119)/\Kp [] w u:=⟨_,rfl,υ _ _,ρ _ v,ρ _ ai,kF.alloc _⟩;rw[<-av];clear av v ai M;have g:Ϙ u.drew d (qD6 G nk E (some ⟨o,0,none⟩) f.length r)/\Ϙ u.drew w.heap.size (.cells #[ϊ 5,ϊ x,ϊ y,ϊ a,ϊ b,.string s,.string t] 66)/\Ϙ u.drew o (.cells cur 119):=⟨ah,aa,au⟩;refine wp_region_held_drew (S:=λW=>Ϙ W d (qD6 G nk E (some ⟨o,0,none⟩) f.length r)/\Ϙ W w.heap.size (.cells #[ϊ 5,ϊ x,ϊ y,ϊ a,ϊ b,.string s,.string t] 66)/\Ϙ W o (.cells cur 119)) kR g (λ_=>?_);refine zP 0 d 0 g ?_;refine zP 1 d 0 g ?_;refine zP 2 d 1 g ?_;refine zV 3 (.slice (some ⟨o,0,none⟩) f.length r) rfl (λW q=>by have c:=ξ q.1 1;simp[qD6] at c;clear q;go_simp) g ?_;refine zP 4 w.heap.size 1 g ?_;refine zV 5 (ϊ x) rfl (λW q=>by have c:=ξ q.2.1 1;simp at c;clear q;go_simp) g ?_;refine zP 6 d 0 g ?_;refine zP 7 d 0 g ?_;refine zP 8 d 1 g ?_;refine zV 9 (.slice (some ⟨o,0,none⟩) f.length r) rfl (λW q=>by have c:=ξ q.1 1;simp[qD6] at c;clear q;go_simp) g ?_;refine zU 10 (ϊ f.length) g ?_;refine zq 11 λK hK=>?_;go_simp;refine (zB1 x f.length _ hx.1 hx.2 oM oM).mono ?_;rintro e p ⟨j,rfl,hj,rfl⟩;refine zk hK g ?_
 refine zU 12 (.pointer (some ⟨o,j,none⟩)) g ?_;refine zV 13 (ϖ (I.B f[j])) rfl (λW q=>by have c:=ξ q.2.2 j;rw[zI5 ax j hj] at c;clear q;go_simp) g ?_;refine zU 14 (ϖ (I.B f[j])) g ?_;refine zd ?_;have aj:=HH.out.all f[j] (gM hj);have hB:=I.kob_ aj;have a6:=I.copy aj;generalize a7:I.B f[j]=B at *;generalize a8:I.kf f[j]=kf at *;obtain⟨A,n,z,em,D,wl,bt,x0,c0,bb,bp,bq,bo,br⟩:=kf;obtain⟨C,l,ba,a1,aq,a9,az⟩:=a6;simp only at *;have am:=hid az;clear a7 a8 g ax au az aj;have O:=Q.hp hB;have al:=hid ((aq.kp Q sM sM).kp ((Kp.refl [] _).drew) sM sM);have o0:=ξ aa;have bf:=ζ aa;have bd:=ζ O;have k0:=ξ O;simp only[kob,zG,zH,zI] at k0;clear aq hB;go_wp2_with fail;refine (zH6 a _ ha.1 ha.2).mono ?_;rintro e p ⟨ja,rfl,rfl⟩;go_wp2_with fail;refine (zH6 b _ hb.1 hb.2).mono ?_;rintro e p ⟨jb,rfl,rfl⟩;go_wp2_with fail;refine (jB1 A n C ba l _ al oM a9).mono ?_;rintro e p ⟨rfl,U⟩;have af:=Q.drew.tr U;have P:=U.heap (k:=B) O sM;have aw:=U.heap (k:=d) ah sM;clear O al ah aa o0 k0 Q U;have M:=ξ P 1;simp only[kob,zG,zH,zI] at M;have be:=ζ P;go_wp2_with fail;refine (xH0 n n ⟨(l.take (n*128)).toArray⟩ p ((xL3 n p a1 n oM oM).mono λe w' ⟨v,Z,hZ,a4,F⟩=>⟨v,by rw[F,zV2 Z _ hZ a4]⟩) a1).mono ?_;rintro e m ⟨rfl,l3,_,ay,ao,ae,V⟩;rw[ay (by simp[ByteArray.size];omega)] at ae;clear ay;have Y:=af.tr V;have ap:=V.hp P;have L:=V.hp aw;have a3:=hid af.size;have an:=hid Y.size;clear P aw M V af;go_wp2_with fail;obtain⟨ko,ab⟩:=eX (kob ⟨p.heap.size+1,n,z,em,D,wl,bt,none,.slice none 0 0,0,false,.slice none 0 0,.slice none 0 0,.slice none 0 0⟩);have ad:=qQ1 H1.2.2.2 Y.drew (Apart.nil _ _);obtain⟨v5,w5,a0,ac,ak⟩:=zT0 ((m.drew.alloc ko).alloc (.cells #[ϖ m.heap.size] 119)) base (m.drew.alloc ko).heap.size (.slice (some ⟨o,0,none⟩) f.length r) f.length (qJ7 I f) (ϖ m.heap.size) 68 119 68 (.pointer none) underlying68 qV7 rfl ((ad.alloc _).alloc _) oM (υ _ _) rfl (by have:=an.out;simp;omega);obtain⟨g5,c5,rfl⟩:=qL7 ac;have HZ:=hid (show (m.drew.alloc ko).heap.size=m.heap.size+1 by simp);have ag:Ϙ w5 d (qD6 G nk E (some ⟨o,0,none⟩) f.length r):=by
  have a5:=qJ1 ad;refine Kp.heap (S:=(Value.slice (some ⟨o,0,none⟩) f.length r).ownBlock.toList) ((((Kp.refl _ m.drew).alloc _).alloc _).grown ak (λk hk=>Or.inl (by simp[hk]))) L (λhm=>?_);obtain⟨_,c,hc⟩:=a5 _ hm;rw[show m.drew.heap[d]?=m.heap[d]? from rfl,L] at hc;cases hc
 have HX:=hid (show ∃ H,WOk I base (T+2) (w5.setCell ⟨d,1,none⟩ (.slice (some ⟨g5,0,none⟩) (f.length+1) c5)) d H/\Below base w (w5.setCell ⟨d,1,none⟩ (.slice (some ⟨g5,0,none⟩) (f.length+1) c5)) from by
  obtain⟨v,F,N,J⟩:=H1.out;have bm:=a3.out;have bn:=an.out;have ar:Kp [] w (m.drew.alloc ko):=Y.drew.alloc _;obtain⟨g',q1,q2,q3⟩:=am.out (T+2) _ m.heap.size (p.heap.size+1) p.heap.size oM (by have:=HH.out.t0;omega) ar oM oM oM (by rw[<-ab];exact υ _ _) (ρ _ ao) (ρ _ ae);rw[<-q2] at ac;obtain⟨r1,r2⟩:=HH.out.more v F N J ar g' q1 (λi hi=>by rcases q3 i hi with e|e|e<;>omega) _ ac ak (iR _);exact⟨_,r1,r2⟩)
 have u1:=ξ L 1;simp only[qD6,zG,zH,zI] at u1;have v1:=ξ ag 1;simp only[qD6,zG,zH,zI] at v1;have bc:=ψ ag 1;have bh:=ζ L;have a2:=hid ab;rw[ab,kob] at a0;clear ac ak ag ad L ae ao Y ab am;refine shr (α:=Prop) (R:=λX=>X) ?_;apply Exists.intro;apply And.intro
 rotate_left
 .intro HREST;refine wp_region_any kR ?_;change wpAny _ _ _ _ _ _ _ (World.drew _);refine zu 0 (ϖ d) ?_;refine zu 1 (ϖ d) ?_;refine zu 2 (ϖ d) ?_;refine zu 3 (.pointer (some ⟨d,1,none⟩)) ?_;refine zu 5 (ϖ (p.heap.size+1)) ?_;refine zu 6 (ϖ B) ?_;refine zu 7 (ϖ B) ?_;refine zu 8 (.pointer (some ⟨B,1,none⟩)) ?_;refine wpAny_ready (rs:=[4,9]) kR sM ?_;refine AllReady.cons rfl (λK hK=>?_) (AllReady.cons rfl (λK hK=>?_) AllReady.nil)
  .skip
   go_simp;refine hK _ _ ?_
   try simp only[zZ]
   refine zQ 9 λK hK=>?_;refine qF2 rfl (qO4 (t:=123) rfl kR 6 kR B 1 rfl (show m.drew.heap[B]?=_ from ap) sM (show _=#[ϊ n,z,.bool em,D,.bool wl,.bool bt] from rfl)) ?_;refine hK _ _ ?_
   try simp only[zZ]
   refine zu 10 (.agg #[ϖ (p.heap.size+1),ϊ n,z,.bool em,D,.bool wl,.bool bt,.pointer none,.slice none 0 0,ϊ 0,.bool false,.slice none 0 0,.slice none 0 0,.slice none 0 0]) ?_;refine zQ 11 λK hK=>?_;refine qF2 rfl (zN1 rfl #[ϖ (p.heap.size+1),ϊ n,z,.bool em,D,.bool wl,.bool bt,.pointer none,.slice none 0 0,ϊ 0,.bool false,.slice none 0 0,.slice none 0 0,.slice none 0 0] rfl) ?_;refine hK _ _ ?_
   try simp only[zZ]
   refine zQ 12 λK hK=>?_;refine qF2 rfl (qP5 rfl (ϖ m.heap.size) _ _ _ underlying68 qV7 rfl rfl dC dC) ?_;refine hK _ _ ?_
   try simp only[zZ]
   exact HREST
  .skip
   refine qF2 rfl (qO4 (t:=123) rfl kR 6 kR B 1 rfl (show m.drew.heap[B]?=_ from ap) sM (show _=#[ϊ n,z,.bool em,D,.bool wl,.bool bt] from rfl)) ?_;refine hK _ _ ?_
   try simp only[zZ]
   refine zu 10 (.agg #[ϖ (p.heap.size+1),ϊ n,z,.bool em,D,.bool wl,.bool bt,.pointer none,.slice none 0 0,ϊ 0,.bool false,.slice none 0 0,.slice none 0 0,.slice none 0 0]) ?_;refine wpAny_ready (rs:=[4,11]) kR sM ?_;refine AllReady.cons rfl (λK hK=>?_) (AllReady.cons rfl (λK hK=>?_) AllReady.nil)
   .skip
    go_simp;refine hK _ _ ?_
    try simp only[zZ]
    refine zQ 11 λK hK=>?_;refine qF2 rfl (zN1 rfl #[ϖ (p.heap.size+1),ϊ n,z,.bool em,D,.bool wl,.bool bt,.pointer none,.slice none 0 0,ϊ 0,.bool false,.slice none 0 0,.slice none 0 0,.slice none 0 0] rfl) ?_;refine hK _ _ ?_
    try simp only[zZ]
    refine zQ 12 λK hK=>?_;refine qF2 rfl (qP5 rfl (ϖ m.heap.size) _ _ _ underlying68 qV7 rfl rfl dC dC) ?_;refine hK _ _ ?_
    try simp only[zZ]
    exact HREST
   .skip
    refine qF2 rfl (zN1 rfl #[ϖ (p.heap.size+1),ϊ n,z,.bool em,D,.bool wl,.bool bt,.pointer none,.slice none 0 0,ϊ 0,.bool false,.slice none 0 0,.slice none 0 0,.slice none 0 0] rfl) ?_;refine hK _ _ ?_
    try simp only[zZ]
    refine wpAny_ready (rs:=[4,12]) kR sM ?_;refine AllReady.cons rfl (λK hK=>?_) (AllReady.cons rfl (λK hK=>?_) AllReady.nil)
    .skip
     go_simp;refine hK _ _ ?_
     try simp only[zZ]
     refine zQ 12 λK hK=>?_;refine qF2 rfl (qP5 rfl (ϖ m.heap.size) _ _ _ underlying68 qV7 rfl rfl dC dC) ?_;refine hK _ _ ?_
     try simp only[zZ]
     exact HREST
    .skip
     refine qF2 rfl (qP5 rfl (ϖ m.heap.size) _ _ _ underlying68 qV7 rfl rfl dC dC) ?_;refine hK _ _ ?_
     try simp only[zZ]
     refine zQ 4 λK hK=>?_;go_simp;refine hK _ _ ?_
     try simp only[zZ]
     have hz:=HZ.out;rw[a2.out,kob] at hz;simp only at hz;rw[hz] at HREST;exact HREST
 refine zQ 13 λK hK=>?_;refine qF2 rfl (xC6 rfl rfl rfl a0) ?_;refine hK _ _ ?_
 try simp only[zZ]
 refine zu 14 (ϖ d) ?_;refine zu 15 (.pointer (some ⟨d,1,none⟩)) ?_;refine zQ 16 λK hK=>?_;go_simp;refine hK _ _ ?_;refine wpAny_done kR ?_ _;go_wp2;go_ret;obtain⟨H,r1,r2⟩:=HX.out;exact⟨rfl,⟨H,r1⟩,r2⟩
theorem jZ7(I:DInv)(base g:Nat)(T:Int)(i:List I.G)(k x y a b:Int)(s t)(w)(h:WOk I base T w g i)(o:5<=k)(p:k<=9)
  (H:∀ w,WOk I base T w g i->1<=i.length->Calls prog 124 #[.pointer (some ⟨g,0,none⟩),.agg #[.int .i64 k,.int .i64 x,.int .i64 y,.int .i64 a,.int .i64 b,.string s,.string t]] w λe f=>e=.returned (.bool true)/\(∃ ds',WOk I base (T+2) f g ds')/\Below base w f):
  Calls prog 78 #[.pointer (some ⟨g,0,none⟩),.agg #[.int .i64 k,.int .i64 x,.int .i64 y,.int .i64 a,.int .i64 b,.string s,.string t]] w λe f=>e=.returned (.bool true)/\(∃ ds',WOk I base (T+2) f g ds')/\Below base w f:=by
 have m:Kp [] w (w.alloc (.cells #[ϊ k,ϊ x,ϊ y,ϊ a,ϊ b,.string s,.string t] 66)):=kF.alloc _;have n:=hid (show Ω 124 #[ϖ g,.agg #[ϊ k,ϊ x,ϊ y,ϊ a,ϊ b,.string s,.string t]] (w.alloc (.cells #[ϊ k,ϊ x,ϊ y,ϊ a,ϊ b,.string s,.string t] 66)) λe f=>e=ϱ (.bool true)/\(∃ ds',WOk I base (T+2) f g ds')/\Below base w f from by
  have j:=h.same m (iR _);have l:=m.below h.hbs sM
  cases i with
  | nil=>exact (jY9 I base g T k x y a b s t _ j o p).mono λe f ⟨a,b,c⟩=>⟨a,b,l.trans c⟩
  | cons d i=>exact (H _ j sM).mono λe f ⟨a,b,c⟩=>⟨a,b,l.trans c⟩)
 have r:¬k=1:=oM
 have u:¬k=2:=oM
 have v:¬k=3:=oM
 have z:¬k=4:=oM
 clear h m H o p;go_enter func78,ntmps78;go_wp2_with fail;refine (show Calls _ _ _ _ _ from n).mono ?_;rintro e A ⟨rfl,j,l⟩;have q:=hid (And.intro j l);clear j l n;go_wp2;go_ret;exact⟨rfl,q⟩
end Go.Proofs.YtdohpenfkdckiaaGreatDoor.Gw
