import Derived.Test.YtdohpenfkdckiaaGreatDoorJ27
set_option linter.all false
set_option maxRecDepth 100000
set_option maxHeartbeats 20000000
namespace Go.Proofs.YtdohpenfkdckiaaGreatDoor.Gw
open Go.Proofs.Tryz
open Go.RowKit
structure DOps(I:DInv)(ks:List Int):Prop where
 fmt:∀ (base:Nat) (T:Int) (w:World) (g:I.G),I.ok base T w g→0≤T→T≤40000→0<base→base≤w.heap.size→w.cell? ⟨0,0,none⟩=some qE9→
  Calls prog 80 #[.pointer (some ⟨I.B g,0,none⟩)] w fun e w'=>e=.returned (.bool true)∧DStep I base (T+2) w w' g
 opn:∀ (base:Nat) (T:Int) (w:World) (g:I.G),I.ok base T w g→0≤T→T≤40000→0<base→base≤w.heap.size→w.cell? ⟨0,0,none⟩=some qE9→
  Calls prog 81 #[.pointer (some ⟨I.B g,0,none⟩)] w fun e w'=>e=.returned (.bool true)∧DStep I base (T+2) w w' g
 beg:∀ (base:Nat) (T:Int) (w:World) (g:I.G),I.ok base T w g→0≤T→T≤40000→0<base→base≤w.heap.size→w.cell? ⟨0,0,none⟩=some qE9→(I.kf g).x≠none→∀ wrt:Bool,
  Calls prog 82 #[.pointer (some ⟨I.B g,0,none⟩),.bool wrt] w fun e w'=>e=.returned (.bool true)∧DStep I base (T+2) w w' g
 txn:∀ (base:Nat) (T:Int) (w:World) (g:I.G),I.ok base T w g→0≤T→T≤40000→0<base→base≤w.heap.size→w.cell? ⟨0,0,none⟩=some qE9→(I.kf g).x≠none→∀ (j:Nat) (hj:j<(I.tbs g).length) (o:SOp),13≤o.k→o.k∈ks→SFits o→
  Calls prog 83 #[.pointer (some ⟨I.B g,0,none⟩),.pointer (some ⟨(I.tbs g)[j],0,none⟩),.agg #[.int .i64 o.k,.int .i64 o.x,.int .i64 o.y,.int .i64 o.a,.int .i64 o.b,.string o.s,.string o.t]] w fun e w'=>e=.returned (.bool true)∧DStep I base (T+2) w w' g
 looks:∀ (base:Nat) (T:Int) (w:World) (g:I.G),I.ok base T w g→0≤T→T≤50000→
  Calls prog 84 #[.pointer (some ⟨I.B g,0,none⟩)] w fun e w'=>e=.returned (.bool true)∧Kp [] w w'
def zJ5(I:DInv)(base Wb:Nat)(T:Int)(w w':World):Prop:=(∃ ds',WOk I base (T+2) w' Wb ds')∧Below base w w'
theorem WOk.done{I:DInv}{base c:Nat}{T:Int}{w w1 w2}{a:List I.G}(h:WOk I base T w c a)(hK:Kp [] w w1)(j:Nat)(d:j<a.length)(e:DStep I base (T+2) w1 w2 a[j]):zJ5 I base c T w w2:=by
 have b:=h.same hK (iR _);exact⟨b.one j d e oM,(hK.below h.hbs sM).trans (e.below (b.all _ (gM d)) b.hbs)⟩
theorem WOk.idle{I:DInv}{base a:Nat}{T:Int}{w w1}{b:List I.G}(h:WOk I base T w a b)(hK:Kp [] w w1):zJ5 I base a T w w1:=
 ⟨⟨b,h.same hK oM⟩,hK.below h.hbs sM⟩
theorem kN8(I:DInv)(ks:List Int)(O:DOps I ks)(base l:Nat)(T:Int)(f:List I.G)(k x y a b:Int)(s t)(w)(h:WOk I base T w l f)(X:0<=T)(U:T<=40000)(E:SFits ⟨k,x,y,a,b,s,t⟩)(ap:k∈ks)(bl:10<=k)(bm:k<=20)(hd:f.length≠0):
  Calls prog 40 #[.pointer (some ⟨l,0,none⟩),.agg #[.int .i64 k,.int .i64 x,.int .i64 y,.int .i64 a,.int .i64 b,.string s,.string t]] w λe w'=>e=.returned (.bool true)/\zJ5 I base l T w w':=by
 have bj:=h.hbs;have ak:Kp [] w (w.alloc (.cells #[ϊ k,ϊ x,ϊ y,ϊ a,ϊ b,.string s,.string t] 66)):=kF.alloc _;have a2:=zh ak;have n:=zh h;have HF:=zh (n2 E ap);have ar:=E.x.1;have au:=E.x.2;have av:=E.y.1;have aw:=E.y.2;simp only at ar au av aw;clear h ak E ap;have bi:¬20<k:=oM
 have bh:¬k<10:=oM
 go_enter func40,ntmps40;go_wp2_with fail;refine (xL2 l k x y a b s t _ oM).mono ?_;rintro e w1 ⟨rfl,ab⟩;have ag:=zh (a2.tr ab);have J:=zh (n.same ag (iR _));have o:=ab.heap (υ w (.cells #[ϊ k,ϊ x,ϊ y,ϊ a,ϊ b,.string s,.string t] 66)) sM;obtain⟨pk,nk,ck,xs,pd,P,Y,h2,h3,h4⟩:=J.out.hW;obtain⟨v,cur,rfl,bk,ac,ao⟩:=xL0 h4 oM;have ba:=ζ Y;have R:=ζ o;have bb:=ζ ac;have hl:=J.out.len;have bn:¬((f.length:Int)=0):=oM
 have k1:=ξ Y 1;simp only[qF6,zG,zH,zI] at k1;have Z:=ϻ o 0;clear h2 h3 h4 ab;go_wp2_with fail
 .rename_i D;exfalso;simp at D;rcases D with (D|D)|D
  .exact hd (by simp[D])
  .omega
  .omega
 have d:Ϙ w1.drew l (qF6 pk nk ck (some ⟨v,0,none⟩) f.length P)/\Ϙ w1.drew w.heap.size (.cells #[ϊ k,ϊ x,ϊ y,ϊ a,ϊ b,.string s,.string t] 66)/\Ϙ w1.drew v (.cells cur 119):=⟨Y,o,ac⟩;refine wp_region_held_drew (S:=λW=>Ϙ W l (qF6 pk nk ck (some ⟨v,0,none⟩) f.length P)/\Ϙ W w.heap.size (.cells #[ϊ k,ϊ x,ϊ y,ϊ a,ϊ b,.string s,.string t] 66)/\Ϙ W v (.cells cur 119)) kR d (λ_=>?_);refine zP 0 l 0 d ?_;refine zP 1 l 0 d ?_;refine zP 2 l 1 d ?_;refine zV 3 (.slice (some ⟨v,0,none⟩) f.length P) rfl (λW g=>by have c:=ξ g.1 1;simp[qF6] at c;clear g;go_simp) d ?_;refine zP 4 w.heap.size 1 d ?_;refine zV 5 (ϊ x) rfl (λW g=>by have c:=ξ g.2.1 1;simp at c;clear g;go_simp) d ?_;refine zP 6 l 0 d ?_;refine zP 7 l 0 d ?_;refine zP 8 l 1 d ?_;refine zV 9 (.slice (some ⟨v,0,none⟩) f.length P) rfl (λW g=>by have c:=ξ g.1 1;simp[qF6] at c;clear g;go_simp) d ?_;refine zU 10 (ϊ f.length) d ?_;refine zq 11 λK hK=>?_;go_simp;refine (qW4 x f.length _ ar au oM oM).mono ?_;rintro e H ⟨j,rfl,F,rfl⟩;refine zk hK d ?_
 refine zU 12 (.pointer (some ⟨v,j,none⟩)) d ?_;refine zV 13 (ϖ (I.B f[j])) rfl (λW g=>by have c:=ξ g.2.2 j;rw[xM0 ao j F] at c;clear g;go_simp) d ?_;refine zU 14 (ϖ (I.B f[j])) d ?_;refine zd ?_;have B:=zh o;have A:=zh ag.drew;have r:=zh ((J.same (Kp.refl [] _).drew (iR _)).all _ (gM F));have M:=zh ((J.same (Kp.refl [] _).drew (iR _)).g0);have L:=zh J.hbs;clear d ao ac Y o k1 bb ba Z R;have R:=ζ B.out;have o:=B.out;have Z:=ϻ o 0;clear o;by_cases a6:k=10
 .subst a6;go_wp2_with fail;refine (O.fmt base T w1.drew _ r X U n.hb L M).mono ?_;rintro e H ⟨rfl,p⟩;have u:=zh (n.done A j F p);clear p;go_wp2;go_ret;exact⟨rfl,u⟩
 by_cases a7:k=11
 .subst a7;go_wp2_with fail;refine (O.opn base T w1.drew _ r X U n.hb L M).mono ?_;rintro e H ⟨rfl,p⟩;have u:=zh (n.done A j F p);clear p;go_wp2;go_ret;exact⟨rfl,u⟩
 have q:=I.kob_ r.out;have a9:=ζ q;have N:=ξ q 7;have C:=ξ q 11;simp only[kob,zG,zH,zI] at N C
 cases hxx:(I.kf f[j]).x with
 | none=>
  rw[hxx] at N;clear hxx q C;go_wp2;go_ret;exact⟨rfl,n.idle A⟩
 | some xa=>
  rw[hxx] at N;have aj:Hid ((I.kf f[j]).x≠none):=by intro h;rw[h] at hxx;cases hxx
  by_cases a8:k=12
  .subst a8;have o:=B.out;have o3:=ϻ o 3;clear o hxx q;go_wp2_with fail;refine (O.beg base T w1.drew _ r X U n.hb L M aj _).mono ?_;rintro e H ⟨rfl,p⟩;have u:=zh (n.done A j F p);clear p;go_wp2;go_ret;exact⟨rfl,u⟩
  obtain⟨pt,Q,af,aq⟩:=I.row r.out;have be:=I.tlen r.out;rw[af] at C;by_cases hz:(I.tbs f[j]).length=0
  .rw[hz] at C;clear hxx q aq;go_wp2;go_ret;exact⟨rfl,n.idle A⟩
  obtain⟨z,aa,rfl,ad,an⟩:=aq oM;have bf:¬(((I.tbs f[j]).length:Int)=0):=oM
  obtain⟨m,hm⟩:=eY ((I.tbs f[j]).length);rw[hm] at C bf be hz;have bc:=ζ ad;have ax:=zh q;have a5:Hid ((I.kf f[j]).ts=.slice (some ⟨z,0,none⟩) m Q):=by rw[<-hm];exact af
  have a4:=zh ad;have az:Hid (∀ i (h:i<m),aa[i]?=some (ϖ ((I.tbs f[j])[i]'oM))):=λi h=>an i oM;have bg:=B;clear hxx q ad an af;go_wp2_with fail;have ae:∀ V:World,V.heap[I.B f[j]]?=some (kob (I.kf f[j]))->V.cell? ⟨I.B f[j],11,none⟩=some (.slice (some ⟨z,0,none⟩) m Q):=λV hV=>by
   have c:=ξ hV 11;simp only[kob,zG,zH,zI] at c;rw[c,a5.out]
  have d:w1.drew.drew.heap[I.B f[j]]?=some (kob (I.kf f[j]))/\Ϙ w1.drew.drew w.heap.size (.cells #[ϊ k,ϊ x,ϊ y,ϊ a,ϊ b,.string s,.string t] 66)/\Ϙ w1.drew.drew z (.cells aa 132):=⟨ax,B,a4⟩;refine wp_region_held_drew (S:=λW=>W.heap[I.B f[j]]?=some (kob (I.kf f[j]))/\Ϙ W w.heap.size (.cells #[ϊ k,ϊ x,ϊ y,ϊ a,ϊ b,.string s,.string t] 66)/\Ϙ W z (.cells aa 132)) kR d (λ_=>?_);refine zU 0 (ϖ (I.B f[j])) d ?_;refine zU 1 (ϖ (I.B f[j])) d ?_;refine zU 2 (.pointer (some ⟨I.B f[j],11,none⟩)) d ?_;refine zV 3 (.slice (some ⟨z,0,none⟩) m Q) rfl (λW g=>by have c:=ae _ g.1;clear g;go_simp) d ?_;refine zP 4 w.heap.size 2 d ?_;refine zV 5 (ϊ y) rfl (λW g=>by have c:=ξ g.2.1 2;simp at c;clear g;go_simp) d ?_;refine zU 6 (ϖ (I.B f[j])) d ?_;refine zU 7 (ϖ (I.B f[j])) d ?_;refine zU 8 (.pointer (some ⟨I.B f[j],11,none⟩)) d ?_;refine zV 9 (.slice (some ⟨z,0,none⟩) m Q) rfl (λW g=>by have c:=ae _ g.1;clear g;go_simp) d ?_;refine zU 10 (ϊ m) d ?_;refine zq 11 λK hK=>?_;go_simp;refine (qW4 y m _ av aw oM oM).mono ?_;rintro e H ⟨G,rfl,bd,rfl⟩;refine zk hK d ?_
  refine zU 12 (.pointer (some ⟨z,G,none⟩)) d ?_;refine zV 13 (ϖ ((I.tbs f[j])[G]'oM)) rfl (λW g=>by have c:=ξ g.2.2 G;rw[az.out G bd] at c;clear g;go_simp) d ?_;refine zU 14 (ϖ ((I.tbs f[j])[G]'oM)) d ?_;refine zd ?_;have a3:=zh A.drew;have a1:=zh (I.keep r (Kp.refl [] _).drew (Muts.nil _ _ _) sM (iR _));have a0:=zh M.out;have ai:=zh B.out;have ay:=zh L.out;clear d Z N C ae bc a9 R;have R:=ζ ai.out;have am:=ai.out;have Z:=ξ am;clear am;go_wp2_with fail;refine (O.txn base T w1.drew.drew _ a1 X U n.hb ay a0 aj G oM ⟨k,x,y,a,b,s,t⟩ (by show 13<=k;omega) HF.2 HF.1).mono ?_;rintro e H ⟨rfl,p⟩;have HS:=zh p;obtain⟨g',L',q1,q2,_⟩:=p;have ah:=O.looks base (T+2) H g' q1 oM oM;rw[q2] at ah;clear q1 q2;go_wp2_with fail;refine ah.mono ?_;rintro e w3 ⟨rfl,al⟩;have u:=zh (n.done a3 j F (HS.after al));clear al;go_wp2;go_ret;exact⟨rfl,u⟩
theorem kG1(I:DInv)(base c:Nat)(T:Int)(x y a b:Int)(s t)(w)(h:WOk I base T w c []):
  Calls prog 124 #[.pointer (some ⟨c,0,none⟩),.agg #[.int .i64 5,.int .i64 x,.int .i64 y,.int .i64 a,.int .i64 b,.string s,.string t]] w λe i=>e=.returned (.bool true)/\(∃ ds',WOk I base (T+2) i c ds')/\Below base w i:=by
 have g:=h;obtain⟨r,nk,o,xs,q,n,d,j,k,l⟩:=h.hW;have f:=hid g;have p:=ζ d;have m:=ξ d 1;simp only[qF6,List.length_nil,zG,zH,zI] at m;clear h g d j k l;go_enter func124,ntmps124;go_wp2;go_ret;have hK:Kp [] w (w.alloc (.cells #[ϊ 5,ϊ x,ϊ y,ϊ a,ϊ b,.string s,.string t] 66)):=kF.alloc _;exact⟨rfl,⟨[],f.same hK oM⟩,hK.below f.hbs sM⟩
theorem kF8(I:DInv)(base d:Nat)(T:Int)(f:List I.G)(x y a b:Int)(s t)(w)(h:WOk I base T w d f)(hT:T<=50000)(hx:I64 x)(ha:I64 a)(hb:I64 b)(hd:1<=f.length):
  Calls prog 124 #[.pointer (some ⟨d,0,none⟩),.agg #[.int .i64 5,.int .i64 x,.int .i64 y,.int .i64 a,.int .i64 b,.string s,.string t]] w λe w'=>e=.returned (.bool true)/\(∃ L,WOk I base (T+2) w' d L)/\Below base w w':=by
 have h':=h;obtain⟨J,nk,H,xs,pd,u,G,Q,U,M⟩:=h.hW;obtain⟨o,cur,rfl,bj,aj,az⟩:=xL0 M hd;have HH:=hid h';have bg:=ζ G;have bk:=ζ aj;have hl:=h.len;have bi:=h.hbs;have bl:¬((f.length:Int)=0):=oM
 have H1:=hid (show Ϙ w d (qF6 J nk H (some ⟨o,0,none⟩) f.length u)/\w.ownsRow base 3 1 (.slice J nk H) nk xs/\(nk:Int)<=T/\w.ownsRow base 119 1 (.slice (some ⟨o,0,none⟩) f.length u) f.length (qK5 I f) from⟨G,Q,U,M⟩);have P:=ξ G 1;simp only[qF6,zG,zH,zI] at P;clear h h' Q U M;go_enter func124,ntmps124;go_wp2_with fail;obtain⟨r,ax,ac,ai,aw,N⟩:∃ r,r=w.alloc (.cells #[ϊ 5,ϊ x,ϊ y,ϊ a,ϊ b,.string s,.string t] 66)/\Ϙ r w.heap.size (.cells #[ϊ 5,ϊ x,ϊ y,ϊ a,ϊ b,.string s,.string t] 66)/\Ϙ r d (qF6 J nk H (some ⟨o,0,none⟩) f.length u)/\Ϙ r o (.cells cur 119)/\Kp [] w r:=⟨_,rfl,υ _ _,ν _ G,ν _ aj,kF.alloc _⟩;rw[<-ax];clear ax G aj P;have g:Ϙ r.drew d (qF6 J nk H (some ⟨o,0,none⟩) f.length u)/\Ϙ r.drew w.heap.size (.cells #[ϊ 5,ϊ x,ϊ y,ϊ a,ϊ b,.string s,.string t] 66)/\Ϙ r.drew o (.cells cur 119):=⟨ai,ac,aw⟩;refine wp_region_held_drew (S:=λW=>Ϙ W d (qF6 J nk H (some ⟨o,0,none⟩) f.length u)/\Ϙ W w.heap.size (.cells #[ϊ 5,ϊ x,ϊ y,ϊ a,ϊ b,.string s,.string t] 66)/\Ϙ W o (.cells cur 119)) kR g (λ_=>?_);refine zP 0 d 0 g ?_;refine zP 1 d 0 g ?_;refine zP 2 d 1 g ?_;refine zV 3 (.slice (some ⟨o,0,none⟩) f.length u) rfl (λW q=>by have c:=ξ q.1 1;simp[qF6] at c;clear q;go_simp) g ?_;refine zP 4 w.heap.size 1 g ?_;refine zV 5 (ϊ x) rfl (λW q=>by have c:=ξ q.2.1 1;simp at c;clear q;go_simp) g ?_;refine zP 6 d 0 g ?_;refine zP 7 d 0 g ?_;refine zP 8 d 1 g ?_;refine zV 9 (.slice (some ⟨o,0,none⟩) f.length u) rfl (λW q=>by have c:=ξ q.1 1;simp[qF6] at c;clear q;go_simp) g ?_;refine zU 10 (ϊ f.length) g ?_;refine zq 11 λK hK=>?_;go_simp;refine (qW4 x f.length _ hx.1 hx.2 oM oM).mono ?_;rintro e p ⟨j,rfl,hj,rfl⟩;refine zk hK g ?_
 refine zU 12 (.pointer (some ⟨o,j,none⟩)) g ?_;refine zV 13 (ϖ (I.B f[j])) rfl (λW q=>by have c:=ξ q.2.2 j;rw[xM0 az j hj] at c;clear q;go_simp) g ?_;refine zU 14 (ϖ (I.B f[j])) g ?_;refine zd ?_;have ak:=HH.out.all f[j] (gM hj);have hB:=I.kob_ ak;have a7:=I.copy ak;generalize a8:I.B f[j]=B at *;generalize a9:I.kf f[j]=kf at *;obtain⟨A,n,D,z,E,F,v,x0,c0,bb,bp,bq,bo,br⟩:=kf;obtain⟨C,l,a5,wr,ba,hA,hC,a2,a0⟩:=a7;simp only at *;have am:=hid a0;clear a8 a9 g az aw a0 ak;have V:=N.hp hB;have ao:=N.hp hA;have ar:=N.hp hC;have o0:=ξ ac;have bf:=ζ ac;have bd:=ζ V;have k0:=ξ V;simp only[kob,zG,zH,zI] at k0;clear hA hB hC;go_wp2_with fail;refine (xJ2 a _ ha.1 ha.2).mono ?_;rintro e p ⟨ja,rfl,rfl⟩;go_wp2_with fail;refine (xJ2 b _ hb.1 hb.2).mono ?_;rintro e p ⟨jb,rfl,rfl⟩;go_wp2_with fail;refine (xZ1 A n C a5 wr l _ (show r.drew.heap[A]?=_ from ao) oM ar a2).mono ?_;rintro e p ⟨rfl,Z⟩;have ag:=N.drew.tr Z;have Y:=Z.heap (k:=B) V sM;have ay:=Z.heap (k:=d) ai sM;clear V ao ar ai ac o0 k0 N Z;have P:=ξ Y 1;simp only[kob,zG,zH,zI] at P;have be:=ζ Y;go_wp2_with fail;refine (jW2 n l p ba a2).mono ?_;rintro e m ⟨rfl,au,ap,aa⟩;have ab:=ag.tr aa;have aq:=aa.hp Y;have O:=aa.hp ay;have a4:=hid ag.size;have an:=hid ab.size;clear Y ay P aa ag;go_wp2_with fail;obtain⟨ko,ad⟩:=eX (kob ⟨p.heap.size+1,n,D,z,E,F,v,none,.slice none 0 0,0,false,.slice none 0 0,.slice none 0 0,.slice none 0 0⟩);have af:=qM7 H1.2.2.2 ab.drew (Apart.nil _ _);obtain⟨v5,w5,a1,ae,al⟩:=zS3 ((m.drew.alloc ko).alloc (.cells #[ϖ m.heap.size] 119)) base (m.drew.alloc ko).heap.size (.slice (some ⟨o,0,none⟩) f.length u) f.length (qK5 I f) (ϖ m.heap.size) 68 119 68 (.pointer none) underlying68 qV4 rfl ((af.alloc _).alloc _) oM (υ _ _) rfl (by have:=an.out;simp;omega);obtain⟨g5,c5,rfl⟩:=qO0 ae;have HZ:=hid (show (m.drew.alloc ko).heap.size=m.heap.size+1 by simp);have ah:Ϙ w5 d (qF6 J nk H (some ⟨o,0,none⟩) f.length u):=by
  have a6:=qH2 af;refine Kp.heap (S:=(Value.slice (some ⟨o,0,none⟩) f.length u).ownBlock.toList) ((((Kp.refl _ m.drew).alloc _).alloc _).grown al (λk hk=>Or.inl (by simp[hk]))) O (λhm=>?_);obtain⟨_,c,hc⟩:=a6 _ hm;rw[show m.drew.heap[d]?=m.heap[d]? from rfl,O] at hc;cases hc
 have HX:=hid (show ∃ L,WOk I base (T+2) (w5.setCell ⟨d,1,none⟩ (.slice (some ⟨g5,0,none⟩) (f.length+1) c5)) d L/\Below base w (w5.setCell ⟨d,1,none⟩ (.slice (some ⟨g5,0,none⟩) (f.length+1) c5)) from by
  obtain⟨G,Q,U,M⟩:=H1.out;have bm:=a4.out;have bn:=an.out;have av:Kp [] w (m.drew.alloc ko):=ab.drew.alloc _;obtain⟨g',q1,q2,q3⟩:=am.out (T+2) _ m.heap.size (p.heap.size+1) p.heap.size oM oM av oM oM oM (by rw[<-ad];exact υ _ _) (ν _ ap) (ν _ au);rw[<-q2] at ae;obtain⟨r1,r2⟩:=HH.out.more G Q U M av g' q1 (λi hi=>by rcases q3 i hi with e|e|e<;>omega) _ ae al (iR _);exact⟨_,r1,r2⟩)
 have u1:=ξ O 1;simp only[qF6,zG,zH,zI] at u1;have v1:=ξ ah 1;simp only[qF6,zG,zH,zI] at v1;have bc:=φ ah 1;have bh:=ζ O;have a3:=hid ad;rw[ad,kob] at a1;clear ae al ah af O au ap ab ad am;refine shr (α:=Prop) (R:=λX=>X) ?_;apply Exists.intro;apply And.intro
 rotate_left
 .intro HREST;refine wp_region_any kR ?_;change wpAny _ _ _ _ _ _ _ (World.drew _);refine zu 0 (ϖ d) ?_;refine zu 1 (ϖ d) ?_;refine zu 2 (ϖ d) ?_;refine zu 3 (.pointer (some ⟨d,1,none⟩)) ?_;refine zu 5 (ϖ (p.heap.size+1)) ?_;refine zu 6 (ϖ B) ?_;refine zu 7 (ϖ B) ?_;refine zu 8 (.pointer (some ⟨B,1,none⟩)) ?_;refine wpAny_ready (rs:=[4,9]) kR sM ?_;refine AllReady.cons rfl (λK hK=>?_) (AllReady.cons rfl (λK hK=>?_) AllReady.nil)
  .skip
   go_simp;refine hK _ _ ?_
   try simp only[zZ]
   refine zQ 9 λK hK=>?_;refine qF3 rfl (qO3 (t:=123) rfl kR 6 kR B 1 rfl (show m.drew.heap[B]?=_ from aq) sM (show _=#[ϊ n,D,.bool z,E,.bool F,.bool v] from rfl)) ?_;refine hK _ _ ?_
   try simp only[zZ]
   refine zu 10 (.agg #[ϖ (p.heap.size+1),ϊ n,D,.bool z,E,.bool F,.bool v,.pointer none,.slice none 0 0,ϊ 0,.bool false,.slice none 0 0,.slice none 0 0,.slice none 0 0]) ?_;refine zQ 11 λK hK=>?_;refine qF3 rfl (zL8 rfl #[ϖ (p.heap.size+1),ϊ n,D,.bool z,E,.bool F,.bool v,.pointer none,.slice none 0 0,ϊ 0,.bool false,.slice none 0 0,.slice none 0 0,.slice none 0 0] rfl) ?_;refine hK _ _ ?_
   try simp only[zZ]
   refine zQ 12 λK hK=>?_;refine qF3 rfl (qP2 rfl (ϖ m.heap.size) _ _ _ underlying68 qV4 rfl rfl dC dC) ?_;refine hK _ _ ?_
   try simp only[zZ]
   exact HREST
  .skip
   refine qF3 rfl (qO3 (t:=123) rfl kR 6 kR B 1 rfl (show m.drew.heap[B]?=_ from aq) sM (show _=#[ϊ n,D,.bool z,E,.bool F,.bool v] from rfl)) ?_;refine hK _ _ ?_
   try simp only[zZ]
   refine zu 10 (.agg #[ϖ (p.heap.size+1),ϊ n,D,.bool z,E,.bool F,.bool v,.pointer none,.slice none 0 0,ϊ 0,.bool false,.slice none 0 0,.slice none 0 0,.slice none 0 0]) ?_;refine wpAny_ready (rs:=[4,11]) kR sM ?_;refine AllReady.cons rfl (λK hK=>?_) (AllReady.cons rfl (λK hK=>?_) AllReady.nil)
   .skip
    go_simp;refine hK _ _ ?_
    try simp only[zZ]
    refine zQ 11 λK hK=>?_;refine qF3 rfl (zL8 rfl #[ϖ (p.heap.size+1),ϊ n,D,.bool z,E,.bool F,.bool v,.pointer none,.slice none 0 0,ϊ 0,.bool false,.slice none 0 0,.slice none 0 0,.slice none 0 0] rfl) ?_;refine hK _ _ ?_
    try simp only[zZ]
    refine zQ 12 λK hK=>?_;refine qF3 rfl (qP2 rfl (ϖ m.heap.size) _ _ _ underlying68 qV4 rfl rfl dC dC) ?_;refine hK _ _ ?_
    try simp only[zZ]
    exact HREST
   .skip
    refine qF3 rfl (zL8 rfl #[ϖ (p.heap.size+1),ϊ n,D,.bool z,E,.bool F,.bool v,.pointer none,.slice none 0 0,ϊ 0,.bool false,.slice none 0 0,.slice none 0 0,.slice none 0 0] rfl) ?_;refine hK _ _ ?_
    try simp only[zZ]
    refine wpAny_ready (rs:=[4,12]) kR sM ?_;refine AllReady.cons rfl (λK hK=>?_) (AllReady.cons rfl (λK hK=>?_) AllReady.nil)
    .skip
     go_simp;refine hK _ _ ?_
     try simp only[zZ]
     refine zQ 12 λK hK=>?_;refine qF3 rfl (qP2 rfl (ϖ m.heap.size) _ _ _ underlying68 qV4 rfl rfl dC dC) ?_;refine hK _ _ ?_
     try simp only[zZ]
     exact HREST
    .skip
     refine qF3 rfl (qP2 rfl (ϖ m.heap.size) _ _ _ underlying68 qV4 rfl rfl dC dC) ?_;refine hK _ _ ?_
     try simp only[zZ]
     refine zQ 4 λK hK=>?_;go_simp;refine hK _ _ ?_
     try simp only[zZ]
     have hz:=HZ.out;rw[a3.out,kob] at hz;simp only at hz;rw[hz] at HREST;exact HREST
 refine zQ 13 λK hK=>?_;refine qF3 rfl (xA9 rfl rfl rfl a1) ?_;refine hK _ _ ?_
 try simp only[zZ]
 refine zu 14 (ϖ d) ?_;refine zu 15 (.pointer (some ⟨d,1,none⟩)) ?_;refine zQ 16 λK hK=>?_;go_simp;refine hK _ _ ?_;refine wpAny_done kR ?_ _;go_wp2;go_ret;obtain⟨L,r1,r2⟩:=HX.out;exact⟨rfl,⟨L,r1⟩,r2⟩
theorem kG5(I:DInv)(base f:Nat)(T:Int)(k:List I.G)(x y a b:Int)(s t)(w)(h:WOk I base T w f k)(o:T<=50000)(r:I64 x)(p:I64 a)(q:I64 b):
  Calls prog 78 #[.pointer (some ⟨f,0,none⟩),.agg #[.int .i64 5,.int .i64 x,.int .i64 y,.int .i64 a,.int .i64 b,.string s,.string t]] w λe g=>e=.returned (.bool true)/\(∃ ds',WOk I base (T+2) g f ds')/\Below base w g:=by
 have l:Kp [] w (w.alloc (.cells #[ϊ 5,ϊ x,ϊ y,ϊ a,ϊ b,.string s,.string t] 66)):=kF.alloc _;have m:=hid (show Ω 124 #[ϖ f,.agg #[ϊ 5,ϊ x,ϊ y,ϊ a,ϊ b,.string s,.string t]] (w.alloc (.cells #[ϊ 5,ϊ x,ϊ y,ϊ a,ϊ b,.string s,.string t] 66)) λe g=>e=ϱ (.bool true)/\(∃ ds',WOk I base (T+2) g f ds')/\Below base w g from by
  have i:=h.same l (iR _);have j:=l.below h.hbs sM
  cases k with
  | nil=>exact (kG1 I base f T x y a b s t _ i).mono λe g ⟨a,b,c⟩=>⟨a,b,j.trans c⟩
  | cons d k=>exact (kF8 I base f T (d::k) x y a b s t _ i o r p q sM).mono λe g ⟨a,b,c⟩=>⟨a,b,j.trans c⟩)
 clear h l;go_enter func78,ntmps78;go_wp2_with fail;refine (show Calls _ _ _ _ _ from m).mono ?_;rintro e w1 ⟨rfl,i,j⟩;have n:=hid (And.intro i j);clear i j m;go_wp2;go_ret;exact⟨rfl,n⟩
end Go.Proofs.YtdohpenfkdckiaaGreatDoor.Gw
