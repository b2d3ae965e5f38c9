import Derived.Test.YtdohpenfkdckiaaGreatDoorJ07
set_option linter.all false
set_option maxRecDepth 100000
set_option maxHeartbeats 20000000
namespace Go.Proofs.YtdohpenfkdckiaaGreatDoor
open Go.Proofs.Tryz
open Go.RowKit
theorem Env.To.store{E:Env}{w W a:World}{k:Nat}{c:Array Value}{t:TypeId}{d:Nat × Nat}(e:E.To w W)(j:w.heap.size<=k)(f:W.heap[k]?=some (.cells c t d))(h:t∈zH2)(hK:Kp [k] W a):E.To w a:=
 ⟨E.keep W a [k] e.dev hK (λi b=>by rw[mS b];exact⟨c,t,d,f,h⟩),e.kp.trans hK (λi b g=>by rw[mS b] at g;omega)⟩
theorem zD6{W}{k:Nat}{fr}(a:W.heap[k]?=some (.cells qK3 87 fr)):zK5 W [k]:=λi b c t d e=>by
 rw[mS b,a] at e;cases e;exact .inr ⟨rfl,rfl⟩
theorem qS1{O:qE8}{n:Nat}{w:World}{a:List HL}{ls:List (Lnk (Tn n))}{cur:Array Value}{b i:Nat}{l:Lnk (Tn n)}(d:Both (RL O n w) a ls)(g:∀ i (h:i<a.length),cur[b+i*4]?=some (.string a[i].key)/\cur[b+i*4+1]?=some (.int .i64 a[i].b)/\cur[b+i*4+2]?=some (.int .u64 a[i].s)/\cur[b+i*4+3]?=some (.pointer a[i].ptr))(h:ls[i]?=some l):
  ∃ x:HL,i<a.length/\RL O n w x l/\cur[b+i*4]?=some (.string x.key)/\cur[b+i*4+1]?=some (.int .i64 x.b)/\cur[b+i*4+2]?=some (.int .u64 x.s)/\cur[b+i*4+3]?=some (.pointer x.ptr):=by
 obtain⟨e,j⟩:=gS h;have c:i<a.length:=by rw[d.1];exact e
 have f:=d.2 i c e;rw[j] at f;exact⟨a[i],c,f,g i c⟩
theorem qU0{W}{k:Nat}{a b c d}(v0 v1 v2 v3)(h:W.heap[k]?=some (.cells #[a,b,c,d] 87)):
  ((((W.setCell ⟨k,0,none⟩ v0).setCell ⟨k,1,none⟩ v1).setCell ⟨k,2,none⟩ v2).setCell ⟨k,3,none⟩ v3).heap[k]?=some (.cells #[v0,v1,v2,v3] 87)/\Kp [k] W ((((W.setCell ⟨k,0,none⟩ v0).setCell ⟨k,1,none⟩ v1).setCell ⟨k,2,none⟩ v2).setCell ⟨k,3,none⟩ v3):=
 ⟨μ (μ (μ (μ h 0 _) 1 _) 2 _) 3 _,((((Kp.refl _ W).sc _).sc _).sc _).sc _⟩
theorem jU5(E:Env)(J:Int)(cy:(0:Int)<J)(r:HL)(v:Value)(ls:List (Lnk (Tn 0)))(i j k:Nat)(c a b:Lnk (Tn 0))(w:World)(hd:E.Dev w)(X:RLs E.O 0 w v ls)(hi:ls[i]?=some c)(bs:ls.length<=10000)(bv:c.ref=none)(hc:cnt 0 c.sub<3)(h2:2<=ls.length)(be:ls[j]?=some a)(bg:ls[k]?=some b)(bf:k=j+1)(hj:j=min i (ls.length-2))(hJ:(∀ x∈prs a.sub++prs b.sub,θ x<=21)/\meas θ (prs a.sub++prs b.sub)<=210):
  Calls prog 164 #[τ E.V r,v,.int .i64 J,.int .i64 i] w λe w'=>∃ v',e=.returned v'/\RLs E.O 0 w' v' (qC6 0 ls i)/\E.To w w':=by
 have D:qC6 0 ls i=ls.take j++qF8 0 a.key a.sub b.sub++ls.drop (j+2):=by
  unfold qC6;rw[hi];simp only[show ¬3<=cnt 0 c.sub from by omega,if_false,<-hj];rw[<-bf,be,bg]
 obtain⟨F,bl,I⟩:=X;have db:=zh I.1;have cu:F.length<=10000:=by rw[I.1];exact bs
 obtain⟨H,f,cp,cur,fr,rfl,dd,ax,aw⟩:=bl.link (by rw[I.1];omega);obtain⟨z,df,b0,c0,c1,c2,c3⟩:=qS1 I aw hi;obtain⟨x,dg,b1,d0,d1,d2,d3⟩:=qS1 I aw be;obtain⟨y,dh,b2,e0,e1,e2,e3⟩:=qS1 I aw bg;rcases b0.new with⟨_,q,bx,bz⟩|⟨hx,_⟩
 .have bw:z.ptr=some ⟨q,0,none⟩:=by simp[HL.ptr,bx]
  rw[bw] at c3;have HM:=zh D;have o:=zh hd;have HB:=zh I;have az:=zh b1;have a4:=zh b2;have cg:=zh bl;have HQ:=zh bz;have br:=ζ ax;have N:=ξ ax (f+i*4+3);rw[c3] at N;have dc:¬(3:Int)<=((cnt 0 c.sub:Nat):Int):=oM
  have ct:cnt 0 c.sub<=1000000:=oM
  have cd:Hid (j=min i (F.length-2)):=by show _=_;rw[I.1];exact hj
  have di:2<=F.length:=by rw[I.1];exact h2
  have HJ:=zh hJ;have de:=br;have ad:Hid (((0:Nat):Int)<J):=by show _<_;omega
  clear cy hJ I bl b0 bz aw hd D hj b1 b2 hi be bg bx bw c0 c1 c2 bv h2 hc bs;rw[τ];go_enter func164,ntmps164;go_wp2_with fail;obtain⟨w0,b5,bm,a5⟩:=alA w (.cells (ϟ E.V r) 89);rw[<-b5];clear b5;refine (qU2 E.O 0 q c.sub w0 (RN.keep a5 (Apt.nil _ _) 0 q _ HQ) ct).mono ?_;rintro e Y ⟨rfl,a6⟩;have a7:=a5.tr a6;have ai:=a6.hp bm;have ay:=a7.hp ax;have bo:=Env.To.of0 o a7;clear a6 a5 bm N ax br;have cz:(if (F.length:Int)-2<(i:Int) then (F.length:Int)-2 else (i:Int))=(j:Int):=by have:=cd.out;split<;>omega
  go_wp2_with fail;clear cz;have dl:IntKind.i64.wrap ((j:Int)+1)=(k:Int):=by rw[wK];omega
  have HK:=zh bf;clear bf c3;have l:=n2 ay ai;refine wp_region_held_drew (S:=λW=>Ϙ W H (.cells cur 87 fr)/\Ϙ W w.heap.size (.cells (ϟ E.V r) 89)) kR l (λ_=>?_);refine zU 0 (.slice (some ⟨H,f,none⟩) F.length cp) l ?_;refine zU 1 (ϊ j) l ?_;refine zU 2 (.pointer (some ⟨H,f+j*4,none⟩)) l ?_;refine zV 3 (.agg (ϡ x)) rfl (λW d=>by have a0:=ξ d.1 (f+j*4);have a1:=ξ d.1 (f+j*4+1);have a2:=ξ d.1 (f+j*4+2);have N:=ξ d.1 (f+j*4+3);rw[d0] at a0;rw[d1] at a1;rw[d2] at a2;rw[d3] at N;clear d;go_simp) l ?_;refine zW 4 (.agg (ϟ E.V r)) l (·.2) ?_;refine zU 5 (.slice (some ⟨H,f,none⟩) F.length cp) l ?_;refine zU 6 (ϊ j) l ?_;refine zU 7 (.pointer (some ⟨H,f+j*4,none⟩)) l ?_;refine zV 8 (.agg (ϡ x)) rfl (λW d=>by have a0:=ξ d.1 (f+j*4);have a1:=ξ d.1 (f+j*4+1);have a2:=ξ d.1 (f+j*4+2);have N:=ξ d.1 (f+j*4+3);rw[d0] at a0;rw[d1] at a1;rw[d2] at a2;rw[d3] at N;clear d;go_simp) l ?_;refine zU 9 (ϊ J) l ?_;refine zW 11 (.agg (ϟ E.V r)) l (·.2) ?_;refine zU 12 (.slice (some ⟨H,f,none⟩) F.length cp) l ?_;refine zU 13 (ϊ j) l ?_;refine zU 14 (ϊ k) l ?_;refine zU 15 (.pointer (some ⟨H,f+k*4,none⟩)) l ?_;refine zV 16 (.agg (ϡ y)) rfl (λW d=>by have a0:=ξ d.1 (f+k*4);have a1:=ξ d.1 (f+k*4+1);have a2:=ξ d.1 (f+k*4+2);have N:=ξ d.1 (f+k*4+3);rw[e0] at a0;rw[e1] at a1;rw[e2] at a2;rw[e3] at N;clear d;go_simp) l ?_;refine zU 17 (ϊ J) l ?_;have Q:=bo.tail (kF.drew);have bj:=ζ ai;clear bo a7;refine zr 10 19 (λK hK=>?_) λK hK=>?_
  focus
   go_simp;refine (qK6 E 0 x r a J Y.drew Q.dev (Env.RL az o Q) ad).mono ?_;rintro e A ⟨R,rfl,U,C⟩;have u:=Q.trans C;have t:=n2 (C.kp.heap (k:=H) ay (λD=>E.apt _ Q.dev _ D _ _ _ ay dC)) (C.new (k:=w.heap.size) o lR ai);have dj:Y.heap.size<=A.heap.size:=C.kp.size;refine zk hK t ?_
   refine zr 18 19 (λK hK=>?_) λK hK=>?_
   focus
    go_simp;refine (qK6 E 0 y r b J A u.dev (Env.RL a4 o u) ad).mono ?_;rintro e B ⟨T,rfl,O,h⟩;have s:=u.trans h;have ah:=Env.RN U u.dev h;have p:=n2 (h.kp.heap t.1 (λD=>E.apt _ u.dev _ D _ _ _ t.1 dC)) (h.new o lR t.2);have dk:=h.kp.size;refine zk hK p ?_
    refine zq 19 λK hK=>?_;go_simp;obtain⟨M,b8,G,aa⟩:∃ M,M=B.alloc (.cells ϙ 87)/\Ϙ M B.heap.size (.cells qK3 87)/\Kp [] B M:=⟨_,rfl,υ _ _,kF.alloc _⟩;rw[<-b8];clear b8;have au:=s.tail aa;have P:=And.intro (aa.hp p.1) (aa.hp p.2);have am:=RN.keep aa (Apt.nil _ _) 0 R _ ah;have an:=RN.keep aa (Apt.nil _ _) 0 T _ O;have V:w.heap.size<B.heap.size:=oM
    refine zk hK P ?_
    clear s ah O U C h u Q p t aa;generalize B.heap.size=LB at G V |-
   rotate_left
   focus
    go_simp;obtain⟨B,b7,af,aj⟩:∃ B,B=A.alloc (.cells ϙ 87)/\Ϙ B A.heap.size (.cells qK3 87)/\Kp [] A B:=⟨_,rfl,υ _ _,kF.alloc _⟩;rw[<-b7];clear b7;have s:=u.tail aj;have p:=And.intro (aj.hp t.1) (aj.hp t.2);have ah:=RN.keep aj (Apt.nil _ _) 0 R _ U;have V:w.heap.size<A.heap.size:=oM
    refine zk hK p ?_
    refine zq 18 λK hK=>?_;go_simp;refine (qK6 E 0 y r b J B s.dev (Env.RL a4 o s) ad).mono ?_;rintro e M ⟨T,rfl,O,h⟩;have au:=s.trans h;have am:=Env.RN ah s.dev h;have an:=O;have G:=h.new o (Nat.le_of_lt V) af;have P:=n2 (h.kp.heap p.1 (λD=>E.apt _ s.dev _ D _ _ _ p.1 dC)) (h.new o lR p.2);refine zk hK P ?_
    clear s ah O U C h u Q p t af;generalize A.heap.size=LB at G V |-
  rotate_left 2
  focus
   go_simp;obtain⟨A,b6,bn,a8⟩:∃ A,A=(Y.alloc (.cells ϙ 87)).drew/\Ϙ A Y.heap.size (.cells qK3 87)/\Kp [] Y.drew A:=⟨_,rfl,υ _ _,((Kp.refl _ Y.drew).alloc _)⟩;rw[<-b6];clear b6;have u:=Q.tail a8;have t:=And.intro (a8.heap (k:=H) ay sM) (a8.heap (k:=w.heap.size) ai sM);refine zk hK t ?_
   refine zq 10 λK hK=>?_;go_simp;refine (qK6 E 0 x r a J A u.dev (Env.RL az o u) ad).mono ?_;rintro e B ⟨R,rfl,U,C⟩;have s:=u.trans C;have af:=C.new o (Nat.le_of_lt bj) bn;have p:=n2 (C.kp.heap t.1 (λD=>E.apt _ u.dev _ D _ _ _ t.1 dC)) (C.new o lR t.2);refine zk hK p ?_
   refine zq 18 λK hK=>?_;go_simp;refine (qK6 E 0 y r b J B s.dev (Env.RL a4 o s) ad).mono ?_;rintro e M ⟨T,rfl,O,h⟩;have au:=s.trans h;have am:=Env.RN U s.dev h;have an:=O;have G:=h.new o (Nat.le_of_lt bj) af;have P:=n2 (h.kp.heap p.1 (λD=>E.apt _ s.dev _ D _ _ _ p.1 dC)) (h.new o lR p.2);have V:=bj;refine zk hK P ?_
   clear s O U C h u Q p t af bn;generalize Y.heap.size=LB at G V |-
  all_goals
   have cx:=ζ G;have ag:Ϙ M LB (.cells ϙ 87):=G;have z0:=ξ ag;have cj:=ψ ag;refine zq 20 λK hK=>?_;go_simp;obtain⟨w5,b9,cl,ab⟩:∃ w5,w5=(((M.setCell ⟨LB,0,none⟩ (.string x.key)).setCell ⟨LB,1,none⟩ (ϊ x.b)).setCell ⟨LB,2,none⟩ (.int .u64 x.s)).setCell ⟨LB,3,none⟩ (.pointer x.ptr)/\Ϙ w5 LB (.cells (ϡ x) 87)/\Kp [LB] M w5:=
    ⟨_,rfl,(qU0 _ _ _ _ ag).1,(qU0 _ _ _ _ ag).2⟩
   rw[<-b9];clear b9 z0 cj ag;have cq:=au.store (Nat.le_of_lt V) G dC ab;have cm:=RN.keepZ E.pos ab (zD6 G) 0 R _ am;have cn:=RN.keepZ E.pos ab (zD6 G) 0 T _ an;have ao:=And.intro (ab.ho P.1) (ab.ho P.2);refine zk hK ao ?_
   refine zq 21 λK hK=>?_;go_simp;refine zk hK ao ?_
   refine zq 22 λK hK=>?_;go_simp;refine zk hK ao ?_
   refine zd ?_;clear ao P l am an au ab G cx;obtain⟨va,bh,b3⟩:=cm;obtain⟨vb,c7,b4⟩:=cn;obtain⟨Z,ca,c9⟩:∃ Z ca,va=.slice Z (prs a.sub).length ca:=by
    rcases b3.val with⟨h0,b,c,L,_⟩|⟨g,f,cap,cur,fr,L,_⟩
    .rw[h0];exact⟨b,c,L⟩
    .exact⟨_,cap,L⟩
   subst c9;obtain⟨bb,cb,da⟩:∃ bb cb,vb=.slice bb (prs b.sub).length cb:=by
    rcases b4.val with⟨h0,b,c,L,_⟩|⟨g,f,cap,cur,fr,L,_⟩
    .rw[h0];exact⟨b,c,L⟩
    .exact⟨_,cap,L⟩
   subst da;have c6:=ζ bh;have y0:=ξ bh 0;simp only[χ,zG,zH,zI] at y0;go_wp2_with fail;clear y0 c6;have n:=n3 cl bh c7;obtain⟨m,bt⟩:=eX (j+2);have dm:IntKind.i64.wrap ((j:Int)+2)=(m:Int):=by rw[wK];omega
   have ce:=zh bt;clear bt;refine wp_region_held_drew (S:=λW=>Ϙ W LB (.cells (ϡ x) 87)/\Ϙ W R (χ 0 (.slice Z (prs a.sub).length ca) (.slice none 0 0))/\Ϙ W T (χ 0 (.slice bb (prs b.sub).length cb) (.slice none 0 0))) kR n (λ_=>?_);refine zU 0 (.slice (some ⟨H,f,none⟩) F.length cp) n ?_;refine zU 1 (ϊ j) n ?_;refine zU 2 (ϊ j) n ?_;refine zU 3 (ϊ m) n ?_;refine zP 4 LB 0 n ?_;refine zV 5 (.string x.key) rfl (λW d=>by have c:=ξ d.1 0;simp only[zG,zH] at c;clear d;go_simp) n ?_;refine zP 6 R 0 n ?_;refine zP 7 R 0 n ?_;refine zP 8 R 1 n ?_;refine zV 9 (.slice Z (prs a.sub).length ca) rfl (λW d=>by have c:=ξ d.2.1 1;simp only[χ,zG,zH,zI] at c;clear d;go_simp) n ?_;refine zP 10 T 0 n ?_;refine zP 11 T 0 n ?_;refine zP 12 T 1 n ?_;refine zV 13 (.slice bb (prs b.sub).length cb) rfl (λW d=>by have c:=ξ d.2.2 1;simp only[χ,zG,zH,zI] at c;clear d;go_simp) n ?_;refine zq 14 λK hK=>?_;go_simp;obtain⟨w6,cc,ck,ac⟩:=alF w5 (.cells #[.slice Z (prs a.sub).length ca,.slice bb (prs b.sub).length cb] 186);rw[<-cc];clear cc;have ap:=And.intro (ac.hp n.1) (And.intro (ac.hp n.2.1) (ac.hp n.2.2));have cr:=cq.tail ac;refine zk hK ap ?_
   refine zq 15 λK hK=>?_;go_simp;refine (xA7 w5.heap.size [.slice Z (prs a.sub).length ca,.slice bb (prs b.sub).length cb] [prs a.sub,prs b.sub] w6 ck ⟨rfl,λc L h2=>?_⟩ (prs a.sub++prs b.sub) sM (by have:=qK0 θ (prs a.sub++prs b.sub) (λx _=>by unfold θ;omega);have:=HJ.out.2;omega) sM).mono ?_
   .have hc:c=0\/c=1:=by simp at L;omega
    rcases hc with rfl|rfl
    .exact b3.keep0 ac
    .exact b4.keep0 ac
   rintro e w7 ⟨v7,rfl,c5,ak⟩;have cs:=cr.tail ak;have aq:=And.intro (ak.hp ap.1) (And.intro (ak.hp ap.2.1) (ak.hp ap.2.2));refine zk hK aq ?_
   refine zq 16 λK hK=>?_;go_simp;refine (zA1 E.O x.key v7 (prs a.sub++prs b.sub) w7 (qJ3 c5) (by have:=qK0 θ (prs a.sub++prs b.sub) (λx _=>by unfold θ;omega);have:=HJ.out.2;omega) HJ.1 HJ.2).mono ?_;rintro e w8 ⟨v8,rfl,a9,al⟩;have bp:=cs.tail al;have ar:=And.intro (al.hp aq.1) (And.intro (al.hp aq.2.1) (al.hp aq.2.2));refine zk hK ar ?_
   refine zq 17 λK hK=>?_;go_simp;have cv:=az.out.1;rw[cv] at a9;have co:RLs E.O 0 w8 v8 (qF8 0 a.key a.sub b.sub):=a9;obtain⟨bi,c8,bd⟩:=co;have c4:bi.length<=10000:=by
    rw[bd.1];have:(qF8 0 a.key a.sub b.sub).length<=2:=by show (links _ _ _).length<=2;rw[xJ9];unfold qB8;split<;>simp
    omega
   have bu:=ce.out;have cw:=HK.out;have ch:=cg.out.keep bp.kp ((E.apt w o).sub dC);refine (zI6 _ v8 F bi j m w8 ch c8 oM oM oM cu c4).mono ?_;rintro e w9 ⟨v9,rfl,bk,ae⟩;rw[bu] at bk;clear bu cw;have av:=bp.tail ae;have bc:=And.intro (ae.hp ar.1) (And.intro (ae.hp ar.2.1) (ae.hp ar.2.2));have bq:Both (RL E.O 0 w9) (F.take j++bi++F.drop (j+2)) (ls.take j++qF8 0 a.key a.sub b.sub++ls.drop (j+2)):=
    (((HB.take j).mono λx y X=>Env.RL X o av).append (bd.mono λx y X=>RL.keep X ae (Apt.nil _ _))).append ((HB.drop (j+2)).mono λx y X=>Env.RL X o av)
   refine zk hK bc ?_
   refine zq 18 λK hK=>?_;go_simp;refine zk hK bc ?_
   refine zd ?_;have cf:Hid (RLs E.O 0 w9 v9 (qC6 0 ls i)):=by
    show RLs E.O 0 w9 v9 (qC6 0 ls i);rw[HM.out];exact⟨_,bk,bq⟩
   have ci:=zh av;clear bc bk bq bd av a9;go_wp2;go_ret;exact⟨v9,rfl,cf,ci⟩
 .rw[bv] at hx;cases hx
theorem jU4(E:Env)(n:Nat)(N:Int)(da:((n+1):Int)<N)(r:HL)(v:Value)(ls:List (Lnk (Tn (n+1))))(i j k:Nat)(c a b:Lnk (Tn (n+1)))(w:World)(hd:E.Dev w)(P:RLs E.O (n+1) w v ls)(hi:ls[i]?=some c)(bw:ls.length<=10000)(b0:c.ref=none)(hc:cnt (n+1) c.sub<3)(h2:2<=ls.length)(bf:ls[j]?=some a)(bh:ls[k]?=some b)(bg:k=j+1)(hj:j=min i (ls.length-2))(hJ:(∀ x∈η a.sub++η b.sub,qA2 x<=21)/\meas qA2 (η a.sub++η b.sub)<=210)(hn:n<=100000):
  Calls prog 164 #[τ E.V r,v,.int .i64 N,.int .i64 i] w λe w'=>∃ v',e=.returned v'/\RLs E.O (n+1) w' v' (qC6 (n+1) ls i)/\E.To w w':=by
 have G:qC6 (n+1) ls i=ls.take j++qF8 (n+1) a.key a.sub b.sub++ls.drop (j+2):=by
  unfold qC6;rw[hi];simp only[show ¬3<=cnt (n+1) c.sub from by omega,if_false,<-hj];rw[<-bg,bf,bh]
 obtain⟨H,bm,l⟩:=P;have di:=zh l.1;have c5:H.length<=10000:=by rw[l.1];exact bw
 obtain⟨L,h,cp,cur,fr,rfl,dm,ay,aw⟩:=bm.link (by rw[l.1];omega);obtain⟨z,dp,b5,c0,c1,c2,c3⟩:=qS1 l aw hi;obtain⟨x,dq,b6,d0,d1,d2,d3⟩:=qS1 l aw bf;obtain⟨y,dr,b7,e0,e1,e2,e3⟩:=qS1 l aw bh;rcases b5.new with⟨_,q,b2,b3⟩|⟨hx,_⟩
 .have b1:z.ptr=some ⟨q,0,none⟩:=by simp[HL.ptr,b2]
  rw[b1] at c3;have HM:=zh G;have s:=zh hd;have HB:=zh l;have a4:=zh b6;have a5:=zh b7;have cm:=zh bm;have HQ:=zh b3;have bv:=ζ ay;have R:=ξ ay (h+i*4+3);rw[c3] at R;have dl:¬(3:Int)<=((cnt (n+1) c.sub:Nat):Int):=oM
  have c4:cnt (n+1) c.sub<=1000000:=oM
  have ci:Hid (j=min i (H.length-2)):=by show _=_;rw[l.1];exact hj
  have ds:2<=H.length:=by rw[l.1];exact h2
  have HJ:=zh hJ;have dn:=bv;have ad:Hid ((((n+1):Nat):Int)<N):=by show _<_;omega
  clear da hJ l bm b5 b3 aw hd G hj b6 b7 hi bf bh b2 b1 c0 c1 c2 b0 h2 hc bw;rw[τ];go_enter func164,ntmps164;go_wp2_with fail;obtain⟨w0,cc,bn,a6⟩:=alA w (.cells (ϟ E.V r) 89);rw[<-cc];clear cc;refine (qU2 E.O (n+1) q c.sub w0 (RN.keep a6 (Apt.nil _ _) (n+1) q _ HQ) c4).mono ?_;rintro e w1 ⟨rfl,a7⟩;have a8:=a6.tr a7;have aj:=a7.hp bn;have az:=a8.hp ay;have bp:=Env.To.of0 s a8;clear a7 a6 bn R ay bv;have db:(if (H.length:Int)-2<(i:Int) then (H.length:Int)-2 else (i:Int))=(j:Int):=by have:=ci.out;split<;>omega
  go_wp2_with fail;clear db;have dw:IntKind.i64.wrap ((j:Int)+1)=(k:Int):=by rw[wK];omega
  have HK:=zh bg;clear bg c3;have p:=n2 az aj;refine wp_region_held_drew (S:=λW=>Ϙ W L (.cells cur 87 fr)/\Ϙ W w.heap.size (.cells (ϟ E.V r) 89)) kR p (λ_=>?_);refine zU 0 (.slice (some ⟨L,h,none⟩) H.length cp) p ?_;refine zU 1 (ϊ j) p ?_;refine zU 2 (.pointer (some ⟨L,h+j*4,none⟩)) p ?_;refine zV 3 (.agg (ϡ x)) rfl (λW d=>by have a0:=ξ d.1 (h+j*4);have a1:=ξ d.1 (h+j*4+1);have a2:=ξ d.1 (h+j*4+2);have R:=ξ d.1 (h+j*4+3);rw[d0] at a0;rw[d1] at a1;rw[d2] at a2;rw[d3] at R;clear d;go_simp) p ?_;refine zW 4 (.agg (ϟ E.V r)) p (·.2) ?_;refine zU 5 (.slice (some ⟨L,h,none⟩) H.length cp) p ?_;refine zU 6 (ϊ j) p ?_;refine zU 7 (.pointer (some ⟨L,h+j*4,none⟩)) p ?_;refine zV 8 (.agg (ϡ x)) rfl (λW d=>by have a0:=ξ d.1 (h+j*4);have a1:=ξ d.1 (h+j*4+1);have a2:=ξ d.1 (h+j*4+2);have R:=ξ d.1 (h+j*4+3);rw[d0] at a0;rw[d1] at a1;rw[d2] at a2;rw[d3] at R;clear d;go_simp) p ?_;refine zU 9 (ϊ N) p ?_;refine zW 11 (.agg (ϟ E.V r)) p (·.2) ?_;refine zU 12 (.slice (some ⟨L,h,none⟩) H.length cp) p ?_;refine zU 13 (ϊ j) p ?_;refine zU 14 (ϊ k) p ?_;refine zU 15 (.pointer (some ⟨L,h+k*4,none⟩)) p ?_;refine zV 16 (.agg (ϡ y)) rfl (λW d=>by have a0:=ξ d.1 (h+k*4);have a1:=ξ d.1 (h+k*4+1);have a2:=ξ d.1 (h+k*4+2);have R:=ξ d.1 (h+k*4+3);rw[e0] at a0;rw[e1] at a1;rw[e2] at a2;rw[e3] at R;clear d;go_simp) p ?_;refine zU 17 (ϊ N) p ?_;have V:=bp.tail (kF.drew);have bk:=ζ aj;clear bp a8;refine zr 10 19 (λK hK=>?_) λK hK=>?_
  focus
   go_simp;refine (qK6 E (n+1) x r a N w1.drew V.dev (Env.RL a4 s V) ad).mono ?_;rintro e C ⟨J,rfl,Z,F⟩;have B:=V.trans F;have A:=n2 (F.kp.heap (k:=L) az (λG=>E.apt _ V.dev _ G _ _ _ az dC)) (F.new (k:=w.heap.size) s lR aj);have du:w1.heap.size<=C.heap.size:=F.kp.size;refine zk hK A ?_
   refine zr 18 19 (λK hK=>?_) λK hK=>?_
   focus
    go_simp;refine (qK6 E (n+1) y r b N C B.dev (Env.RL a5 s B) ad).mono ?_;rintro e D ⟨X,rfl,T,o⟩;have u:=B.trans o;have ai:=Env.RN Z B.dev o;have t:=n2 (o.kp.heap A.1 (λG=>E.apt _ B.dev _ G _ _ _ A.1 dC)) (o.new s lR A.2);have dv:=o.kp.size;refine zk hK t ?_
    refine zq 19 λK hK=>?_;go_simp;obtain⟨Q,cf,I,ab⟩:∃ Q,Q=D.alloc (.cells ϙ 87)/\Ϙ Q D.heap.size (.cells qK3 87)/\Kp [] D Q:=⟨_,rfl,υ _ _,kF.alloc _⟩;rw[<-cf];clear cf;have au:=u.tail ab;have U:=And.intro (ab.hp t.1) (ab.hp t.2);have am:=RN.keep ab (Apt.nil _ _) (n+1) J _ ai;have an:=RN.keep ab (Apt.nil _ _) (n+1) X _ T;have aa:w.heap.size<D.heap.size:=oM
    refine zk hK U ?_
    clear u ai T Z F o B V t A ab;generalize D.heap.size=LB at I aa |-
   rotate_left
   focus
    go_simp;obtain⟨D,ce,ag,ak⟩:∃ D,D=C.alloc (.cells ϙ 87)/\Ϙ D C.heap.size (.cells qK3 87)/\Kp [] C D:=⟨_,rfl,υ _ _,kF.alloc _⟩;rw[<-ce];clear ce;have u:=B.tail ak;have t:=And.intro (ak.hp A.1) (ak.hp A.2);have ai:=RN.keep ak (Apt.nil _ _) (n+1) J _ Z;have aa:w.heap.size<C.heap.size:=oM
    refine zk hK t ?_
    refine zq 18 λK hK=>?_;go_simp;refine (qK6 E (n+1) y r b N D u.dev (Env.RL a5 s u) ad).mono ?_;rintro e Q ⟨X,rfl,T,o⟩;have au:=u.trans o;have am:=Env.RN ai u.dev o;have an:=T;have I:=o.new s (Nat.le_of_lt aa) ag;have U:=n2 (o.kp.heap t.1 (λG=>E.apt _ u.dev _ G _ _ _ t.1 dC)) (o.new s lR t.2);refine zk hK U ?_
    clear u ai T Z F o B V t A ag;generalize C.heap.size=LB at I aa |-
  rotate_left 2
  focus
   go_simp;obtain⟨C,cd,bo,a9⟩:∃ C,C=(w1.alloc (.cells ϙ 87)).drew/\Ϙ C w1.heap.size (.cells qK3 87)/\Kp [] w1.drew C:=⟨_,rfl,υ _ _,((Kp.refl _ w1.drew).alloc _)⟩;rw[<-cd];clear cd;have B:=V.tail a9;have A:=And.intro (a9.heap (k:=L) az sM) (a9.heap (k:=w.heap.size) aj sM);refine zk hK A ?_
   refine zq 10 λK hK=>?_;go_simp;refine (qK6 E (n+1) x r a N C B.dev (Env.RL a4 s B) ad).mono ?_;rintro e D ⟨J,rfl,Z,F⟩;have u:=B.trans F;have ag:=F.new s (Nat.le_of_lt bk) bo;have t:=n2 (F.kp.heap A.1 (λG=>E.apt _ B.dev _ G _ _ _ A.1 dC)) (F.new s lR A.2);refine zk hK t ?_
   refine zq 18 λK hK=>?_;go_simp;refine (qK6 E (n+1) y r b N D u.dev (Env.RL a5 s u) ad).mono ?_;rintro e Q ⟨X,rfl,T,o⟩;have au:=u.trans o;have am:=Env.RN Z u.dev o;have an:=T;have I:=o.new s (Nat.le_of_lt bk) ag;have U:=n2 (o.kp.heap t.1 (λG=>E.apt _ u.dev _ G _ _ _ t.1 dC)) (o.new s lR t.2);have aa:=bk;refine zk hK U ?_
   clear u T Z F o B V t A ag bo;generalize w1.heap.size=LB at I aa |-
  all_goals
   have c8:=ζ I;have ah:Ϙ Q LB (.cells ϙ 87):=I;have z0:=ξ ah;have cq:=ψ ah;refine zq 20 λK hK=>?_;go_simp;obtain⟨w5,cg,cs,ac⟩:∃ w5,w5=(((Q.setCell ⟨LB,0,none⟩ (.string x.key)).setCell ⟨LB,1,none⟩ (ϊ x.b)).setCell ⟨LB,2,none⟩ (.int .u64 x.s)).setCell ⟨LB,3,none⟩ (.pointer x.ptr)/\Ϙ w5 LB (.cells (ϡ x) 87)/\Kp [LB] Q w5:=
    ⟨_,rfl,(qU0 _ _ _ _ ah).1,(qU0 _ _ _ _ ah).2⟩
   rw[<-cg];clear cg z0 cq ah;have cx:=au.store (Nat.le_of_lt aa) I dC ac;have ct:=RN.keepZ E.pos ac (zD6 I) (n+1) J _ am;have cu:=RN.keepZ E.pos ac (zD6 I) (n+1) X _ an;have ao:=And.intro (ac.ho U.1) (ac.ho U.2);refine zk hK ao ?_
   refine zq 21 λK hK=>?_;go_simp;refine zk hK ao ?_
   refine zq 22 λK hK=>?_;go_simp;refine zk hK ao ?_
   refine zd ?_;clear ao U p am an au ac I c8;obtain⟨va,ax,M,b8,bt⟩:=ct;obtain⟨vb,b4,l,b9,bu⟩:=cu;obtain⟨lv,bi⟩:∃ lv:Int,((n+1:Nat):Int)=lv:=⟨_,rfl⟩;rw[bi] at ax b4;have dt:¬lv=0:=oM
   have cj:=zh bi.symm;have dj:=zh bt.1;have dk:=zh bu.1;clear bi;obtain⟨ba,ca,dg⟩:∃ ba ca,va=.slice ba M.length ca:=by
    rcases b8.val with⟨h0,b,c,O,_⟩|⟨g,h,cap,cur,fr,O,_⟩
    .rw[h0];exact⟨b,c,O⟩
    .exact⟨_,cap,O⟩
   subst dg;obtain⟨bb,cb,dh⟩:∃ bb cb,vb=.slice bb l.length cb:=by
    rcases b9.val with⟨h0,b,c,O,_⟩|⟨g,h,cap,cur,fr,O,_⟩
    .rw[h0];exact⟨b,c,O⟩
    .exact⟨_,cap,O⟩
   subst dh;have de:=ζ ax;have y0:=ξ ax 0;simp only[χ,zG,zH,zI] at y0;go_wp2_with fail;clear y0 de;have f:=n3 cs ax b4;obtain⟨m,bx⟩:=eX (j+2);have dx:IntKind.i64.wrap ((j:Int)+2)=(m:Int):=by rw[wK];omega
   have ck:=zh bx;clear bx;refine wp_region_held_drew (S:=λW=>Ϙ W LB (.cells (ϡ x) 87)/\Ϙ W J (χ lv (.slice none 0 0) (.slice ba M.length ca))/\Ϙ W X (χ lv (.slice none 0 0) (.slice bb l.length cb))) kR f (λ_=>?_);refine zU 0 (.slice (some ⟨L,h,none⟩) H.length cp) f ?_;refine zU 1 (ϊ j) f ?_;refine zU 2 (ϊ j) f ?_;refine zU 3 (ϊ m) f ?_;refine zP 4 LB 0 f ?_;refine zV 5 (.string x.key) rfl (λW d=>by have c:=ξ d.1 0;simp only[zG,zH] at c;clear d;go_simp) f ?_;refine zP 6 J 0 f ?_;refine zP 7 J 0 f ?_;refine zP 8 J 0 f ?_;refine zV 9 (ϊ lv) rfl (λW d=>by have c:=ξ d.2.1 0;simp only[χ,zG,zH,zI] at c;clear d;go_simp) f ?_;refine zP 10 J 0 f ?_;refine zP 11 J 0 f ?_;refine zP 12 J 2 f ?_;refine zV 13 (.slice ba M.length ca) rfl (λW d=>by have c:=ξ d.2.1 2;simp only[χ,zG,zH,zI] at c;clear d;go_simp) f ?_;refine zP 14 X 0 f ?_;refine zP 15 X 0 f ?_;refine zP 16 X 2 f ?_;refine zV 17 (.slice bb l.length cb) rfl (λW d=>by have c:=ξ d.2.2 2;simp only[χ,zG,zH,zI] at c;clear d;go_simp) f ?_;refine zq 18 λK hK=>?_;go_simp;obtain⟨w6,ch,cr,Y⟩:=alF w5 (.cells #[.slice ba M.length ca,.slice bb l.length cb] 156);rw[<-ch];clear ch;have ap:=And.intro (Y.hp f.1) (And.intro (Y.hp f.2.1) (Y.hp f.2.2));have cy:=cx.tail Y;refine zk hK ap ?_
   refine zq 19 λK hK=>?_;go_simp;have br:Both (RL E.O n w5) (M++l) (η a.sub++η b.sub):=bt.append bu;have c9:(M++l).length<=1000000:=by rw[br.1];have:=qK0 qA2 (η a.sub++η b.sub) (λx _=>by unfold qA2;omega);have:=HJ.out.2;omega
   refine (xA6 w5.heap.size [.slice ba M.length ca,.slice bb l.length cb] [M,l] w6 cr ⟨rfl,λc O h2=>?_⟩ (M++l) sM c9 sM).mono ?_
   .have hc:c=0\/c=1:=by simp at O;omega
    rcases hc with rfl|rfl
    .exact b8.keep0 Y
    .exact b9.keep0 Y
   rintro e w7 ⟨v7,rfl,dd,ae⟩;have cz:=cy.tail ae;have aq:=And.intro (ae.hp ap.1) (And.intro (ae.hp ap.2.1) (ae.hp ap.2.2));refine zk hK aq ?_
   refine zq 20 λK hK=>?_;go_simp;have cv:RLs E.O n w7 v7 (η a.sub++η b.sub):=⟨M++l,qJ3 dd,br.mono λx y P=>RL.keep P (Y.tr ae) (Apt.nil _ _)⟩;refine (zD9 E.O n lv cj x.key v7 (η a.sub++η b.sub) w7 cv (by have:=qK0 qA2 (η a.sub++η b.sub) (λx _=>by unfold qA2;omega);have:=HJ.out.2;omega) HJ.1 HJ.2).mono ?_;rintro e w8 ⟨v8,rfl,bc,al⟩;have bq:=cz.tail al;have ar:=And.intro (al.hp aq.1) (And.intro (al.hp aq.2.1) (al.hp aq.2.2));refine zk hK ar ?_
   refine zq 21 λK hK=>?_;go_simp;have c6:=a4.out.1;rw[c6] at bc;have cw:RLs E.O (n+1) w8 v8 (qF8 (n+1) a.key a.sub b.sub):=bc;obtain⟨bj,df,be⟩:=cw;have dc:bj.length<=10000:=by
    rw[be.1];have:(qF8 (n+1) a.key a.sub b.sub).length<=2:=by show (links _ _ _).length<=2;rw[xJ9];unfold qB8;split<;>simp
    omega
   have bz:=ck.out;have c7:=HK.out;have cn:=cm.out.keep bq.kp ((E.apt w s).sub dC);refine (zI6 _ v8 H bj j m w8 cn df oM oM oM c5 dc).mono ?_;rintro e w9 ⟨v9,rfl,bl,af⟩;rw[bz] at bl;clear bz c7;have av:=bq.tail af;have bd:=And.intro (af.hp ar.1) (And.intro (af.hp ar.2.1) (af.hp ar.2.2));have bs:Both (RL E.O (n+1) w9) (H.take j++bj++H.drop (j+2)) (ls.take j++qF8 (n+1) a.key a.sub b.sub++ls.drop (j+2)):=
    (((HB.take j).mono λx y P=>Env.RL P s av).append (be.mono λx y P=>RL.keep P af (Apt.nil _ _))).append ((HB.drop (j+2)).mono λx y P=>Env.RL P s av)
   refine zk hK bd ?_
   refine zq 22 λK hK=>?_;go_simp;refine zk hK bd ?_
   refine zd ?_;have cl:Hid (RLs E.O (n+1) w9 v9 (qC6 (n+1) ls i)):=by
    show RLs E.O (n+1) w9 v9 (qC6 (n+1) ls i);rw[HM.out];exact⟨_,bl,bs⟩
   have co:=zh av;clear bd bl bs be av bc;go_wp2;go_ret;exact⟨v9,rfl,cl,co⟩
 .rw[b0] at hx;cases hx
end Go.Proofs.YtdohpenfkdckiaaGreatDoor
