import Derived.Test.YtdohpenfkdckiaaGreatDoorJ02
set_option linter.all false
set_option maxRecDepth 100000
set_option maxHeartbeats 0
namespace Go.Proofs.YtdohpenfkdckiaaGreatDoor
open Go.Proofs.Tryz Go.RowKit
def Env.To.store{E:Env}{w W a:Ϣ}{k:Nat}{c:ϧ}{t:Ϯ}{d:Nat×Nat}(e:E.To w W)(j:w.heap.size<=k)(f:W.heap[k]?=some (ϲ c t d))(h:t∈Hr)(hK:Kp [k] W a):E.To w a:=
 ⟨E.qM3 W a [k] e.dev hK (λi b=>by rw[mS b];exact⟨c,t,d,f,h⟩),e.kp.trans hK (λi b g=>by rw[mS b]at g;omega)⟩
def GN{W}{k:Nat}{fr}(a:W.heap[k]?=some (ϲ Cf 87 fr)):IG W [k]:=λi b c t d e=>by
 rw[mS b,a]at e;cases e;exact .inr ⟨rfl,rfl⟩
def Gq{O:AS}{n:Nat}{w:Ϣ}{a:List HL}{ls:List (Lnk (Tn n))}{cur:ϧ}{b i:Nat}{l:Lnk (Tn n)}(d:Both (RL O n w) a ls)(g:∀i (h:i<a.length),cur[b+i*4]?=some (ϕ a[i].key)/\cur[b+i*4+1]?=some (ϊ a[i].b)/\cur[b+i*4+2]?=some (.int .u64 a[i].s)/\cur[b+i*4+3]?=some (ϗ a[i].ptr))(h:ls[i]?=some l):
  ∃x:HL,i<a.length/\RL O n w x l/\cur[b+i*4]?=some (ϕ x.key)/\cur[b+i*4+1]?=some (ϊ x.b)/\cur[b+i*4+2]?=some (.int .u64 x.s)/\cur[b+i*4+3]?=some (ϗ x.ptr):=by
 let⟨e,j⟩:=gS h;have c:i<a.length:=by rw[d.1];exact e
 have f:=d.2 i c e;rw[j]at f;exact⟨a[i],c,f,g i c⟩
def Ez{W}{k:Nat}{a b c d}(v0 v1 v2 v3)(h:W.heap[k]?=some (ϲ #[a,b,c,d] 87)):
  ((((W.setCell (ϰ k 0) v0).setCell (ϰ k 1) v1).setCell (ϰ k 2) v2).setCell (ϰ k 3) v3).heap[k]?=some (ϲ #[v0,v1,v2,v3] 87)/\Kp [k] W ((((W.setCell (ϰ k 0) v0).setCell (ϰ k 1) v1).setCell (ϰ k 2) v2).setCell (ϰ k 3) v3):=
 ⟨ξ (ξ (ξ (ξ h 0 _) 1 _) 2 _) 3 _,((((Kp.refl _ W).sc _).sc _).sc _).sc _⟩
def zS1{p:Prop}(_h:p:=by
 rintro e w1 ⟨rfl,hK1⟩;have hK1':=hK0.tr hK1;have hB1:=hK1.hp ae;have hrow1:=hK1'.hp hrow;have hT1:=Env.To.of0 hd hK1';clear hK1 hK0 ae a3 hrow ak;have hmin:(if (hs.length:Int)-2<(i:Int) then(hs.length:Int)-2 else(i:Int))=(j:Int):=by have:=bd.out;split<;>omega
 go_wp2_with fail;clear hmin;have hwr:IntKind.i64.wrap ((j:Int)+1)=(k:Int):=by rw[IntKind.wrap_i64];omega
 have HK:=zh cd;clear cd c3;have hS0:=n2 hrow1 hB1;refine wp_region_held_drew (S:=λW=>W.heap[gb]?=some (ϲ cur 87 fr)/\W.heap[w.heap.size]?=some (ϲ (ϟ E.V r) 89)) kR hS0 (λ_=>?_);refine zU 0 (.slice (some (ϰ gb off)) hs.length cp) hS0 ?_;refine zU 1 (ϊ j) hS0 ?_;refine zU 2 (.pointer (some (ϰ gb (off+j*4)))) hS0 ?_;refine zV 3 (.agg (ϡ x)) rfl (λW hS=>by have a0:=Y hS.1 (off+j*4);have a1:=Y hS.1 (off+j*4+1);have a2:=Y hS.1 (off+j*4+2);have a3:=Y hS.1 (off+j*4+3);rw[d0]at a0;rw[d1]at a1;rw[d2]at a2;rw[d3]at a3;clear hS;go_simp) hS0 ?_;refine zW 4 (.agg (ϟ E.V r)) hS0 (·.2) ?_;refine zU 5 (.slice (some (ϰ gb off)) hs.length cp) hS0 ?_;refine zU 6 (ϊ j) hS0 ?_;refine zU 7 (.pointer (some (ϰ gb (off+j*4)))) hS0 ?_;refine zV 8 (.agg (ϡ x)) rfl (λW hS=>by have a0:=Y hS.1 (off+j*4);have a1:=Y hS.1 (off+j*4+1);have a2:=Y hS.1 (off+j*4+2);have a3:=Y hS.1 (off+j*4+3);rw[d0]at a0;rw[d1]at a1;rw[d2]at a2;rw[d3]at a3;clear hS;go_simp) hS0 ?_;refine zU 9 (ϊ ck) hS0 ?_;refine zW 11 (.agg (ϟ E.V r)) hS0 (·.2) ?_;refine zU 12 (.slice (some (ϰ gb off)) hs.length cp) hS0 ?_;refine zU 13 (ϊ j) hS0 ?_;refine zU 14 (ϊ k) hS0 ?_;refine zU 15 (.pointer (some (ϰ gb (off+k*4)))) hS0 ?_;refine zV 16 (.agg (ϡ y)) rfl (λW hS=>by have a0:=Y hS.1 (off+k*4);have a1:=Y hS.1 (off+k*4+1);have a2:=Y hS.1 (off+k*4+2);have a3:=Y hS.1 (off+k*4+3);rw[e0]at a0;rw[e1]at a1;rw[e2]at a2;rw[e3]at a3;clear hS;go_simp) hS0 ?_;refine zU 17 (ϊ ck) hS0 ?_;have hTd:=hT1.tail ((Kp.refl _ _).drew);have hs1:=U hB1;clear hT1 hK1';exact Tz.out):p:=_h
def QK{p:Prop}(_h:p:=by
 let⟨hs,hsl,hb⟩:=hr;have HBL:=zh hb.1;have hhl:hs.length<=10000:=by rw[hb.1];exact cf
 obtain⟨gb,off,cp,cur,fr,rfl,hcp,hrow,hcur⟩:=hsl.link (by rw[hb.1];omega);let⟨z,hil,hri,c0,c1,c2,c3⟩:=Gq hb hcur hi;let⟨x,hjl,hrx,d0,d1,d2,d3⟩:=Gq hb hcur al;let⟨y,hkl,hry,e0,e1,e2,e3⟩:=Gq hb hcur hk1;exact Tz.out):p:=_h
def Yg(E:Env)(ck:Int)(cz:(0:Int)<ck)(r:HL)(v:Value)(ls:List (Lnk (Tn 0)))(i j k:Nat)(c a b:Lnk (Tn 0))(w:Ϣ)(hd:E.Dev w)(hr:RLs E.O 0 w v ls)(hi:ls[i]?=some c)(cf:ls.length<=10000)(b3:c.ref=none)(hc:cnt 0 c.sub<3)(h2:2<=ls.length)(al:ls[j]?=some a)(hk1:ls[k]?=some b)(cd:k=j+1)(hj:j=min i (ls.length-2))(P:(∀x∈prs a.sub++prs b.sub,ζ x<=21)/\qM2 ζ (prs a.sub++prs b.sub)<=210):
  E.C 164 #[θ E.V r,v,ϊ ck,ϊ i] w λe w'=>∃v',e=ϱ v'/\RLs E.O 0 w' v' (Av 0 ls i)/\E.To w w':=by
 have hm:Av 0 ls i=ls.take j++Bf 0 a.key a.sub b.sub++ls.drop (j+2):=by
  unfold Av;rw[hi];simp only[show¬3<=cnt 0 c.sub from by omega,if_false,<-hj];rw[<-cd,al,hk1]
 have Tz:Hid (∀{p:Prop},(_h:p:=by
  rcases hri.new with⟨_,q,hq1,hq2⟩|⟨hx,_⟩
  .have hptr:z.ptr=some (ϰ q 0):=by simp[HL.ptr,hq1]
   rw[hptr]at c3;have HM:=zh hm;have HB:=zh hb;have HQ:=zh hq2;have ak:=U hrow;have a3:=Y hrow (off+i*4+3);rw[c3]at a3;have hc3:¬(3:Int)<=((cnt 0 c.sub:Nat):Int):=oM
   have cw:cnt 0 c.sub<=1000000:=oM
   have bd:Hid (j=min i (hs.length-2)):=by show _=_;rw[hb.1];exact hj
   have dg:2<=hs.length:=by rw[hb.1];exact h2
   have df:=ak;have I:Hid (((0:Nat):Int)<ck):=by show _<_;omega
   clear cz hb hri hq2 hcur hm hj hi al hk1 hq1 hptr c0 c1 c2 b3 h2 hc cf;rw[θ];go_enter func164,ntmps164;go_wp2_with fail;let⟨w0,hw0,ae,hK0⟩:=alA w (ϲ (ϟ E.V r) 89);rw[<-hw0];clear hw0;refine(EB E.O 0 q c.sub w0 (RN.qM3 hK0 (Apt.nil _ _) 0 q _ HQ) cw).mono ?_;have Tz:Hid (∀{p:Prop},(_h:p:=by
    refine zr 10 19 (λK hK=>?_) λK hK=>?_
    focus
     go_simp;refine Env.call (BR E 0 x r a ck w1.drew hTd.dev (Env.RL hrx hd hTd) I) hTd ?_;rintro e w2 ⟨s,rfl,hN1,l⟩;have hT2:=hTd.trans l;have bt:=n2 (l.kp.heap (k:=gb) hrow1 (λhm=>E.apt _ hTd.dev _ hm _ _ _ hrow1 dC)) (l.new (k:=w.heap.size) hd (Nat.le_refl _) hB1);have hs2:w1.heap.size<=w2.heap.size:=l.kp.size;refine zk hK bt ?_
     refine zr 18 19 (λK hK=>?_) λK hK=>?_
     focus
      go_simp;refine Env.call (BR E 0 y r b ck w2 hT2.dev (Env.RL hry hd hT2) I) hT2 ?_;rintro e w3 ⟨t,rfl,o,d⟩;have ah:=hT2.trans d;have O:=Env.RN hN1 hT2.dev d;have bu:=n2 (d.kp.heap bt.1 (λhm=>E.apt _ hT2.dev _ hm _ _ _ bt.1 dC)) (d.new hd (Nat.le_refl _) bt.2);have hs3:=d.kp.size;refine zk hK bu ?_
      refine zq 19 λK hK=>?_;go_simp;obtain⟨w4,hw4,n,hK4⟩:∃w4,w4=w3.alloc (ϲ ϙ 87)/\w4.heap[w3.heap.size]?=some (ϲ Cf 87)/\Kp [] w3 w4:=⟨_,rfl,μ _ _,(Kp.refl _ _).alloc _⟩;rw[<-hw4];clear hw4;have hT4:=ah.tail hK4;have hS4:=And.intro (hK4.hp bu.1) (hK4.hp bu.2);have V:=RN.qM3 hK4 (Apt.nil _ _) 0 s _ O;have X:=RN.qM3 hK4 (Apt.nil _ _) 0 t _ o;have u:w.heap.size<w3.heap.size:=oM
      refine zk hK hS4 ?_
      clear ah O o hN1 l d hT2 hTd bu bt hK4;generalize w3.heap.size=LB at n u |-
     rotate_left
     focus
      go_simp;obtain⟨w3,hw3,M,Q⟩:∃w3,w3=w2.alloc (ϲ ϙ 87)/\w3.heap[w2.heap.size]?=some (ϲ Cf 87)/\Kp [] w2 w3:=⟨_,rfl,μ _ _,(Kp.refl _ _).alloc _⟩;rw[<-hw3];clear hw3;have ah:=hT2.tail Q;have bu:=And.intro (Q.hp bt.1) (Q.hp bt.2);have O:=RN.qM3 Q (Apt.nil _ _) 0 s _ hN1;have u:w.heap.size<w2.heap.size:=oM
      refine zk hK bu ?_
      refine zq 18 λK hK=>?_;go_simp;refine Env.call (BR E 0 y r b ck w3 ah.dev (Env.RL hry hd ah) I) ah ?_;rintro e w4 ⟨t,rfl,o,d⟩;have hT4:=ah.trans d;have V:=Env.RN O ah.dev d;have X:=o;have n:=d.new hd (Nat.le_of_lt u) M;have hS4:=n2 (d.kp.heap bu.1 (λhm=>E.apt _ ah.dev _ hm _ _ _ bu.1 dC)) (d.new hd (Nat.le_refl _) bu.2);refine zk hK hS4 ?_
      clear ah O o hN1 l d hT2 hTd bu bt M;generalize w2.heap.size=LB at n u |-
    rotate_left 2
    focus
     go_simp;obtain⟨w2,hw2,bl,hK2⟩:∃w2,w2=(w1.alloc (ϲ ϙ 87)).drew/\w2.heap[w1.heap.size]?=some (ϲ Cf 87)/\Kp [] w1.drew w2:=⟨_,rfl,μ _ _,((Kp.refl _ w1.drew).alloc _)⟩;rw[<-hw2];clear hw2;have hT2:=hTd.tail hK2;have bt:=And.intro (hK2.heap (k:=gb) hrow1 sM) (hK2.heap (k:=w.heap.size) hB1 sM);refine zk hK bt ?_
     refine zq 10 λK hK=>?_;go_simp;refine Env.call (BR E 0 x r a ck w2 hT2.dev (Env.RL hrx hd hT2) I) hT2 ?_;rintro e w3 ⟨s,rfl,hN1,l⟩;have ah:=hT2.trans l;have M:=l.new hd (Nat.le_of_lt hs1) bl;have bu:=n2 (l.kp.heap bt.1 (λhm=>E.apt _ hT2.dev _ hm _ _ _ bt.1 dC)) (l.new hd (Nat.le_refl _) bt.2);refine zk hK bu ?_
     refine zq 18 λK hK=>?_;go_simp;refine Env.call (BR E 0 y r b ck w3 ah.dev (Env.RL hry hd ah) I) ah ?_;rintro e w4 ⟨t,rfl,o,d⟩;have hT4:=ah.trans d;have V:=Env.RN hN1 ah.dev d;have X:=o;have n:=d.new hd (Nat.le_of_lt hs1) M;have hS4:=n2 (d.kp.heap bu.1 (λhm=>E.apt _ ah.dev _ hm _ _ _ bu.1 dC)) (d.new hd (Nat.le_refl _) bu.2);have u:=hs1;refine zk hK hS4 ?_
     clear ah o hN1 l d hT2 hTd bu bt M bl;generalize w1.heap.size=LB at n u |-
    all_goals
     have cy:=U n;have N:w4.heap[LB]?=some (ϲ ϙ 87):=n;have z0:=Y N;have fz0:=ρ N;refine zq 20 λK hK=>?_;go_simp;obtain⟨H,b6,co,F⟩:∃H,H=(((w4.setCell (ϰ LB 0) (.string x.key)).setCell (ϰ LB 1) (ϊ x.b)).setCell (ϰ LB 2) (.int .u64 x.s)).setCell (ϰ LB 3) (.pointer x.ptr)/\H.heap[LB]?=some (ϲ (ϡ x) 87)/\Kp [LB] w4 H:=
      ⟨_,rfl,(Ez _ _ _ _ N).1,(Ez _ _ _ _ N).2⟩
     rw[<-b6];clear b6 z0 fz0 N;have ct:=hT4.store (Nat.le_of_lt u) n dC F;have cq:=RN.qS5 E.pos F (GN n) 0 s _ V;have cr:=RN.qS5 E.pos F (GN n) 0 t _ X;have Z:=And.intro (F.ho hS4.1) (F.ho hS4.2);refine zk hK Z ?_
     refine zq 21 λK hK=>?_;go_simp;refine zk hK Z ?_
     refine zq 22 λK hK=>?_;go_simp;refine zk hK Z ?_
     refine zd ?_;clear Z hS4 hS0 V X hT4 F n cy;let⟨va,a7,b4⟩:=cq;let⟨vb,db,b5⟩:=cr;obtain⟨A,C,dd⟩:∃A C,va=.slice A (prs a.sub).length C:=by
      rcases b4.val with⟨h0,b,c,h1,_⟩|⟨g,off,cap,cur,fr,h1,_⟩
      .rw[h0];exact⟨b,c,h1⟩
      .exact⟨_,cap,h1⟩
     subst dd;obtain⟨B,D,de⟩:∃B D,vb=.slice B (prs b.sub).length D:=by
      rcases b5.val with⟨h0,b,c,h1,_⟩|⟨g,off,cap,cur,fr,h1,_⟩
      .rw[h0];exact⟨b,c,h1⟩
      .exact⟨_,cap,h1⟩
     subst de;have da:=U a7;have y0:=ϻ a7 0;go_wp2_with fail;clear y0 da;have f:=n3 co a7 db;let⟨m,b1⟩:=eX (j+2);have dh:IntKind.i64.wrap ((j:Int)+2)=(m:Int):=by rw[IntKind.wrap_i64];omega
     have b8:=zh b1;clear b1;refine wp_region_held_drew (S:=λW=>W.heap[LB]?=some (ϲ (ϡ x) 87)/\W.heap[s]?=some (Ai 0 (.slice A (prs a.sub).length C) (.slice none 0 0))/\W.heap[t]?=some (Ai 0 (.slice B (prs b.sub).length D) (.slice none 0 0))) kR f (λ_=>?_);refine zU 0 (.slice (some (ϰ gb off)) hs.length cp) f ?_;refine zU 1 (ϊ j) f ?_;refine zU 2 (ϊ j) f ?_;refine zU 3 (ϊ m) f ?_;refine zP 4 LB 0 f ?_;refine zV 5 (.string x.key) rfl (λW hS=>by have c:=Y hS.1 0;simp only[zG,zH]at c;clear hS;go_simp) f ?_;refine zP 6 s 0 f ?_;refine zP 7 s 0 f ?_;refine zP 8 s 1 f ?_;refine zV 9 (.slice A (prs a.sub).length C) rfl (λW hS=>by have c:=ϻ hS.2.1 1;clear hS;go_simp) f ?_;refine zP 10 t 0 f ?_;refine zP 11 t 0 f ?_;refine zP 12 t 1 f ?_;refine zV 13 (.slice B (prs b.sub).length D) rfl (λW hS=>by have c:=ϻ hS.2.2 1;clear hS;go_simp) f ?_;refine zq 14 λK hK=>?_;go_simp;let⟨w6,b7,cn,G⟩:=alF H (ϲ #[.slice A (prs a.sub).length C,.slice B (prs b.sub).length D] 186);rw[<-b7];clear b7;have ad:=And.intro (G.hp f.1) (And.intro (G.hp f.2.1) (G.hp f.2.2));have cu:=ct.tail G;refine zk hK ad ?_
     refine zq 15 λK hK=>?_;go_simp;refine(MM H.heap.size [.slice A (prs a.sub).length C,.slice B (prs b.sub).length D] [prs a.sub,prs b.sub] w6 cn ⟨rfl,λc h1 h2=>?_⟩ (prs a.sub++prs b.sub) sM (by have:=Ca ζ (prs a.sub++prs b.sub) (λx _=>by unfold ζ;omega);have:=P.2;omega) sM).mono ?_
     .have hc:c=0\/c=1:=by simp at h1;omega
      rcases hc with rfl|rfl
      .exact b4.qM4 G
      .exact b5.qM4 G
     rintro e w7 ⟨v7,rfl,c6,R⟩;have cv:=cu.tail R;have a0:=And.intro (R.hp ad.1) (And.intro (R.hp ad.2.1) (R.hp ad.2.2));refine zk hK a0 ?_
     refine zq 16 λK hK=>?_;go_simp;refine(FX E.O x.key v7 (prs a.sub++prs b.sub) w7 (Cm c6) (by have:=Ca ζ (prs a.sub++prs b.sub) (λx _=>by unfold ζ;omega);have:=P.2;omega) P.1 P.2).mono ?_;rintro e w8 ⟨v8,rfl,a4,T⟩;have bs:=cv.tail T;have a1:=And.intro (T.hp a0.1) (And.intro (T.hp a0.2.1) (T.hp a0.2.2));refine zk hK a1 ?_
     refine zq 17 λK hK=>?_;go_simp;have cx:=hrx.1;rw[cx]at a4;have cs:RLs E.O 0 w8 v8 (Bf 0 a.key a.sub b.sub):=a4;let⟨a8,dc,a6⟩:=cs;have c4:a8.length<=10000:=by
      rw[a6.1];have:(Bf 0 a.key a.sub b.sub).length<=2:=by show(links _ _ _).length<=2;rw[OK];unfold Aq;split<;>simp
      omega
     have b2:=b8.out;have ce:=HK.out;have cl:=hsl.qM3 bs.kp ((E.apt w hd).sub dC);refine(Ig _ v8 hs a8 j m w8 cl dc oM oM oM hhl c4).mono ?_;rintro e w9 ⟨v9,rfl,a9,L⟩;rw[b2]at a9;clear b2 ce;have a2:=bs.tail L;have a5:=And.intro (L.hp a1.1) (And.intro (L.hp a1.2.1) (L.hp a1.2.2));have b0:Both (RL E.O 0 w9) (hs.take j++a8++hs.drop (j+2)) (ls.take j++Bf 0 a.key a.sub b.sub++ls.drop (j+2)):=
      (((HB.take j).mono λx y hr=>Env.RL hr hd a2).append (a6.mono λx y hr=>RL.qM3 hr L (Apt.nil _ _))).append ((HB.drop (j+2)).mono λx y hr=>Env.RL hr hd a2)
     refine zk hK a5 ?_
     refine zq 18 λK hK=>?_;go_simp;refine zk hK a5 ?_
     refine zd ?_;have cc:Hid (RLs E.O 0 w9 v9 (Av 0 ls i)):=by
      show RLs E.O 0 w9 v9 (Av 0 ls i);rw[HM.out];exact⟨_,a9,b0⟩
     have cm:=zh a2;clear a5 a9 b0 a6 a2 a4;go_wp2;go_ret;exact .inr ⟨v9,rfl,cc,cm⟩)->p):=λh=>h;exact zS1
  .rw[b3]at hx;cases hx)->p):=λh=>h;exact QK
def Yf(E:Env)(n:Nat)(ck:Int)(df:((n+1):Int)<ck)(r:HL)(v:Value)(ls:List (Lnk (Tn (n+1))))(i j k:Nat)(c a b:Lnk (Tn (n+1)))(w:Ϣ)(hd:E.Dev w)(hr:RLs E.O (n+1) w v ls)(hi:ls[i]?=some c)(cf:ls.length<=10000)(b8:c.ref=none)(hc:cnt (n+1) c.sub<3)(h2:2<=ls.length)(al:ls[j]?=some a)(hk1:ls[k]?=some b)(cd:k=j+1)(hj:j=min i (ls.length-2))(T:(∀x∈J a.sub++J b.sub,ι x<=21)/\qM2 ι (J a.sub++J b.sub)<=210)(hn:n<=100000):
  E.C 164 #[θ E.V r,v,ϊ ck,ϊ i] w λe w'=>∃v',e=ϱ v'/\RLs E.O (n+1) w' v' (Av (n+1) ls i)/\E.To w w':=by
 have hm:Av (n+1) ls i=ls.take j++Bf (n+1) a.key a.sub b.sub++ls.drop (j+2):=by
  unfold Av;rw[hi];simp only[show¬3<=cnt (n+1) c.sub from by omega,if_false,<-hj];rw[<-cd,al,hk1]
 have Tz:Hid (∀{p:Prop},(_h:p:=by
  rcases hri.new with⟨_,q,hq1,hq2⟩|⟨hx,_⟩
  .have hptr:z.ptr=some (ϰ q 0):=by simp[HL.ptr,hq1]
   rw[hptr]at c3;have HM:=zh hm;have HB:=zh hb;have HQ:=zh hq2;have ak:=U hrow;have a3:=Y hrow (off+i*4+3);rw[c3]at a3;have hc3:¬(3:Int)<=((cnt (n+1) c.sub:Nat):Int):=oM
   have db:cnt (n+1) c.sub<=1000000:=oM
   have bd:Hid (j=min i (hs.length-2)):=by show _=_;rw[hb.1];exact hj
   have dq:2<=hs.length:=by rw[hb.1];exact h2
   have dp:=ak;have M:Hid ((((n+1):Nat):Int)<ck):=by show _<_;omega
   clear df hb hri hq2 hcur hm hj hi al hk1 hq1 hptr c0 c1 c2 b8 h2 hc cf;rw[θ];go_enter func164,ntmps164;go_wp2_with fail;let⟨w0,hw0,ae,hK0⟩:=alA w (ϲ (ϟ E.V r) 89);rw[<-hw0];clear hw0;refine(EB E.O (n+1) q c.sub w0 (RN.qM3 hK0 (Apt.nil _ _) (n+1) q _ HQ) db).mono ?_;have Tz:Hid (∀{p:Prop},(_h:p:=by
    refine zr 10 19 (λK hK=>?_) λK hK=>?_
    focus
     go_simp;refine Env.call (BR E (n+1) x r a ck w1.drew hTd.dev (Env.RL hrx hd hTd) M) hTd ?_;rintro e w2 ⟨s,rfl,hN1,l⟩;have hT2:=hTd.trans l;have bt:=n2 (l.kp.heap (k:=gb) hrow1 (λhm=>E.apt _ hTd.dev _ hm _ _ _ hrow1 dC)) (l.new (k:=w.heap.size) hd (Nat.le_refl _) hB1);have hs2:w1.heap.size<=w2.heap.size:=l.kp.size;refine zk hK bt ?_
     refine zr 18 19 (λK hK=>?_) λK hK=>?_
     focus
      go_simp;refine Env.call (BR E (n+1) y r b ck w2 hT2.dev (Env.RL hry hd hT2) M) hT2 ?_;rintro e w3 ⟨A,rfl,u,f⟩;have ah:=hT2.trans f;have R:=Env.RN hN1 hT2.dev f;have bu:=n2 (f.kp.heap bt.1 (λhm=>E.apt _ hT2.dev _ hm _ _ _ bt.1 dC)) (f.new hd (Nat.le_refl _) bt.2);have hs3:=f.kp.size;refine zk hK bu ?_
      refine zq 19 λK hK=>?_;go_simp;obtain⟨w4,hw4,o,hK4⟩:∃w4,w4=w3.alloc (ϲ ϙ 87)/\w4.heap[w3.heap.size]?=some (ϲ Cf 87)/\Kp [] w3 w4:=⟨_,rfl,μ _ _,(Kp.refl _ _).alloc _⟩;rw[<-hw4];clear hw4;have hT4:=ah.tail hK4;have hS4:=And.intro (hK4.hp bu.1) (hK4.hp bu.2);have Z:=RN.qM3 hK4 (Apt.nil _ _) (n+1) s _ R;have ad:=RN.qM3 hK4 (Apt.nil _ _) (n+1) A _ u;have C:w.heap.size<w3.heap.size:=oM
      refine zk hK hS4 ?_
      clear ah R u hN1 l f hT2 hTd bu bt hK4;generalize w3.heap.size=LB at o C |-
     rotate_left
     focus
      go_simp;obtain⟨w3,hw3,P,V⟩:∃w3,w3=w2.alloc (ϲ ϙ 87)/\w3.heap[w2.heap.size]?=some (ϲ Cf 87)/\Kp [] w2 w3:=⟨_,rfl,μ _ _,(Kp.refl _ _).alloc _⟩;rw[<-hw3];clear hw3;have ah:=hT2.tail V;have bu:=And.intro (V.hp bt.1) (V.hp bt.2);have R:=RN.qM3 V (Apt.nil _ _) (n+1) s _ hN1;have C:w.heap.size<w2.heap.size:=oM
      refine zk hK bu ?_
      refine zq 18 λK hK=>?_;go_simp;refine Env.call (BR E (n+1) y r b ck w3 ah.dev (Env.RL hry hd ah) M) ah ?_;rintro e w4 ⟨A,rfl,u,f⟩;have hT4:=ah.trans f;have Z:=Env.RN R ah.dev f;have ad:=u;have o:=f.new hd (Nat.le_of_lt C) P;have hS4:=n2 (f.kp.heap bu.1 (λhm=>E.apt _ ah.dev _ hm _ _ _ bu.1 dC)) (f.new hd (Nat.le_refl _) bu.2);refine zk hK hS4 ?_
      clear ah R u hN1 l f hT2 hTd bu bt P;generalize w2.heap.size=LB at o C |-
    rotate_left 2
    focus
     go_simp;obtain⟨w2,hw2,b0,hK2⟩:∃w2,w2=(w1.alloc (ϲ ϙ 87)).drew/\w2.heap[w1.heap.size]?=some (ϲ Cf 87)/\Kp [] w1.drew w2:=⟨_,rfl,μ _ _,((Kp.refl _ w1.drew).alloc _)⟩;rw[<-hw2];clear hw2;have hT2:=hTd.tail hK2;have bt:=And.intro (hK2.heap (k:=gb) hrow1 sM) (hK2.heap (k:=w.heap.size) hB1 sM);refine zk hK bt ?_
     refine zq 10 λK hK=>?_;go_simp;refine Env.call (BR E (n+1) x r a ck w2 hT2.dev (Env.RL hrx hd hT2) M) hT2 ?_;rintro e w3 ⟨s,rfl,hN1,l⟩;have ah:=hT2.trans l;have P:=l.new hd (Nat.le_of_lt hs1) b0;have bu:=n2 (l.kp.heap bt.1 (λhm=>E.apt _ hT2.dev _ hm _ _ _ bt.1 dC)) (l.new hd (Nat.le_refl _) bt.2);refine zk hK bu ?_
     refine zq 18 λK hK=>?_;go_simp;refine Env.call (BR E (n+1) y r b ck w3 ah.dev (Env.RL hry hd ah) M) ah ?_;rintro e w4 ⟨A,rfl,u,f⟩;have hT4:=ah.trans f;have Z:=Env.RN hN1 ah.dev f;have ad:=u;have o:=f.new hd (Nat.le_of_lt hs1) P;have hS4:=n2 (f.kp.heap bu.1 (λhm=>E.apt _ ah.dev _ hm _ _ _ bu.1 dC)) (f.new hd (Nat.le_refl _) bu.2);have C:=hs1;refine zk hK hS4 ?_
     clear ah u hN1 l f hT2 hTd bu bt P b0;generalize w1.heap.size=LB at o C |-
    all_goals
     have dd:=U o;have Q:w4.heap[LB]?=some (ϲ ϙ 87):=o;have z0:=Y Q;have fz0:=ρ Q;refine zq 20 λK hK=>?_;go_simp;obtain⟨D,cn,cv,L⟩:∃D,D=(((w4.setCell (ϰ LB 0) (.string x.key)).setCell (ϰ LB 1) (ϊ x.b)).setCell (ϰ LB 2) (.int .u64 x.s)).setCell (ϰ LB 3) (.pointer x.ptr)/\D.heap[LB]?=some (ϲ (ϡ x) 87)/\Kp [LB] w4 D:=
      ⟨_,rfl,(Ez _ _ _ _ Q).1,(Ez _ _ _ _ Q).2⟩
     rw[<-cn];clear cn z0 fz0 Q;have c4:=hT4.store (Nat.le_of_lt C) o dC L;have cw:=RN.qS5 E.pos L (GN o) (n+1) s _ Z;have cx:=RN.qS5 E.pos L (GN o) (n+1) A _ ad;have a0:=And.intro (L.ho hS4.1) (L.ho hS4.2);refine zk hK a0 ?_
     refine zq 21 λK hK=>?_;go_simp;refine zk hK a0 ?_
     refine zq 22 λK hK=>?_;go_simp;refine zk hK a0 ?_
     refine zd ?_;clear a0 hS4 hS0 Z ad hT4 L o dd;let⟨va,a6,t,cl,b4⟩:=cw;let⟨vb,cc,hb,cm,b5⟩:=cx;obtain⟨lv,hlv⟩:∃lv:Int,((n+1:Nat):Int)=lv:=⟨_,rfl⟩;rw[hlv]at a6 cc;have hlv0:¬lv=0:=oM
     have HLV:=zh hlv.symm;have dm:=zh b4.1;have dn:=zh b5.1;clear hlv;obtain⟨F,H,dk⟩:∃F H,va=.slice F t.length H:=by
      rcases cl.val with⟨h0,b,c,h1,_⟩|⟨g,off,cap,cur,fr,h1,_⟩
      .rw[h0];exact⟨b,c,h1⟩
      .exact⟨_,cap,h1⟩
     subst dk;obtain⟨G,I,dl⟩:∃G I,vb=.slice G hb.length I:=by
      rcases cm.val with⟨h0,b,c,h1,_⟩|⟨g,off,cap,cur,fr,h1,_⟩
      .rw[h0];exact⟨b,c,h1⟩
      .exact⟨_,cap,h1⟩
     subst dl;have di:=U a6;have y0:=ϻ a6 0;go_wp2_with fail;clear y0 di;have d:=n3 cv a6 cc;let⟨m,b6⟩:=eX (j+2);have dr:IntKind.i64.wrap ((j:Int)+2)=(m:Int):=by rw[IntKind.wrap_i64];omega
     have cq:=zh b6;clear b6;refine wp_region_held_drew (S:=λW=>W.heap[LB]?=some (ϲ (ϡ x) 87)/\W.heap[s]?=some (Ai lv (.slice none 0 0) (.slice F t.length H))/\W.heap[A]?=some (Ai lv (.slice none 0 0) (.slice G hb.length I))) kR d (λ_=>?_);refine zU 0 (.slice (some (ϰ gb off)) hs.length cp) d ?_;refine zU 1 (ϊ j) d ?_;refine zU 2 (ϊ j) d ?_;refine zU 3 (ϊ m) d ?_;refine zP 4 LB 0 d ?_;refine zV 5 (.string x.key) rfl (λW hS=>by have c:=Y hS.1 0;simp only[zG,zH]at c;clear hS;go_simp) d ?_;refine zP 6 s 0 d ?_;refine zP 7 s 0 d ?_;refine zP 8 s 0 d ?_;refine zV 9 (ϊ lv) rfl (λW hS=>by have c:=ϻ hS.2.1 0;clear hS;go_simp) d ?_;refine zP 10 s 0 d ?_;refine zP 11 s 0 d ?_;refine zP 12 s 2 d ?_;refine zV 13 (.slice F t.length H) rfl (λW hS=>by have c:=ϻ hS.2.1 2;clear hS;go_simp) d ?_;refine zP 14 A 0 d ?_;refine zP 15 A 0 d ?_;refine zP 16 A 2 d ?_;refine zV 17 (.slice G hb.length I) rfl (λW hS=>by have c:=ϻ hS.2.2 2;clear hS;go_simp) d ?_;refine zq 18 λK hK=>?_;go_simp;let⟨w6,co,cu,B⟩:=alF D (ϲ #[.slice F t.length H,.slice G hb.length I] 156);rw[<-co];clear co;have a1:=And.intro (B.hp d.1) (And.intro (B.hp d.2.1) (B.hp d.2.2));have c6:=c4.tail B;refine zk hK a1 ?_
     refine zq 19 λK hK=>?_;go_simp;have b2:Both (RL E.O n D) (t++hb) (J a.sub++J b.sub):=b4.append b5;have de:(t++hb).length<=1000000:=by rw[b2.1];have:=Ca ι (J a.sub++J b.sub) (λx _=>by unfold ι;omega);have:=T.2;omega
     refine(ML D.heap.size [.slice F t.length H,.slice G hb.length I] [t,hb] w6 cu ⟨rfl,λc h1 h2=>?_⟩ (t++hb) sM de sM).mono ?_
     .have hc:c=0\/c=1:=by simp at h1;omega
      rcases hc with rfl|rfl
      .exact cl.qM4 B
      .exact cm.qM4 B
     rintro e w7 ⟨v7,rfl,dh,N⟩;have da:=c6.tail N;have a2:=And.intro (N.hp a1.1) (And.intro (N.hp a1.2.1) (N.hp a1.2.2));refine zk hK a2 ?_
     refine zq 20 λK hK=>?_;go_simp;have cy:RLs E.O n w7 v7 (J a.sub++J b.sub):=⟨t++hb,Cm dh,b2.mono λx y hr=>RL.qM3 hr (B.tr N) (Apt.nil _ _)⟩;refine(GR E.O n lv HLV x.key v7 (J a.sub++J b.sub) w7 cy (by have:=Ca ι (J a.sub++J b.sub) (λx _=>by unfold ι;omega);have:=T.2;omega) T.1 T.2).mono ?_;rintro e w8 ⟨v8,rfl,a7,X⟩;have b1:=da.tail X;have a4:=And.intro (X.hp a2.1) (And.intro (X.hp a2.2.1) (X.hp a2.2.2));refine zk hK a4 ?_
     refine zq 21 λK hK=>?_;go_simp;have dc:=hrx.1;rw[dc]at a7;have cz:RLs E.O (n+1) w8 v8 (Bf (n+1) a.key a.sub b.sub):=a7;let⟨bl,dj,a9⟩:=cz;have dg:bl.length<=10000:=by
      rw[a9.1];have:(Bf (n+1) a.key a.sub b.sub).length<=2:=by show(links _ _ _).length<=2;rw[OK];unfold Aq;split<;>simp
      omega
     have b7:=cq.out;have ce:=HK.out;have cs:=hsl.qM3 b1.kp ((E.apt w hd).sub dC);refine(Ig _ v8 hs bl j m w8 cs dj oM oM oM hhl dg).mono ?_;rintro e w9 ⟨v9,rfl,bs,O⟩;rw[b7]at bs;clear b7 ce;have a5:=b1.tail O;have a8:=And.intro (O.hp a4.1) (And.intro (O.hp a4.2.1) (O.hp a4.2.2));have b3:Both (RL E.O (n+1) w9) (hs.take j++bl++hs.drop (j+2)) (ls.take j++Bf (n+1) a.key a.sub b.sub++ls.drop (j+2)):=
      (((HB.take j).mono λx y hr=>Env.RL hr hd a5).append (a9.mono λx y hr=>RL.qM3 hr O (Apt.nil _ _))).append ((HB.drop (j+2)).mono λx y hr=>Env.RL hr hd a5)
     refine zk hK a8 ?_
     refine zq 22 λK hK=>?_;go_simp;refine zk hK a8 ?_
     refine zd ?_;have cr:Hid (RLs E.O (n+1) w9 v9 (Av (n+1) ls i)):=by
      show RLs E.O (n+1) w9 v9 (Av (n+1) ls i);rw[HM.out];exact⟨_,bs,b3⟩
     have ct:=zh a5;clear a8 bs b3 a9 a5 a7;go_wp2;go_ret;exact .inr ⟨v9,rfl,cr,ct⟩)->p):=λh=>h;exact zS1
  .rw[b8]at hx;cases hx)->p):=λh=>h;exact QK
def qK2(E:Env)(r h:HL)(l:Lnk (Tn 0))(q:Nat)(k:Ϧ)(w:Ϣ)(V:E.Dev w)(ac:h.key=l.key)(hN:RN E.O 0 w q l.sub)(B:Good 0 l.key l.sub)(ae:∃q∈cont 0 l.sub,q.k=k):
  Ω 104 #[θ E.V r,Aw h,ϖ q,ϕ k] w λe w'=>∃v',e=ϱ v'/\RLs E.O 0 w' v' (Ax 0 l k)/\E.To w w':=by
 have ar:(prs l.sub).length<=10000:=Ch 0 l.key l.sub B;have L:Sorted (prs l.sub):=B.sorted;have p:=(JB L k).2 ae;have au:Ah (prs l.sub) k<(prs l.sub).length:=by
  unfold Bo at p;by_cases h:Ah (prs l.sub) k<(prs l.sub).length
  .exact h
  .rw[gN oM]at p;cases p
 let⟨f,s⟩:=eY ((prs l.sub).take (Ah (prs l.sub) k)++[]++(prs l.sub).drop (Ah (prs l.sub) k+1));have X:f=del k (prs l.sub):=by rw[<-s,aN];exact(MT L p).symm
 have Z:qM2 ζ f<=210:=by
  have m:=Da ζ (prs l.sub) (Ah (prs l.sub) k);have N:=Da ζ ((prs l.sub).drop (Ah (prs l.sub) k)) 1;have h3:qM2 ζ (prs l.sub)<=126:=B.fits;rw[List.drop_drop]at N;rw[<-s,AL,AL,AJ];omega
 have ai:∀q∈f,ζ q<=21:=by
  intro q d;rw[X]at d;let⟨⟨m,N,h3⟩,_⟩:=B.all q (Ht.1 d).1;unfold ζ;omega
 have ak:Ax 0 l k=AI l.key f:=by rw[<-s,aN];rfl
 have al:=zh ac;have HD:=zh V;have C:=zh (n2 Z ai);have an:=zh ak;have M:=zh s;let⟨vp,d,ah⟩:=hN;have av:=U d;have aw:q<w.heap.size+1:=oM
 have ax:q<w.heap.size+1+1:=oM
 have q0:=ϻ d 0;clear V ac Z ai ak X s p ae;rw[θ,Aw];go_enter func104,ntmps104;go_wp2_with fail;let⟨w1,aj,ao,O,v,ay⟩:=alC w (ϲ (ϟ E.V r) 89) (ϲ (ϡ h) 87)
 rw[<-aj];clear aj ao ay q0 av aw ax;have Q:=Env.To.of0 HD v;have G:=v.hp d;have I:=ah.qM4 v;clear d ah;refine(KS q 0 vp _ (prs l.sub) k w1 G I oM L).mono ?_;rintro e w2 ⟨rfl,n⟩;have ap:=Q.tail n;have ad:=n.hp G;have af:=I.qM4 n;have P:=n.hp O;clear n G I O Q v;obtain⟨t,u,hv⟩:∃t u,vp=.slice t (prs l.sub).length u:=by
  rcases af.val with⟨h0,b,c,m,_⟩|⟨g,az,cap,cur,fr,m,_⟩
  .rw[h0];exact⟨b,c,m⟩
  .exact⟨_,cap,m⟩
 subst hv;let⟨i,aa⟩:=eY (Ah (prs l.sub) k);rw[aa]at au M |-;clear aa;go_wp2_with fail;let⟨j,hj⟩:=eX (i+1);have:IntKind.i64.wrap ((i:Int)+1)=(j:Int):=by rw[wK];omega
 have HJ:=zh hj;clear hj;have a:=n2 ad P;refine wp_region_held_drew (S:=λW=>Ϙ W q (Ai 0 (.slice t (prs l.sub).length u) (.slice none 0 0))/\W.heap[w.heap.size+1]?=some (ϲ (ϡ h) 87)) kR a (λ_=>?_);refine zU 0 (ϖ (w.heap.size+1)) a ?_;refine zV 1 (.string h.key) rfl (λW o=>by have c:=Y o.2 0;simp at c;clear o;go_simp) a ?_;refine zP 2 q 0 a ?_;refine zP 3 q 0 a ?_;refine zP 4 q 1 a ?_;refine zV 5 (.slice t (prs l.sub).length u) rfl (λW o=>by have c:=Y o.1 1;simp[Ai]at c;clear o;go_simp) a ?_;refine zU 6 (ϊ i) a ?_;refine zU 7 (ϊ i) a ?_;refine zU 8 (ϊ j) a ?_;refine zq 9 λK hK=>?_;go_simp;have T:=ap.tail (kF.drew);have ag:Slc w2.drew 185 2 (.slice none 0 0) ([]:List KV).length (Aa []):=⟨rfl,.inl ⟨rfl,_,_,rfl,λ_=>rfl⟩⟩;have ab:=HJ.out;refine(KE _ _ (prs l.sub) [] i j w2.drew (af.qM4 ((Kp.refl [] _).drew)) ag oM oM oM ar sM).mono ?_;rintro e w4 ⟨v4,rfl,H,y⟩;rw[ab,M.out]at H;clear ab;have R:=T.tail y;have A:=And.intro (y.heap (k:=q) ad sM) (y.heap (k:=w.heap.size+1) P sM);refine hK.out _ _ A (λ_=>?_);clear hK K y ag T a
 try simp only[zZ]
 refine zq 10 λK hK=>?_;go_simp;refine(FX E.O h.key v4 f w4 H (by have:=Ca ζ f (λx _=>by unfold ζ;omega);have:=C.out.1;omega) C.2 C.1).mono ?_;rintro e w5 ⟨v5,rfl,D,z⟩;have aq:=R.tail z;have F:=And.intro (z.hp A.1) (z.hp A.2);refine hK.out _ _ F (λ_=>?_);clear hK K A z R
 try simp only[zZ]
 refine zq 11 λK hK=>?_;go_simp;refine hK.out _ _ F (λ_=>?_);refine zd ?_;rw[al.out,<-an.out]at D;have am:=zh D;clear F D H;go_wp2;go_ret;exact⟨v5,rfl,am,aq⟩
def Xf{a b:Lnk (Tn 0)}(e:Good 0 a.key a.sub)(f:Good 0 b.key b.sub)(g:cnt 0 a.sub<=2\/cnt 0 b.sub<=2):(∀x∈prs a.sub++prs b.sub,ζ x<=21)/\qM2 ζ (prs a.sub++prs b.sub)<=210:=by
 have d:∀x∈prs a.sub++prs b.sub,ζ x<=21:=λp c=>by
  have h:AD p:=by
   rcases mA c with c|c
   .exact (e.all p c).1
   .exact (f.all p c).1
  let⟨i,j,k⟩:=h;unfold ζ;omega
 refine⟨d,?_⟩;rw[AL];have:=CZ ζ 21 (prs a.sub) λp c=>d p (List.mem_append_left _ c);have:=CZ ζ 21 (prs b.sub) λp c=>d p (List.mem_append_right _ c);have:qM2 ζ (prs a.sub)<=126:=e.fits;have:qM2 ζ (prs b.sub)<=126:=f.fits;have:(prs a.sub).length<=2\/(prs b.sub).length<=2:=g;omega
def Xe{n:Nat}{a b:Lnk (Tn (n+1))}(e:Good (n+1) a.key a.sub)(f:Good (n+1) b.key b.sub)(g:cnt (n+1) a.sub<=2\/cnt (n+1) b.sub<=2):(∀x∈J a.sub++J b.sub,ι x<=21)/\qM2 ι (J a.sub++J b.sub)<=210:=by
 have d:∀x∈J a.sub++J b.sub,ι x<=21:=λp c=>by
  have:p.key.size<=8:=by
   rcases mA c with c|c
   .exact (e.all p c).2.2
   .exact (f.all p c).2.2
  unfold ι;omega
 refine⟨d,?_⟩;rw[AL];have:=CZ ι 21 (J a.sub) λp c=>d p (List.mem_append_left _ c);have:=CZ ι 21 (J b.sub) λp c=>d p (List.mem_append_right _ c);have:qM2 ι (J a.sub)<=126:=e.fits;have:qM2 ι (J b.sub)<=126:=f.fits;have:(J a.sub).length<=2\/(J b.sub).length<=2:=g;omega
def Yj(E:Env)(n:Nat)(b:Int)(F:(n:Int)<b)(G:n<=100000)(r:HL)(v:Value)(ls:List (Lnk (Tn n)))(i:Nat)(c:Lnk (Tn n))(w:Ϣ)(d:E.Dev w)(m:RLs E.O n w v ls)(f:ls[i]?=some c)(g:ls.length<=10000)(k:c.ref=none)(C:cnt n c.sub<=10000)(t:2<=ls.length)(x:∀l∈ls,Good n l.key l.sub):
  E.C 164 #[θ E.V r,v,ϊ b,ϊ i] w λe w'=>∃v',e=ϱ v'/\RLs E.O n w' v' (Av n ls i)/\E.To w w':=by
 let⟨D,a⟩:=gS f;by_cases B:3<=cnt n c.sub
 .exact .of (Yk E n b r v ls i w d m D g (by rw[a];exact k) (by rw[a];exact B) (by rw[a];exact C))
 .let⟨j,y⟩:=eX (min i (ls.length-2));have z:j<ls.length:=oM
  have A:j+1<ls.length:=oM
  have o:=gQ z;have p:=gQ A;have q:=x ls[j] (gM z);have s:=x ls[j+1] (gM A);have u:cnt n ls[j].sub<=2\/cnt n ls[j+1].sub<=2:=by
   by_cases h:i=j
   .subst h;left;rw[a];omega
   .have:i=j+1:=oM
    subst this;right;rw[a];omega
  cases n with
  | zero=>exact Yg E b oM r v ls i j (j+1) c ls[j] ls[j+1] w d m f g k oM t o p rfl y (Xf q s u)
  | succ n=>exact Yf E n b oM r v ls i j (j+1) c ls[j] ls[j+1] w d m f g k oM t o p rfl y (Xe q s u) oM
def qK4{n:Nat}{l:Lnk (Tn (n+1))}{k:Ϧ}(h:Good (n+1) l.key l.sub)(Q:kl k l.key=false)(hz:l.key.size<=8)(g:∃q∈cont (n+1) l.sub,q.k=k)(O:1<cnt (n+1) l.sub):
  ∃(m:Lnk (Tn n)) (j:List (Lnk (Tn n))),(J l.sub)[Af (J l.sub) k]?=some m/\j=(J l.sub).take (Af (J l.sub) k)++Ax n m k++(J l.sub).drop (Af (J l.sub) k+1)/\
   Good n m.key m.sub/\kl k m.key=false/\m.key.size<=8/\(∃q∈cont n m.sub,q.k=k)/\3<=cnt n m.sub/\(Ax n m k).length<=2/\
   (∀x∈j,Good n x.key x.sub)/\2<=j.length/\(∃c,j[Af (J l.sub) k]?=some c/\c.ref=none)/\(∀x∈Av n j (Af (J l.sub) k),ι x<=21)/\qM2 ι (Av n j (Af (J l.sub) k))<=210/\
   Ax (n+1) l k=AA n l.key (Av n j (Af (J l.sub) k)):=by
 have z:1<(J l.sub).length:=O;have H:=h.row;let⟨A,m,B,e,p,F,R,S⟩:=Gy (k:=k) H (by intro e;rw[e]at z;simp at z) Q;have s:=λx d=>h.all x (by show x∈J l.sub;rw[e];exact d);have r:=s m sM;have T:=λb t q g=>CX (S b t) ((Cq n b.key b.sub (s b (by simp[t])).1).2 q g).2;have G:∃q∈cont n m.sub,q.k=k:=by
  let⟨q,g,v⟩:=g;have g:q∈(J l.sub).flatMap (λl=>cont n l.sub):=g;rw[e]at g;let⟨x,d,y⟩:=mF g;rcases mA d with d|d
  .exact absurd v (BM (R x d q y))
  .rcases List.mem_cons.1 d with rfl|d
   .exact⟨q,y,v⟩
   .exact absurd v.symm (BM (T x d q y))
 let⟨M,W,o⟩:=Fs n m k r.1 F r.2.2 G oM;have V:∀w∈Ax n m k,1<=cnt n w.sub:=by
  rcases o with⟨a,f,_,_,e4⟩|⟨a,b,f,_,_,_,e5,e6⟩
  .rw[f];intro w i;rw[mS i];omega
  .rw[f];intro w i;simp[mC,lN,or_false]at i;rcases i with rfl|rfl<;>omega
 have I:Row0 n l.key (A++m::B):=by rw[<-e];exact H
 have K:=Ii I M o.ne V (λw i q g b t=>by
  have:q∈(Ax n m k).flatMap (λl=>cont n l.sub):=List.mem_flatMap.2 ⟨w,i,g⟩;rw[W]at this;exact((pC (pA I.pair).2.1).1 b t).2 q (Ht.1 this).1)
 have ac:=o.qM2 (λw i=>(M.all w i).2);have P:qM2 ι (A++m::B)<=126:=by have C:qM2 ι (J l.sub)<=126:=h.fits;rw[e]at C;exact C
 have ad:qM2 ι (A++Ax n m k++B)<=145:=by
  rw[AL,AL];rw[AL,Au]at P;omega
 have aa:1<=(Ax n m k).length:=List.length_pos_iff.2 o.ne;have ab:(J l.sub).length<=(A++Ax n m k++B).length:=by rw[e];simp;omega
 let⟨N,X,Z,d4,d5⟩:=OT (m:=m) K (λx d=>(s x (by simp[d])).2.1) (λx d=>(s x (by simp[d])).2.1) o r.2.1 oM;have E:(J l.sub)[Af (J l.sub) k]?=some m:=by rw[<-p,e];simp
 have L:(J l.sub).take (Af (J l.sub) k)=A:=by rw[<-p,e];simp
 have D:(J l.sub).drop (Af (J l.sub) k+1)=B:=by
  rw[<-p,e,show A++m::B=(A++[m])++B by simp];exact List.drop_left' sM
 have i:Ax (n+1) l k=AA n l.key (Av n (A++Ax n m k++B) (Af (J l.sub) k)):=by
  show(match (J l.sub)[Af (J l.sub) k]? with
   | some m=>AA n l.key (Av n ((J l.sub).take (Af (J l.sub) k)++Ax n m k++(J l.sub).drop (Af (J l.sub) k+1)) (Af (J l.sub) k))
   | none=>[])=_
  rw[E,L,D]
 refine⟨m,A++Ax n m k++B,E,by rw[L,D],r.1,F,r.2.2,G,r.2.1,?_,λx d=>(K.all x d).1,oM,?_,?_,?_,i⟩
 .rcases o with⟨a,f,_⟩|⟨a,b,f,_⟩<;>rw[f]<;>simp
 .rw[<-p];rcases o with⟨a,f,_,u,_⟩|⟨a,b,f,_,u,_⟩
  .exact⟨a,by rw[f];simp,u⟩
  .exact⟨a,by rw[f];simp,u⟩
 .rw[<-p];intro x d;have:=(N.all x d).2;unfold ι;omega
 .rw[<-p];omega
def qK1(E:Env)(n:Nat)
  (ih:∀(r h:HL) (l:Lnk (Tn n)) (q:Nat) (k:Ϧ) (w:Ϣ),E.Dev w->h.key=l.key->RN E.O n w q l.sub->Good n l.key l.sub->kl k l.key=false->l.key.size<=8->(∃q∈cont n l.sub,q.k=k)->min n 1<cnt n l.sub->E.C 104 #[θ E.V r,Aw h,ϖ q,ϕ k] w λe w'=>∃v',e=ϱ v'/\RLs E.O n w' v' (Ax n l k)/\E.To w w')
  (hn:n<=100000) (r h:HL) (l:Lnk (Tn (n+1))) (q:Nat) (k:Ϧ) (w:Ϣ) (hd:E.Dev w) (bq:h.key=l.key) (hN:RN E.O (n+1) w q l.sub) (hg:Good (n+1) l.key l.sub) (hk:kl k l.key=false) (hz:l.key.size<=8) (bt:∃q∈cont (n+1) l.sub,q.k=k) (hc:1<cnt (n+1) l.sub):
  E.C 104 #[θ E.V r,Aw h,ϖ q,ϕ k] w λe w'=>∃v',e=ϱ v'/\RLs E.O (n+1) w' v' (Ax (n+1) l k)/\E.To w w':=by
 have ck:(J l.sub).length<=10000:=(Ch (n+1) l.key l.sub hg).1;let⟨m,z,hgm,hnw,m1,m2,m3,m4,m5,m6,n1,n2,⟨c,n3,n4⟩,n5,n6,n7⟩:=qK4 hg hk hz bt hc;have br:=hg.pair;let⟨i,af⟩:=eY (Af (J l.sub) k);rw[af]at hgm hnw n3 n5 n6 n7;have cq:z.length<=10000:=by
  have:=Ca ι (Av n z i) (λx _=>by unfold ι;omega);have:(J l.sub).length<=126:=by
   have:=Ca ι (J l.sub) (λx _=>by unfold ι;omega);have:qM2 ι (J l.sub)<=126:=hg.fits;omega
  rw[hnw];simp only[List.length_append,List.length_take,List.length_drop];omega
 have bn:cnt n c.sub<=10000:=by
  have gc:=n1 c (List.mem_of_getElem? n3)
  cases n with
  | zero=>exact Ch 0 c.key c.sub gc
  | succ n=>exact(Ch (n+1) c.key c.sub gc).1
 have cn:i<(J l.sub).length:=(List.getElem?_eq_some_iff.1 hgm).1;let⟨ls,ag⟩:=eY (J l.sub);rw[ag]at hgm hnw ck af cn;have ca:=zh ag;have b7:=zh af;have b6:=zh hgm;have cb:=zh hnw;have HN:Hid ((∀x∈z,Good n x.key x.sub)/\2<=z.length/\z[i]?=some c/\c.ref=none):=⟨n1,n2,n3,n4⟩;have HF:Hid ((∀x∈Av n z i,ι x<=21)/\qM2 ι (Av n z i)<=210):=⟨n5,n6⟩;have ch:=zh n7;have cc:Hid (ls.Pairwise (DG n)):=by show List.Pairwise _ _;rw[<-ag];exact br
 have R:Hid (Good n m.key m.sub/\kl k m.key=false/\m.key.size<=8/\(∃q∈cont n m.sub,q.k=k)/\3<=cnt n m.sub):=⟨m1,m2,m3,m4,m5⟩;have b9:=zh bq;have F:=zh hd;have b5:=zh bn;have cg:=zh m6;have b8:=ih;clear hd bq hg hk hz bt hc hgm hnw n1 n2 n3 n4 n5 n6 n7 m1 m2 m3 m4 m5 m6 br ag af bn ih;let⟨vl,hq,a,ar,M⟩:=hN;rw[ca.out]at M;have a4:=zh M.1;have:i<a.length:=by have:=a4.out;omega
 have cm:a.length<=10000:=by have:=a4.out;omega
 obtain⟨B,p,A,cur,fr,rfl,cu,bv,bo⟩:=ar.link oM;let⟨x,_,bx,c0,c1,c2,c3⟩:=Gq M bo b6.out;obtain⟨f,an⟩:∃f:Int,((n+1:Nat):Int)=f:=⟨_,rfl⟩;rw[an]at hq;have ai:=zh an.symm;have:¬f=0:=oM
 have HB:=zh M;have a5:=zh bx;have bu:Rise a:=Gn M cc.out;have b4:a.findIdx (λl=>kl k l.key)-1=i:=by rw[Lm M];exact b7
 have cr:=U hq;have cs:q<w.heap.size+1:=oM
 have aq:q<w.heap.size+1+1:=oM
 have q0:=ϻ hq 0;clear bo M an bx;rw[θ,Aw];go_enter func104,ntmps104;go_wp2_with fail;let⟨w1,b2,a9,bc,H,ct⟩:=alC w (ϲ (ϟ E.V r) 89) (ϲ (ϡ h) 87)
 rw[<-b2];clear b2;have bg:=Env.To.of0 F H;have ao:=H.hp hq;have au:=ar.qM4 H;have bw:=H.hp bv;have ax:Hid (Both (RL E.O n w1) a ls):=HB.out.mono λx y v=>RL.qM3 v H (Apt.nil _ _);have a6:Hid (RL E.O n w1 x m):=RL.qM3 a5 H (Apt.nil _ _);clear hq ar bv HB a5 q0 cr cs aq H;have aw:=Ln q _ _ _ a k w1 ao au oM bu;rw[b4]at aw;refine aw.mono ?_;rintro e w2 ⟨rfl,C⟩;have bh:=bg.tail C;have ah:=C.hp ao;have b0:=au.qM4 C;have ba:=C.hp a9;have bd:=C.hp bc;have O:=C.hp bw;have av:w.heap.size<=w2.heap.size:=by have:=C.size;omega
 have ay:Hid (Both (RL E.O n w2) a ls):=ax.out.mono λx y v=>RL.qM3 v C (Apt.nil _ _);have a7:Hid (RL E.O n w2 x m):=RL.qM3 a6 C (Apt.nil _ _);clear C ao au bc bg a9 bw aw b4 bu ax a6 ct;have aq:=U ah;have cl:=U O;have a0:=Y O (p+i*4);rw[c0]at a0;have a1:=Y O (p+i*4+1);rw[c1]at a1;have a2:=Y O (p+i*4+2);rw[c2]at a2;have a3:=Y O (p+i*4+3);rw[c3]at a3;have q2:=ϻ ah 2;go_wp2_with fail;let⟨d,b3,al,G⟩:=alA w2 (ϲ (ϡ x) 87);rw[<-b3];clear b3;have u:=bh.tail G;have bs:=G.hp ah;have ae:=b0.qM4 G;have V:=G.hp bd;have Q:Hid (Both (RL E.O n d) a ls):=ay.out.mono λx y v=>RL.qM3 v G (Apt.nil _ _);have a8:Hid (RL E.O n d x m):=RL.qM3 a7 G (Apt.nil _ _);let⟨X,bm⟩:=eY w2.heap.size;rw[bm]at al av |-;have b:d.heap[q]?=some (Ai f (.slice none 0 0) (.slice (some (ϰ B p)) a.length A))/\d.heap[w.heap.size]?=some (ϲ (ϟ E.V r) 89)/\d.heap[X]?=some (ϲ (ϡ x) 87):=⟨bs,G.hp ba,al⟩;clear ah b0 bd ba O G al ay a7 bh a0 a1 a2 a3 q2 aq cl bm c0 c1 c2 c3 bs;let⟨j,hj⟩:=eX (i+1);have:IntKind.i64.wrap ((i:Int)+1)=(j:Int):=by rw[IntKind.wrap_i64];omega
 have HJ:=zh hj;clear hj;refine wp_region_held_drew (S:=λW=>W.heap[q]?=some (Ai f (.slice none 0 0) (.slice (some (ϰ B p)) a.length A))/\W.heap[w.heap.size]?=some (ϲ (ϟ E.V r) 89)/\W.heap[X]?=some (ϲ (ϡ x) 87)) kR b (λ_=>?_);refine zP 0 q 0 b ?_;refine zP 1 q 0 b ?_;refine zP 2 q 2 b ?_;refine zV 3 (.slice (some (ϰ B p)) a.length A) rfl (λW o=>by have c:=Y o.1 2;simp[Ai]at c;clear o;go_simp) b ?_;refine zU 4 (ϊ i) b ?_;refine zU 5 (ϊ i) b ?_;refine zU 6 (ϊ j) b ?_;refine zW 7 (.agg (ϟ E.V r)) b (·.2.1) ?_;refine zW 8 (.agg (ϡ x)) b (·.2.2) ?_;refine zW 9 (.agg (ϟ E.V r)) b (·.2.1) ?_;refine zW 10 (.agg (ϡ x)) b (·.2.2) ?_;refine zP 11 q 0 b ?_;refine zP 12 q 0 b ?_;refine zP 13 q 0 b ?_;refine zV 14 (ϊ f) rfl (λW o=>by have c:=Y o.1 0;simp[Ai]at c;clear o;go_simp) b ?_;refine zU 16 (.string k) b ?_;refine zq 15 λK hK=>?_;go_simp;have L:E.To w d.drew:=u.tail ((Kp.refl _ _).drew);have bl:RL E.O n d.drew x m:=RL.qM3 a8 ((Kp.refl [] _).drew) (Apt.nil _ _);refine Env.call (BR E n x r m f d.drew L.dev bl (by have:=ai.out;omega)) L ?_;rintro e s ⟨q4,rfl,be,D⟩;have N:=L.trans D;have t:s.heap[q]?=some (Ai f (.slice none 0 0) (.slice (some (ϰ B p)) a.length A))/\s.heap[w.heap.size]?=some (ϲ (ϟ E.V r) 89)/\s.heap[X]?=some (ϲ (ϡ x) 87):=
  ⟨D.kp.heap (k:=q) b.1 (λhm=>E.apt _ L.dev _ hm _ _ _ b.1 dC),D.new (k:=w.heap.size) F oM b.2.1,D.new (k:=X) F av b.2.2⟩
 have P:Slc s 87 4 (.slice (some (ϰ B p)) a.length A) a.length (Ag a):=Slc.qM3 (w:=d.drew) (ae.qM4 ((Kp.refl [] _).drew)) D.kp ((E.apt _ L.dev).sub dC);have Z:=D.new (k:=w.heap.size+1) F oM V;have az:Hid (Both (RL E.O n s) a ls):=Q.out.mono λx y v=>Env.RL (RL.qM3 v ((Kp.refl [] d).drew) (Apt.nil _ _)) L.dev D;refine hK.out _ _ t (λ_=>?_);clear hK K b L bl ae Q D u V
 try simp only[zZ]
 refine zq 17 λK hK=>?_;go_simp;refine Env.call (b8 r x m q4 k s N.dev a8.1 be R.1 R.2.1 R.2.2.1 R.2.2.2.1 (by have:=R.out.2.2.2.2;omega)) N ?_;rintro e d ⟨v3,rfl,ci,u⟩;have bi:=N.trans u;have aa:d.heap[q]?=some (Ai f (.slice none 0 0) (.slice (some (ϰ B p)) a.length A))/\d.heap[w.heap.size]?=some (ϲ (ϟ E.V r) 89)/\d.heap[X]?=some (ϲ (ϡ x) 87):=
  ⟨u.kp.heap (k:=q) t.1 (λhm=>E.apt _ N.dev _ hm _ _ _ t.1 dC),u.new (k:=w.heap.size) F oM t.2.1,u.new (k:=X) F av t.2.2⟩
 have V:=u.new (k:=w.heap.size+1) F oM Z;have ae:Slc d 87 4 (.slice (some (ϰ B p)) a.length A) a.length (Ag a):=Slc.qM3 P u.kp ((E.apt _ N.dev).sub dC);have Q:Hid (Both (RL E.O n d) a ls):=az.out.mono λx y v=>Env.RL v N.dev u;refine hK.out _ _ aa (λ_=>?_);clear hK K t P az be Z
 try simp only[zZ]
 refine zq 18 λK hK=>?_;go_simp;let⟨bz,b1,am⟩:=ci;have co:bz.length<=10000:=by rw[am.1];have:=cg.out;omega
 have bp:=HJ.out;refine(Ig _ v3 a bz i j d ae b1 oM oM oM cm co).mono ?_;rintro e s ⟨v4,rfl,P,I⟩;rw[bp]at P;clear bp;have D:=bi.tail I;have bf:RLs E.O n s v4 z:=by
  rw[cb.out];exact⟨_,P,(((Q.take i).append am).append (Q.drop (i+1))).mono λx y v=>RL.qM3 v I (Apt.nil _ _)⟩
 have cd:=zh bf;have t:=And.intro (I.hp aa.1) (And.intro (I.hp aa.2.1) (I.hp aa.2.2));have Z:=I.hp V;refine hK.out _ _ t (λ_=>?_);clear hK K aa I ae bi u bf P am b1 V
 try simp only[zZ]
 refine zq 19 λK hK=>?_;go_simp;refine hK.out _ _ t (λ_=>?_);refine zd ?_;have ap:=t.1;have bb:=t.2.1;clear t;go_wp2_with fail;have g:s.heap[q]?=some (Ai f (.slice none 0 0) (.slice (some (ϰ B p)) a.length A))/\s.heap[w.heap.size]?=some (ϲ (ϟ E.V r) 89)/\s.heap[w.heap.size+1]?=some (ϲ (ϡ h) 87):=⟨ap,bb,Z⟩;refine wp_region_held_drew (S:=λW=>W.heap[q]?=some (Ai f (.slice none 0 0) (.slice (some (ϰ B p)) a.length A))/\W.heap[w.heap.size]?=some (ϲ (ϟ E.V r) 89)/\W.heap[w.heap.size+1]?=some (ϲ (ϡ h) 87)) kR g (λ_=>?_);refine zU 0 (ϖ (w.heap.size+1)) g ?_;refine zV 1 (.string h.key) rfl (λW o=>by have c:=Y o.2.2 0;simp at c;clear o;go_simp) g ?_;refine zP 2 q 0 g ?_;refine zP 3 q 0 g ?_;refine zP 4 q 0 g ?_;refine zV 5 (ϊ f) rfl (λW o=>by have c:=Y o.1 0;simp[Ai]at c;clear o;go_simp) g ?_;refine zW 6 (.agg (ϟ E.V r)) g (·.2.1) ?_;refine zU 7 v4 g ?_;refine zP 8 q 0 g ?_;refine zP 9 q 0 g ?_;refine zP 10 q 0 g ?_;refine zV 11 (ϊ f) rfl (λW o=>by have c:=Y o.1 0;simp[Ai]at c;clear o;go_simp) g ?_;refine zU 12 (ϊ i) g ?_;refine zq 13 λK hK=>?_;go_simp;have ad:E.To w s.drew:=D.tail ((Kp.refl _ _).drew);refine Env.call (Yj E n f (by have:=ai.out;omega) hn r v4 z i c s.drew ad.dev (RLs.qM3 cd ((Kp.refl [] _).drew) (Apt.nil _ _)) HN.2.2.1 cq HN.2.2.2 b5 HN.2.1 HN.1) ad ?_;rintro e w6 ⟨v6,rfl,cj,ac⟩;have bj:=ad.trans ac;have ab:w6.heap[q]?=some (Ai f (.slice none 0 0) (.slice (some (ϰ B p)) a.length A))/\w6.heap[w.heap.size]?=some (ϲ (ϟ E.V r) 89)/\w6.heap[w.heap.size+1]?=some (ϲ (ϡ h) 87):=
  ⟨ac.kp.heap (k:=q) ap (λhm=>E.apt _ ad.dev _ hm _ _ _ ap dC),ac.new (k:=w.heap.size) F oM bb,ac.new (k:=w.heap.size+1) F oM Z⟩
 refine hK.out _ _ ab (λ_=>?_);clear hK K g ad ac
 try simp only[zZ]
 refine zq 14 λK hK=>?_;go_simp;refine(GR E.O n f ai h.key v6 (Av n z i) w6 cj (by have:=Ca ι (Av n z i) (λx _=>by unfold ι;omega);have:=HF.out.2;omega) HF.1 HF.2).mono ?_;rintro e w7 ⟨v7,rfl,aj,T⟩;have bk:=bj.tail T;have ak:=And.intro (T.hp ab.1) (And.intro (T.hp ab.2.1) (T.hp ab.2.2));refine hK.out _ _ ak (λ_=>?_);clear hK K ab T bj
 try simp only[zZ]
 refine zq 15 λK hK=>?_;go_simp;refine hK.out _ _ ak (λ_=>?_);refine zd ?_;rw[b9.out,<-ch.out]at aj;have ce:=zh aj;have cf:=zh bk;clear ak aj bk;go_wp2;go_ret;exact .inr ⟨v7,rfl,ce,cf⟩
def qK3(E:Env):∀(n:Nat),n<=100000->∀(r h:HL) (l:Lnk (Tn n)) (q:Nat) (k:Ϧ) (w:Ϣ),E.Dev w->h.key=l.key->RN E.O n w q l.sub->Good n l.key l.sub->kl k l.key=false->l.key.size<=8->(∃q∈cont n l.sub,q.k=k)->min n 1<cnt n l.sub->
  E.C 104 #[θ E.V r,Aw h,ϖ q,ϕ k] w λe w'=>∃v',e=ϱ v'/\RLs E.O n w' v' (Ax n l k)/\E.To w w':=by
 intro n
 induction n with
 | zero=>
  intro _ r h l q k w b f a c g _ d _;exact .of (qK2 E r h l q k w b f a c d)
 | succ n ih=>
  intro m r h l q k w b f a c g i d j;exact qK1 E n (ih oM) oM r h l q k w b f a c g i d oM
def Ny{n:Nat}{lo}{t}(h:Good n lo t):cnt n t<=10000:=by
 cases n with
 | zero=>exact Ch 0 lo t h
 | succ n=>exact(Ch (n+1) lo t h).1
def Lh(E)(n:Nat)(I:n<=100000)(r)(v)(l)(d:Nat)(W)(w)(p:E.Dev w)(q:RLs E.O n w v W)(z:Row0 n l.key W)(D:Made n l d W)(F:min n 1<cnt n l.sub)(M:d<=1):
  Ω 103 #[θ E.V r,v] w λe w'=>∃h,e=ϱ (θ E.V h)/\RR E w' h (AR n W)/\E.To w w':=by
 rcases D with⟨a,rfl,C,k,A⟩|⟨a,b,rfl,C,k,A,K,L⟩
 .have o:=(z.all a sM).1
  cases n with
  | zero=>
   by_cases u:cnt 0 a.sub=0
   .apply (qI5 E r v a w p q k u).mono;rintro e w' ⟨f,c⟩;refine⟨_,f,?_,c⟩;have g:prs a.sub=[]:=List.length_eq_zero_iff.1 u;have i:AR 0 [a]=.none:=by
     show(match prs a.sub with | []=>Root.none | _::_=>.at 0 a)=_;rw[g]
    rw[i];rfl
   .apply (Qn E 0 r v a w p q k oM (Ny o)).mono;rintro e w' ⟨h,f,c,j⟩;refine⟨h,f,?_,j⟩;have i:AR 0 [a]=.at 0 a:=by
     show(match prs a.sub with | []=>Root.none | _::_=>.at 0 a)=_
     cases g:prs a.sub with
     | nil=>exact absurd (show cnt 0 a.sub=0 from by show(prs a.sub).length=0;rw[g];rfl) u
     | cons x r=>rfl
    rw[i];exact c
  | succ n=>
   have:1<(J l.sub).length:=by have c:min (n+1) 1<(J l.sub).length:=F;omega
   have B:(J l.sub).length<=(J a.sub).length+d:=A
   cases g:J a.sub with
   | nil=>rw[g]at B;simp at B;omega
   | cons x t=>
    cases t with
    | nil=>
     apply(qI6 E n r v a x w p q k g).mono;rintro e w' ⟨h,f,c,j⟩;refine⟨h,f,?_,j⟩;have i:AR (n+1) [a]=.at n x:=by
      show(match J a.sub with | []=>Root.none | [m]=>.at n m | _::_::_=>.at (n+1) a)=_;rw[g]
     rw[i];exact c
    | cons y t=>
     have G:min (n+1) 1<cnt (n+1) a.sub:=by show min (n+1) 1<(J a.sub).length;rw[g];simp
     refine(Qn E (n+1) r v a w p q k G (Ny o)).mono ?_;rintro e w' ⟨h,f,c,j⟩;refine⟨h,f,?_,j⟩;have i:AR (n+1) [a]=.at (n+1) a:=by
      show(match J a.sub with | []=>Root.none | [m]=>.at n m | _::_::_=>.at (n+1) a)=_;rw[g]
     rw[i];exact c
 .have o:=z.all a sM;have s:=z.all b sM;apply(qI7 E n r v a b w p q I k ⟨o.2,s.2⟩ (JA n a.key a.sub o.1 oM) (JA n b.key b.sub s.1 oM)).mono;rintro e w' ⟨h,f,c,j⟩;refine⟨h,f,?_,j⟩;have H:qM2 ι [a,b]<=126:=by
   have:=o.2;have:=s.2;simp[qM2,ι];omega
  have i:AR n [a,b]=.at (n+1) ⟨⟨#[]⟩,none,[a,b]⟩:=by
   show(match AA n ⟨#[]⟩ [a,b] with | []=>Root.none | r::_=>Di (n+1) r)=_;have e:AA n ⟨#[]⟩ [a,b]=[⟨⟨#[]⟩,none,[a,b]⟩]:=by
    unfold AA Aq;rw[if_pos H];rfl
   rw[e];rfl
  rw[i];exact c
def qH9(E:Env)(n:Nat)(N:n<=100000)(h:HL)(l:Lnk (Tn n))(p:KV)(w:Ϣ)(a:E.Dev w)(F:RL E.O n w h l)(hg:RGood (.at n l))(O:AD p):
  E.C 74 #[θ E.V h,.agg #[ϕ p.k,ϕ p.v]] w λe w'=>∃b,e=ϱ (θ E.V b)/\RR E w' b (Root.put (.at n l) p)/\E.To w w':=by
 let⟨y,G,Q⟩:=hg;have L:l.key.size<=8:=by rw[y];decide
 have M:kl p.k l.key=false:=by rw[y];exact CW _
 let⟨ak,ap,al⟩:=Gz n l p G O M L oM;have f:Hid (Good n l.key l.sub/\AD p/\kl p.k l.key=false/\1<=cnt n l.sub/\l.key.size<=8):=⟨G,O,M,oM,L⟩;have x:=zh (n3 ak al Q);rw[θ];go_enter func74,ntmps74;go_wp2_with fail;let⟨w0,ai,T,Z,aa,V,ao⟩:=alD w (ϲ (ϟ E.V h) 89) (ϲ #[ϕ p.k,ϕ p.v] 42) (ϲ ϛ 89)
 rw[<-ai];have H:=Env.To.of0 a V;refine mR (EQ E n h l w0 (Env.RL F a H) y) ?_;rintro w1 j;have d:=n2 (j.hp T) (j.hp Z);go_wp2_with fail;refine wp_region_held_drew (S:=λW=>Ϙ W w.heap.size (ϲ (ϟ E.V h) 89)/\W.heap[w.heap.size+1]?=some (ϲ #[ϕ p.k,ϕ p.v] 42)) kR d (λ_=>?_);apply zW 0 (.agg (ϟ E.V h)) d (·.1);apply zW 1 (.agg (ϟ E.V h)) d (·.1);apply zP 2 w.heap.size 1 d;apply zW 3 (.agg (ϡ h)) d (·.1);apply zW 4 (.agg (ϟ E.V h)) d (·.1);apply zW 6 (.agg #[ϕ p.k,ϕ p.v]) d (·.2);apply zU 7 (.agg #[ϕ p.k,ϕ p.v]) d;refine zq 5 λK hK=>?_;go_simp;have s:=(H.tail j).tail (kF.drew);apply Env.call (Fr E n h l w1.drew s.dev (Env.RL F a s)) s;rintro e wt ⟨qt,rfl,X,u⟩;have D:=s.trans u;have C:=n2 (u.new (k:=w.heap.size) a oM d.1) (u.new (k:=w.heap.size+1) a oM d.2);refine hK.out _ _ C (λ_=>?_)
 try simp[zZ]
 refine zq 8 λK hK=>?_;go_simp;apply Env.call (qJ9 E n N h h l qt p wt D.dev F.1 X f.1 f.2.1 f.2.2.1 f.2.2.2.1 f.2.2.2.2) D;rintro e w2 ⟨v2,rfl,ab,q⟩;have I:=D.trans q;have A:=n2 (q.new (k:=w.heap.size) a oM C.1) (q.new (k:=w.heap.size+1) a oM C.2);have ac:=q.new (k:=w.heap.size+1+1) a oM (u.new (k:=w.heap.size+1+1) a oM (j.hp aa));refine hK.out _ _ A (λ_=>?_)
 try simp[zZ]
 refine zq 9 λK hK=>?_;go_simp;apply(Lh E n N h v2 l 0 (AN n l p) w2 I.dev ab x.1 x.2.1 x.2.2 oM).mono;rintro e w3 ⟨b,rfl,ad,r⟩;have ag:=I.trans r;have B:=n2 (r.new a oM A.1) (r.new a oM A.2);have g:=r.new a oM ac;refine hK.out _ _ B (λ_=>?_)
 try simp[zZ]
 have r0:=Y g;have an:=ρ g;refine zq 10 λK hK=>?_;rw[θ];go_simp;let⟨P,aj,ae,o⟩:=gE (DE (ϖ E.V) (ϕ b.key) (ϊ b.b) (.int .u64 b.s) (ϗ b.ptr) g);rw[<-aj];have ah:=ag.qN5 oM g dC o;have R:Apt w3 [w.heap.size+1+1] Bi:=λi hi c t am e=>by
  rw[mS hi,g]at e;cases e;decide
 have af:RR E P b (Root.put (.at n l) p):=by
  have v:=ad;show RR E P b (AR n (AN n l p))
  cases hu:AR n (AN n l p) with
  | none=>rw[hu]at v;exact v
  | «at» m z=>rw[hu]at v;exact RL.qM3 v o R
 refine hK.out _ _ (And.intro (o.ho B.1) (o.hp B.2)) (λ_=>?_);refine zd ?_;go_wp2;exact bodyPost_ret (results_cell_row results74 _ _ (w.heap.size+1+1) 89 (ϟ E.V b) (0,0) _ rfl ae underlying89 rfl kR) rfl (.inr ⟨b,rfl,af,ah⟩)
def qG4(E:Env)(n:Nat)(Q:n<=100000)(h:HL)(l:Lnk (Tn n))(k:Ϧ)(w:Ϣ)(b:E.Dev w)(D:RL E.O n w h l)(N:RGood (.at n l))(ai:(cont n l.sub).length<=1000000)(C:∃q∈cont n l.sub,q.k=k):
  E.C 63 #[θ E.V h,ϕ k] w λe w'=>∃a,e=ϱ (θ E.V a)/\RR E w' a (AR n (Ax n l k))/\E.To w w':=by
 let⟨F,G,s⟩:=N;have O:l.key.size<=8:=by rw[F];decide
 have P:kl k l.key=false:=by rw[F];exact CW _
 let⟨al,ap,am⟩:=Fs n l k G P O C s;have ah:(Bv (cont n l.sub) k).isSome=true:=by
  let⟨q,af,ag⟩:=C;unfold Bv;rw[List.find?_isSome];exact⟨q,af,by simp[ag]⟩
 have f:=zh (n5 G P O C s);have r:=zh (n3 al am s);rw[θ];go_enter func63,ntmps63;go_wp2_with fail;let⟨w0,aj,V,aa,X,ao⟩:=alC w (ϲ (ϟ E.V h) 89) (ϲ ϛ 89)
 rw[<-aj];have j:=Env.To.of0 b X;apply Env.call (FL E (.at n l) h k w0 j.dev (Env.RL D b j) N ai) j;rintro e w1 ⟨rfl,A⟩;rw[show(Bv (Root.cont (.at n l)) k).isSome=true from ah];have d:=n2 (A.new b oM V) trivial;go_wp2_with fail;refine wp_region_held_drew (S:=λW=>Ϙ W w.heap.size (ϲ (ϟ E.V h) 89)/\True) kR d (λ_=>?_);apply zW 0 (.agg (ϟ E.V h)) d (·.1);apply zW 1 (.agg (ϟ E.V h)) d (·.1);apply zP 2 w.heap.size 1 d;apply zW 3 (.agg (ϡ h)) d (·.1);apply zW 4 (.agg (ϟ E.V h)) d (·.1);refine zU 6 (ϕ k) d ?_;refine zq 5 λK hK=>?_;go_simp;have o:=(j.trans A).tail (kF.drew);apply Env.call (Fr E n h l w1.drew o.dev (Env.RL D b o)) o;rintro e wt ⟨qt,rfl,Z,B⟩;have y:=o.trans B;have L:=n2 (B.new (k:=w.heap.size) b oM d.1) trivial;refine hK.out _ _ L (λ_=>?_)
 try simp only[zZ]
 refine zq 7 λK hK=>?_;go_simp;refine Env.call (qK3 E n Q h h l qt k wt y.dev D.1 Z f.1 f.2.1 f.2.2.1 f.2.2.2.1 f.2.2.2.2) y ?_;rintro e w2 ⟨v2,rfl,ab,v⟩;have M:=y.trans v;have H:=n2 (v.new (k:=w.heap.size) b oM L.1) trivial;refine hK.out _ _ H (λ_=>?_)
 try simp only[zZ]
 refine zq 8 λK hK=>?_;go_simp;apply(Lh E n Q h v2 l 1 (Ax n l k) w2 M.dev ab r.1 r.2.1 r.2.2 oM).mono;rintro e w3 ⟨a,rfl,ac,x⟩;have I:=n2 (x.new b oM H.1) trivial;have g:=x.new b oM (v.new (k:=w.heap.size+1) b oM (B.new (k:=w.heap.size+1) b oM (A.new b oM aa)));refine hK.out _ _ I (λ_=>?_)
 try simp only[zZ]
 have r0:=Y g;have:=ρ g;refine zq 9 λK hK=>?_;rw[θ];go_simp;let⟨R,ak,ad,u⟩:=gE (DE (ϖ E.V) (ϕ a.key) (ϊ a.b) (.int .u64 a.s) (ϗ a.ptr) g);rw[<-ak];have T:Apt w3 [w.heap.size+1] Bi:=λi hi c t an e=>by
  rw[mS hi,g]at e;cases e;decide
 have ae:RR E R a (AR n (Ax n l k)):=by
  have p:=ac;show RR E R a (AR n (Ax n l k))
  cases hu:AR n (Ax n l k) with
  | none=>rw[hu]at p;exact p
  | «at» m z=>rw[hu]at p;exact RL.qM3 p u T
 refine hK.out _ _ (And.intro (u.hp I.1) trivial) (λ_=>?_);refine zd ?_;go_wp2;exact bodyPost_ret (results_cell_row results63 _ _ (w.heap.size+1) 89 (ϟ E.V a) (0,0) _ rfl ad underlying89 rfl kR) rfl (.inr ⟨a,rfl,ae,(M.trans x).qN5 oM g dC u⟩)
def RR.qO1{E}{S}{w w'}{h}{r}(a:RR E w h r)(hK:Kp S w w')(b:Apt w S Bi):RR E w' h r:=by
 cases r with
 | none=>exact a
 | «at» n l=>exact RL.qM3 a hK b
def qG5(E)(r)(h)(k)(w)(c:E.Dev w)(n:RR E w h r)(s:RGood r)(v:r.cont.length<=1000000)(m:¬∃q∈r.cont,q.k=k):
  E.C 63 #[θ E.V h,ϕ k] w λe w'=>∃h',e=ϱ (θ E.V h')/\RR E w' h' r/\E.To w w':=by
 have t:(Bv r.cont k).isSome=false:=by
  unfold Bv;rw[List.find?_eq_none.2 (λq u=>by simp;exact λe=>m ⟨q,u,e⟩)];rfl
 clear m;rw[θ];go_enter func63,ntmps63;go_wp2_with fail;obtain⟨y,x,g,j,i,z⟩:=alC w (ϲ (ϟ E.V h) 89) (ϲ ϛ 89)
 rw[<-x];have b:=Env.To.of0 c i;refine Env.call (FL E r h k y b.dev (RR.to n c b) s v) b ?_;rintro e A ⟨rfl,d⟩;have p:=b.trans d;rw[t];have f:=d.new c oM g;have a:=d.new c oM j;have:=U f;have:=U a;have:=Y f;have:=Y a;have:=ρ a;clear d b i g j f;go_wp2;have o:=DE (ϖ E.V) (ϕ h.key) (ϊ h.b) (.int .u64 h.s) (ϗ h.ptr) a;have l:=p.qN5 oM a dC o.2;exact bodyPost_ret (results_cell_row results63 _ _ (ϳ w+1) 89 (ϟ E.V h) (0,0) _ rfl o.1 underlying89 rfl kR) rfl (.inr ⟨h,rfl,RR.to n c l,l⟩)
def qG6(E)(r)(h)(k)(w)(d:E.Dev w)(f:RR E w h r)(c:RGood r)(g:r.cont.length<=100000):
  E.C 63 #[θ E.V h,ϕ k] w λe w'=>∃h',e=ϱ (θ E.V h')/\RR E w' h' (r.del k)/\E.To w w':=by
 by_cases a:∃q∈r.cont,q.k=k
 .cases r with
  | none=>let⟨q,a,_⟩:=a;cases a
  | «at» n l=>
   have b:∃q∈cont n l.sub,q.k=k:=a;have:=KG c;have:(cont n l.sub).length<=100000:=g;have e:Root.del (.at n l) k=AR n (Ax n l k):=by
    show(if (cont n l.sub).any (λq=>decide (q.k=k)) then AR n (Ax n l k) else .at n l)=_;rw[if_pos (sU b)]
   rw[e];exact qG4 E n oM h l k w d f c oM b
 .have e:r.del k=r:=by
   cases r with
   | none=>rfl
   | «at» n l=>
    have b:¬∃q∈cont n l.sub,q.k=k:=a;show(if (cont n l.sub).any (λq=>decide (q.k=k)) then AR n (Ax n l k) else .at n l)=_;rw[if_neg (sU b)]
  rw[e];exact qG5 E r h k w d f c oM a
def qI0(E)(p)(w)(y:E.Dev w)(hp:AD p):
  Ω 74 #[θ E.V ⟨⟨#[]⟩,0,0,none⟩,.agg #[ϕ p.k,ϕ p.v]] w λe w'=>∃d,e=ϱ (θ E.V d)/\RR E w' d (Root.put .none p)/\E.To w w':=by
 have hs:Sorted [p]:=by simp[Sorted]
 have ar:ζ p<=21:=by let⟨h1,h2,h3⟩:=hp;unfold ζ;omega
 have hm:qM2 ζ [p]<=210:=by simp[qM2];omega
 let⟨r1,r2,r3⟩:=FW (lo:=⟨#[]⟩) (ps:=[p]) hs (λq hq=>by rw[mS hq];exact⟨hp,CW _⟩) hm dC;have hM:Made 0 (⟨⟨#[]⟩,none,[p]⟩:Lnk (List KV)) 0 (AI ⟨#[]⟩ [p]):=by
  rcases r3 with⟨a,C,D,F,G⟩|⟨a,b,C,D,F,G,e5,e6⟩
  .exact .inl ⟨a,C,D,F,by rw[G];exact lR⟩
  .exact .inr ⟨a,b,C,D,F,G,e5,e6⟩
 have N:Hid (Row0 0 (⟨⟨#[]⟩,none,[p]⟩:Lnk (List KV)).key (AI ⟨#[]⟩ [p])/\Made 0 (⟨⟨#[]⟩,none,[p]⟩:Lnk (List KV)) 0 (AI ⟨#[]⟩ [p])):=⟨r1,hM⟩;have M:Hid ((∀q∈[p],ζ q<=21)/\qM2 ζ [p]<=210):=⟨λq hq=>by rw[mS hq];exact ar,hm⟩;obtain⟨h,I⟩:∃h:HL,h=⟨⟨#[]⟩,0,0,none⟩:=⟨_,rfl⟩;have HH:=zh I;rw[<-I];clear I;rw[θ];go_enter func74,ntmps74;go_wp2_with fail;obtain⟨f,ac,af,ah,ai,ag,ay⟩:∃f,f=((w.alloc (ϲ (ϟ E.V h) 89)).alloc (ϲ #[.string p.k,.string p.v] 42)).alloc (ϲ ϛ 89)/\Ϙ f w.heap.size (ϲ (ϟ E.V h) 89)/\f.heap[w.heap.size+1]?=some (ϲ #[.string p.k,.string p.v] 42)/\f.heap[w.heap.size+1+1]?=some (ϲ ϛ 89)/\Kp [] w f/\f.heap.size=w.heap.size+3:=by
  refine⟨_,rfl,ν _ (ν _ (μ _ _)),ν _ ?_,?_,((kF.alloc _).alloc _).alloc _,sM⟩
  .have e:=μ (w.alloc (ϲ (ϟ E.V h) 89)) (ϲ #[.string p.k,.string p.v] 42);simpa using e
  .have e:=μ ((w.alloc (ϲ (ϟ E.V h) 89)).alloc (ϲ #[.string p.k,.string p.v] 42)) (ϲ ϛ 89);simpa using e
 rw[<-ac];clear ac;have an:=Env.To.of0 y ag;have aq:Ω 92 #[θ E.V h] f λe w'=>e=ϱ (.bool true)/\Kp [] f w':=by rw[HH.out];exact GW E.V f
 refine aq.mono ?_;rintro e L ⟨rfl,o⟩;have ao:=an.tail o;have g:=n2 (o.hp af) (o.hp ah);have aj:=o.hp ai;go_wp2_with fail;refine wp_region_held_drew (S:=λW=>Ϙ W w.heap.size (ϲ (ϟ E.V h) 89)/\W.heap[w.heap.size+1]?=some (ϲ #[.string p.k,.string p.v] 42)) kR g (λ_=>?_);refine zW 0 (.agg (ϟ E.V h)) g (·.1) ?_;refine zW 1 (.agg #[.string p.k,.string p.v]) g (·.2) ?_;refine zU 2 (.agg #[.string p.k,.string p.v]) g ?_;refine zq 3 λK hK=>?_;go_simp;let⟨wb,ad,P,n⟩:=alF L (ϲ #[.string p.k,.string p.v] 185);rw[<-ad];clear ad;have v:=And.intro (n.hp g.1) (n.hp g.2);have T:=n.hp aj;have aa:=ao.tail n;refine hK.out _ _ v (λ_=>?_);clear hK K g
 try simp[zZ]
 refine zq 4 λK hK=>?_;go_simp;have ab:Slc wb 185 2 (.slice (some (ϰ L.heap.size 0)) 1 1) [p].length (Aa [p]):=⟨rfl,.inr ⟨L.heap.size,0,1,_,_,rfl,lR,lR,P,λj u A=>by simpa [Aa,pcs] using A⟩⟩;refine(FX E.O ⟨#[]⟩ _ [p] wb ab sM M.1 M.2).mono ?_;rintro e w2 ⟨v2,rfl,ak,r⟩;have X:=aa.tail r;have H:=n2 (r.hp v.1) (r.hp v.2);have al:=r.hp T;refine hK.out _ _ H (λ_=>?_);clear hK K v aa ab P n T
 try simp[zZ]
 refine zq 5 λK hK=>?_;go_simp;refine(Lh E 0 oM h v2 (⟨⟨#[]⟩,none,[p]⟩:Lnk (List KV)) 0 (AI ⟨#[]⟩ [p]) w2 X.dev ak N.1 N.2 (by show 0<1;omega) oM).mono ?_;rintro e w3 ⟨d,rfl,Q,x⟩;have Z:=X.trans x;have s:=n2 (x.new y oM H.1) (x.new y oM H.2);have k:=x.new y oM al;refine hK.out _ _ s (λ_=>?_)
 try simp[zZ]
 have r0:=Y k;have ax:=ρ k;refine zq 6 λK hK=>?_;rw[θ];go_simp;have au:=DE (ϖ E.V) (.string d.key) (ϊ d.b) (.int .u64 d.s) (.pointer d.ptr) k;let⟨w4,av,R,l⟩:=gE au;rw[<-av];have ap:=Z.qN5 oM k dC l;have O:Apt w3 [w.heap.size+1+1] Bi:=λi hi c t aw e=>by
  rw[mS hi,k]at e;cases e;decide
 have am:RR E w4 d (Root.put .none p):=by
  have B:=Q;show RR E w4 d (AR 0 (AI ⟨#[]⟩ [p]))
  cases A:AR 0 (AI ⟨#[]⟩ [p]) with
  | none=>rw[A]at B;exact B
  | «at» m z=>rw[A]at B;exact RL.qM3 B l O
 have V:=And.intro (l.ho s.1) (l.hp s.2);refine hK.out _ _ V (λ_=>?_);refine zd ?_;have ae:=zh R;clear V s k R l O Q Z;go_wp2;exact bodyPost_ret (results_cell_row results74 _ _ (w.heap.size+1+1) 89 (ϟ E.V d) (0,0) _ rfl ae underlying89 rfl kR) rfl ⟨d,rfl,am,ap⟩
def Ld(E)(r)(h)(p)(w)(a:E.Dev w)(d:RR E w h r)(b:RGood r)(g:r.cont.length<=100000)(c:AD p):
  E.C 74 #[θ E.V h,.agg #[ϕ p.k,ϕ p.v]] w λe w'=>∃h',e=ϱ (θ E.V h')/\RR E w' h' (r.put p)/\E.To w w':=by
 cases r with
 | none=>
  have f:h=⟨⟨#[]⟩,0,0,none⟩:=d;subst f;exact .of (qI0 E p w a c)
 | «at» n l=>
  have:=KG b;have:(cont n l.sub).length<=100000:=g;exact qH9 E n oM h l p w a d b c
def Asks(E:Env)(w:Ϣ)(g:Nat)(cap:ϧ)(f:Ϧ->Bool):Prop:=∀W k,E.To w W->Calls prog g (#[ϕ k]++cap) W λe W'=>e=ϱ (ϐ (f k))/\Kp [] W W'
def Asks.to{E}{w W}{g:Nat}{cap}{f:Ϧ->Bool}(h:Asks E w g cap f)(b:E.To w W):Asks E W g cap f:=λa k c=>h a k (b.trans c)
def Vw(g F:Nat)(cap:ϧ)(p:KV)(b:Bool)(w:Ϣ)(a:w.heap[F]?=some (ϲ #[.func (.func g) #[] cap] 92))
  (j:ϴ g)
  (f:∀W,Kp [] w W->Calls prog g (#[ϕ p.k]++cap) W λe W'=>e=ϱ (ϐ b)/\Kp [] W W'):
  Ω 147 #[.agg #[ϕ p.k,ϕ p.v],ϖ F] w λe w'=>e=ϱ (ϐ b)/\Kp [] w w':=by
 have:=U a;have i:=ϻ a 0;go_enter func147,ntmps147;go_wp2_with fail;refine mR (f _ (kF.alloc _)) ?_;rintro h c;have d:Kp [] w h:=(kF.alloc _).tr c;go_wp2;go_ret;exact⟨rfl,d⟩
def Vx(g F:Nat)(cap:ϧ)(p:HL)(b:Bool)(w:Ϣ)(a:w.heap[F]?=some (ϲ #[.func (.func g) #[] cap] 92))
  (j:ϴ g)
  (f:∀W,Kp [] w W->Calls prog g (#[ϕ p.key]++cap) W λe W'=>e=ϱ (ϐ b)/\Kp [] W W'):
  Ω 149 #[.agg #[ϕ p.key,ϊ p.b,.int .u64 p.s,ϗ p.ptr],ϖ F] w λe w'=>e=ϱ (.bool !b)/\Kp [] w w':=by
 have:=U a;have i:=ϻ a 0;go_enter func149,ntmps149;go_wp2_with fail;refine mR (f _ (kF.alloc _)) ?_;rintro h c;have d:Kp [] w h:=(kF.alloc _).tr c;go_wp2;go_ret;exact⟨rfl,d⟩
def AB:Option KV→Value
 | some p=>.tuple #[.agg #[.string p.k,.string p.v],.bool true]
 | none=>.tuple #[.agg #[.string ⟨#[]⟩,.string ⟨#[]⟩],.bool false]
def BO{W}{k:Nat}{a b}(v0 v1)(h:W.heap[k]?=some (ϲ #[a,b] 42)):
  ((W.setCell (ϰ k 0) v0).setCell (ϰ k 1) v1).heap[k]?=some (ϲ #[v0,v1] 42)/\Kp [k] W ((W.setCell (ϰ k 0) v0).setCell (ϰ k 1) v1):=
 ⟨ξ (ξ h 0 _) 1 _,((Kp.refl _ W).sc _).sc _⟩
def Js{l:List KV}{f:KV->Bool}:l.find? f=l[l.findIdx f]?:=by
 induction l with
 | nil=>rfl
 | cons a l ih=>
  rw[List.find?_cons,List.findIdx_cons]
  cases f a with
  | true=>simp
  | false=>simpa using ih
def VF(E:Env)(r:HL)(l:Lnk (Tn 0))(q:Nat)(g:Nat)(cap:ϧ)(f:Ϧ->Bool)(w:Ϣ)(hd:E.Dev w)(hN:RN E.O 0 w q l.sub)(K:Good 0 l.key l.sub)(ah:Up f)(ha:Asks E w g cap f)
  (ad:ϴ g):
  Ω 93 #[θ E.V r,ϖ q,.func (.func g) #[] cap] w λe w'=>e=ϱ (AB ((cont 0 l.sub).find? λq=>f q.k))/\E.To w w':=by
 have:=zM;have:(prs l.sub).length<=10000:=Ch 0 l.key l.sub K;have ag:Sorted (prs l.sub):=K.sorted;have Q:Hid (∀i j (m:i<(prs l.sub).length) (x:j<(prs l.sub).length),i<=j->f (prs l.sub)[i].k=true->f (prs l.sub)[j].k=true):=by
  show ∀i j (m:i<(prs l.sub).length) (x:j<(prs l.sub).length),_;intro i j m x am h;by_cases e:i=j
  .subst e;exact h
  .exact ah _ _ (pG ag i j m x oM) h
 let⟨P,y,af⟩:=hN;have:=U y;have:q<w.heap.size+1:=oM
 have:q<w.heap.size+1+1:=oM
 have q0:=Y y;simp[Ai,zG,zH,zI]at q0;rw[θ];go_enter func93,ntmps93;go_wp2_with fail;let⟨w1,ai,ak,Z,ab,t,an⟩:=alD w (ϲ (ϟ E.V r) 89) (ϲ #[.func (.func g) #[] cap] 92) (ϲ ϝ 42)
 rw[<-ai];have H:=Env.To.of0 hd t;have hq:=t.hp y;have O:=af.qM4 t;refine(Jt 147 _ P (prs l.sub) (λp=>f p.k) w1 O oM Q ?_ ?_).mono ?_
 .intro args W;simp[go_sem,func147]
 .intro W G i m;exact Vw g (w.heap.size+1) cap (prs l.sub)[i] (f (prs l.sub)[i].k) W (G.hp Z) ad (λR aa=>ha R _ ((H.tail G).tail aa))
 rintro e w2 ⟨rfl,k⟩;have I:=H.tail k;have a:=k.hp ab;have N:=k.hp hq;have A:=O.qM4 k;have u:(cont 0 l.sub).find? (λq=>f q.k)=(prs l.sub)[(prs l.sub).findIdx (λp=>f p.k)]?:=Js;obtain⟨i,L⟩:∃i,(prs l.sub).findIdx (λp=>f p.k)=i:=⟨_,rfl⟩;rw[L]at u |-;have:i<=(prs l.sub).length:=by rw[<-L];exact fL
 have:=U N;have:=U a;obtain⟨C,F,n⟩:∃C F,P=.slice C (prs l.sub).length F:=by
  rcases A.val with⟨X,b,c,s,_⟩|⟨g,B,cap,cur,V,s,_⟩
  .rw[X];exact⟨b,c,s⟩
  .exact⟨_,cap,s⟩
 subst n;have:=ϻ N 1;have:=Y a;have:=ρ a;by_cases M:i<(prs l.sub).length
 .have:(i:Int)<((prs l.sub).length:Int):=oM
  let⟨gb,B,aj,cur,V,n,al,z,ae⟩:=A.pair oM;simp[vJ,true_and]at n;obtain⟨rfl,rfl⟩:=n;let⟨c0,D⟩:=ae i M;let⟨p,h⟩:=eY ((prs l.sub)[i]);rw[h]at c0 D;have o:Hid ((prs l.sub)[i]?=some p):=by show _=_;rw[gQ M,h]
  have S:=Y z (B+i*2);rw[c0]at S;have T:=Y z (B+i*2+1);rw[D]at T;have:=U z;go_wp2;have d:=BO (ϕ p.k) (ϕ p.v) a;have ac:=I.qN5 oM a dC d.2;have t0:=ϻ d.1 0;have t1:=ϻ d.1 1;refine bodyPost_ret (v:=AB (some p)) ?_ rfl ⟨by rw[u,o.out],ac⟩;simp[results,results93,go_sem,t0,t1,AB]
 .have:¬(i:Int)<((prs l.sub).length:Int):=oM
  clear A;have o:Hid ((prs l.sub)[i]?=none):=by show _=_;rw[gN oM]
  go_wp2;have d:=BO (ϕ ⟨#[]⟩) (ϕ ⟨#[]⟩) a;refine bodyPost_ret (v:=AB none) ?_ rfl ⟨by rw[u,o.out],I.qN5 oM a dC d.2⟩;simp[results,results93,go_sem,ϻ d.1 0,ϻ d.1 1,AB]
def QG{p:Prop}(_h:p:=by
 have hh1:1<=hs.length:=by rw[bx.1];exact aw
 obtain⟨gb,off,cp,cur,fr,rfl,hcp,hrow0,hcur⟩:=ay.link hh1;obtain⟨lv,hlv⟩:∃lv:Int,((n+1:Nat):Int)=lv:=⟨_,rfl⟩;rw[hlv]at cg;have HLV:Hid (((n:Nat):Int)<lv):=by show _<_;omega
 have hlv0:¬lv=0:=oM;have hqs:=U cg;have hqs1:q<w.heap.size+1:=oM;have hqs2:q<w.heap.size+1+1:=oM;exact Tz.out):p:=_h
def VD(E:Env)(n:Nat)(g:Nat)(cap:ϧ)(f:Ϧ->Bool)(cv:Up f)(dh:ϴ g)
  (ih:∀(r:HL) (l:Lnk (Tn n)) (q:Nat) (w:Ϣ),E.Dev w->RN E.O n w q l.sub->Good n l.key l.sub->1<=cnt n l.sub->Asks E w g cap f->E.C 93 #[θ E.V r,ϖ q,.func (.func g) #[] cap] w λe w'=>e=ϱ (AB ((cont n l.sub).find? λq=>f q.k))/\E.To w w')
  (r:HL) (l:Lnk (Tn (n+1))) (q:Nat) (w:Ϣ) (hd:E.Dev w) (hN:RN E.O (n+1) w q l.sub) (hg:Good (n+1) l.key l.sub) (hne:1<=cnt (n+1) l.sub) (ha:Asks E w g cap f):
  E.C 93 #[θ E.V r,ϖ q,.func (.func g) #[] cap] w λe w'=>e=ϱ (AB ((cont (n+1) l.sub).find? λq=>f q.k))/\E.To w w':=by
 have dr:=zM;have hcl:=(Ch (n+1) l.key l.sub hg).1;have aw:1<=(J l.sub).length:=hne;have a9:Hid ((cont (n+1) l.sub).find? (λq=>f q.k)=(((J l.sub).drop ((J l.sub).findIdx (λl=>f l.key)-1)).flatMap λl=>cont n l.sub).find? (λq=>f q.k)):=VH cv hg.row;have b5:Hid (∀z∈J l.sub,Good n z.key z.sub/\1<=cnt n z.sub):=λz hz=>⟨(hg.all z hz).1,oW ((hg.all z hz).2.1)⟩;have b6:Hid ((J l.sub).Pairwise (DG n)):=hg.pair;have a8:=ih;clear hg hne ih;let⟨vl,cg,hs,ay,bx⟩:=hN;let⟨ls,cr⟩:=eY (J l.sub);rw[cr]at bx hcl aw a9 b5 b6;clear cr;have HBL:=zh bx.1;have hhl:hs.length<=10000:=by rw[bx.1];exact hcl
 have Tz:Hid (∀{p:Prop},(_h:p:=by
  have q0:=ϻ cg 0;clear hlv;rw[θ];go_enter func93,ntmps93;go_wp2_with fail;let⟨w1,hw1,hB1,bb,bo,hK1,hs1⟩:=alD w (ϲ (ϟ E.V r) 89) (ϲ #[.func (.func g) #[] cap] 92) (ϲ ϝ 42)
  rw[<-hw1];clear hw1 q0 hqs hqs1 hqs2;have hT1':=Env.To.of0 hd hK1;have hq:=hK1.hp cg;have hsl:=ay.qM4 hK1;have hrow:=hK1.hp hrow0;have hb:Both (RL E.O n w1) hs ls:=bx.mono λx y hr=>RL.qM3 hr hK1 (Apt.nil _ _);clear cg ay hrow0 bx;have cs:hs.findIdx (λp=>f p.key)=ls.findIdx (λp=>f p.key):=by
   have e:=hb.map_eq λx y hr=>hr.1;have h1:∀(l:List HL),l.findIdx (λl=>f l.key)=(l.map HL.key).findIdx f:=λl=>by rw[List.findIdx_map];rfl
   have h2:∀(l:List (Lnk (Tn n))),l.findIdx (λl=>f l.key)=(l.map Lnk.key).findIdx f:=λl=>by rw[List.findIdx_map];rfl
   rw[h1,h2,e]
  have cy:Hid (∀i j (hi:i<hs.length) (V:j<hs.length),i<=j->(!f hs[j].key)=true->(!f hs[i].key)=true):=by
   show ∀i j (hi:i<hs.length) (V:j<hs.length),_;intro i j hi V dq hp;by_cases e:i=j
   .subst e;exact hp
   .have hk:=(Gn hb b6).at hi V oM;by_cases e2:f hs[i].key=true
    .rw[cv _ _ hk e2]at hp;cases hp
    .simpa using e2
  obtain⟨i,hi0⟩:∃i,ls.findIdx (λp=>f p.key)-1=i:=⟨_,rfl⟩;have hil:i<hs.length:=by
   have:ls.findIdx (λp=>f p.key)<=ls.length:=fL;have:=hb.1;omega
  have c4:Hid (∀W,Kp [] w1 W->Ω 148 #[.slice (some (ϰ gb off)) hs.length cp,.func (.func 149) #[] #[ϖ (w.heap.size+1)]] W λe w'=>e=ϱ (ϊ (i:Nat))/\Kp [] W w'):=by
   show ∀W,_;intro W bl;have:=JQ 149 #[ϖ (w.heap.size+1)] (.slice (some (ϰ gb off)) hs.length cp) hs (λp=>!f p.key) W (hsl.qM4 bl) oM cy (λargs W=>by simp[go_sem,func149])
    (λW2 hK2 j V=>Vx g (w.heap.size+1) cap hs[j] (f hs[j].key) W2 ((bl.tr hK2).hp bb) dh (λW' hK'=>ha W' _ ((hT1'.tail (bl.tr hK2)).tail hK')))
   simp[Bool.not_not]at this;rw[cs,hi0]at this;exact this
  clear hK1 cs;have hS0:=hq;refine wp_region_held_drew (S:=λW=>Ϙ W q (Ai lv (.slice none 0 0) (.slice (some (ϰ gb off)) hs.length cp))) kR hS0 (λ_=>?_);refine zP 0 q 0 hS0 ?_;refine zP 1 q 0 hS0 ?_;refine zP 2 q 2 hS0 ?_;refine zV 3 (.slice (some (ϰ gb off)) hs.length cp) rfl (λW hS=>by have c:=Y hS 2;simp[Ai]at c;clear hS;go_simp) hS0 ?_;refine zP 4 q 0 hS0 ?_;refine zP 5 q 0 hS0 ?_;refine zP 6 q 2 hS0 ?_;refine zV 7 (.slice (some (ϰ gb off)) hs.length cp) rfl (λW hS=>by have c:=Y hS 2;simp[Ai]at c;clear hS;go_simp) hS0 ?_;refine zU 8 (.func (.func 149) #[] #[ϖ (w.heap.size+1)]) hS0 ?_;refine zU 12 (ϊ 0) hS0 ?_;refine zq 9 λK hK=>?_;go_simp;refine mR (c4 w1.drew (kF.drew)) ?_;rintro w2 hK2;have A:Kp [] w1 w2:=((Kp.refl _ w1).drew).tr hK2;have bt:=A.hp hS0;refine hK.out _ _ bt (λ_=>?_);clear hK K hK2
  try simp[zZ]
  have di:¬cp=i:=oM
  have hji:(i:Int)<=(hs.length:Int):=oM
  have c8:(i:Int)<=(cp:Int):=oM
  have hncp:(hs.length:Int)<=(cp:Int):=oM
  refine zU 10 (.slice (some (ϰ gb (off+i*4))) (hs.length-i) (cp-i)) bt ?_;let⟨m,hm⟩:=eX (hs.length-i);rw[<-hm];refine zU 11 (ϊ m) bt ?_;refine zd ?_;have hT2:=hT1'.tail A;have HM:=zh hm;have ca:=zh hT1';have cx:=zh (A.hp hB1);have cz:=zh (A.hp bb);have c6:=zh (A.hp bo);have ds:i+m=hs.length:=oM
  have b7:=zh bt;clear bt hS0 hT1' hB1 bb bo hq hm di hji c8 hncp;go_wp2
  go_loopw [52] (λs wr=>∃(j:Nat),j<=m/\s=.int .i64 j/\Hid ((((ls.drop i).take j).flatMap λl=>cont n l.sub).find? (λq=>f q.k)=none)/\Hid (E.To w wr)/\Hid (E.To w2 wr)/\Ϙ wr w.heap.size (ϲ (ϟ E.V r) 89)/\wr.heap[w.heap.size+1]?=some (ϲ #[.func (.func g) #[] cap] 92)/\wr.heap[w.heap.size+1+1]?=some (ϲ ϝ 42)) (λs _=>m-(intOf s).toNat)
  case atStart=>exact⟨0,zL _,rfl,(by simp:_=none),hT2,⟨hT2.dev,Kp.refl _ _⟩,cx,cz,c6⟩
  case round=>
   obtain⟨j,V,rfl,b4,cn,T,M,N,F⟩:=hrel;by_cases aa:j<m
   .have am:(j:Int)<(m:Int):=oM
    have dj:i+j<ls.length:=by have:=HBL.out;omega
    obtain⟨z,hz⟩:∃z,ls[i+j]?=some z:=⟨_,gQ dj⟩;let⟨x,_,hrx,c0,c1,c2,c3⟩:=Gq hb hcur hz;have H:=T.out.kp.heap (A.hp hrow) (λhm=>E.apt w2 hT2.dev _ hm _ _ _ (A.hp hrow) dC);rw[show off+(i+j)*4=off+i*4+j*4 by omega]at c0 c1 c2 c3;have a0:=Y H (off+i*4+j*4);rw[c0]at a0;have a1:=Y H (off+i*4+j*4+1);rw[c1]at a1;have a2:=Y H (off+i*4+j*4+2);rw[c2]at a2;have a3:=Y H (off+i*4+j*4+3);rw[c3]at a3;have ak:=U H;have da:=U M;have db:=U N;have cb:=U F;have t0:=Y M;have f0:=ϻ N 0;have G:=zh (b5 z (mO hz));have ct:=T.out.kp.heap b7 (λhm=>E.apt w2 hT2.dev _ hm _ _ _ b7 dC);have cc:=(Env.To.of0 ca.dev A).trans T.out;have b8:=zh (Env.RL hrx ca.dev cc);have dl:=T.out.kp.size;have cu:((ls.drop i).take (j+1)).flatMap (λl=>cont n l.sub)=((ls.drop i).take j).flatMap (λl=>cont n l.sub)++cont n z.sub:=by
     have hd:(ls.drop i)[j]?=some z:=by rw[List.getElem?_drop];exact hz
     let⟨dk,he⟩:=gS hd;rw[tA dk,he,fA];simp
    clear H cc c0 c1 c2 c3;go_wp2_with fail;clear a0 a1 a2 a3 ak t0 f0 da db;let⟨w3,hw3,a7,B⟩:=alA wr (ϲ (ϡ x) 87);rw[<-hw3];clear hw3;let⟨X,co⟩:=eY wr.heap.size;rw[co]at a7 dl cb |-;have cq:=U a7;have ah:=cn.out.tail B;have dg:=T.out.tail B;have bq:=B.hp F;have de:=RL.qM3 b8 B (Apt.nil _ _);have hS0:=n4 (B.hp M) (B.hp N) a7 (B.hp ct);clear B a7 M N ct co b8 hrx;obtain⟨fk,fv,fb,t⟩:∃fk fv fb,AB ((cont n z.sub).find? λq=>f q.k)=.tuple #[.agg #[.string fk,.string fv],.bool fb]:=by
     cases (cont n z.sub).find? λq=>f q.k with
     | none=>exact⟨_,_,_,rfl⟩
     | some p=>exact⟨_,_,_,rfl⟩
    refine wp_region_held_drew (S:=λW=>Ϙ W w.heap.size (ϲ (ϟ E.V r) 89)/\W.heap[w.heap.size+1]?=some (ϲ #[.func (.func g) #[] cap] 92)/\Ϙ W X (ϲ (ϡ x) 87)/\Ϙ W q (Ai lv (.slice none 0 0) (.slice (some (ϰ gb off)) hs.length cp))) kR hS0 (λ_=>?_);refine zW 0 (.agg (ϟ E.V r)) hS0 (·.1) ?_;refine zW 1 (.agg (ϟ E.V r)) hS0 (·.1) ?_;refine zW 2 (.agg (ϡ x)) hS0 (·.2.2.1) ?_;refine zP 3 q 0 hS0 ?_;refine zP 4 q 0 hS0 ?_;refine zP 5 q 0 hS0 ?_;refine zV 6 (ϊ lv) rfl (λW hS=>by have c:=Y hS.2.2.2 0;simp[Ai]at c;clear hS;go_simp) hS0 ?_;refine zV 8 (.func (.func g) #[] cap) rfl (λW hS=>by have c:=Y hS.2.1 0;simp[zG,zH]at c;clear hS;go_simp) hS0 ?_;have hTd:=ah.tail (kF.drew);have b3:=dg.tail (kF.drew);have b2:w3.drew.heap[w.heap.size+1+1]?=some (ϲ ϝ 42):=bq;have hSd:Ϙ w3.drew w.heap.size (ϲ (ϟ E.V r) 89)/\w3.drew.heap[w.heap.size+1]?=some (ϲ #[.func (.func g) #[] cap] 92)/\Ϙ w3.drew X (ϲ (ϡ x) 87)/\Ϙ w3.drew q (Ai lv (.slice none 0 0) (.slice (some (ϰ gb off)) hs.length cp)):=hS0;have b1:=RL.qM3 de ((Kp.refl [] _).drew) (Apt.nil _ _);have dt:X<w3.drew.heap.size:=cq;refine zr 7 13 (λK hK=>?_) λK hK=>?_
    focus
     go_simp;refine Env.call (BR E n x r z lv w3.drew hTd.dev b1 HLV) hTd ?_;rintro e w4 ⟨q1,rfl,hN1,bv⟩;have hT4:=hTd.trans bv;have a4:=b3.trans bv;have hR4:=bv.new (k:=w.heap.size+1+1) hd oM b2;have hS4:=n4 (bv.new (k:=w.heap.size) hd oM hSd.1) (bv.new (k:=w.heap.size+1) hd oM hSd.2.1) (bv.new (k:=X) hd oM hSd.2.2.1) (bv.kp.heap (k:=q) hSd.2.2.2 (λhm=>E.apt _ hTd.dev _ hm _ _ _ hSd.2.2.2 dC));refine zk hK hS4 ?_
     refine zr 9 13 (λK hK=>?_) λK hK=>?_
     focus
      go_simp;refine Env.call (a8 r z q1 w4 hT4.dev hN1 G.1 G.2 (ha.to hT4)) hT4 ?_;rintro e I ⟨rfl,bv⟩;rw[t];have o:=hT4.trans bv;have R:=a4.trans bv;have O:=bv.new (k:=w.heap.size+1+1) hd oM hR4;have b:=n4 (bv.new (k:=w.heap.size) hd oM hS4.1) (bv.new (k:=w.heap.size+1) hd oM hS4.2.1) (bv.new (k:=X) hd oM hS4.2.2.1) (bv.kp.heap (k:=q) hS4.2.2.2 (λhm=>E.apt _ hT4.dev _ hm _ _ _ hS4.2.2.2 dC));refine zk hK b ?_
      refine zU 10 (.tuple #[.agg #[.string fk,.string fv],.bool fb]) b ?_;refine zU 11 (.agg #[.string fk,.string fv]) b ?_;refine zU 12 (.bool fb) b ?_;refine zq 13 λK hK=>?_;go_simp;let⟨w6,D,u,a⟩:=alA I (ϲ ϝ 42);rw[<-D];clear D;have a6:=o.tail a;have a5:=R.tail a;have ad:=a.hp O;have d:=n4 (a.hp b.1) (a.hp b.2.1) (a.hp b.2.2.1) (a.hp b.2.2.2);refine zk hK d ?_
      have Z:=U b.2.2.1;generalize I.heap.size=LB at u Z |-
     rotate_left
     focus
      go_simp;let⟨I,D,bs,a⟩:=alA w4 (ϲ ϝ 42);rw[<-D];clear D;have o:=hT4.tail a;have R:=a4.tail a;have O:=a.hp hR4;have b:=n4 (a.hp hS4.1) (a.hp hS4.2.1) (a.hp hS4.2.2.1) (a.hp hS4.2.2.2);refine zk hK b ?_
      have Z:=U hS4.2.2.1;have dc:=RN.qM3 a (Apt.nil _ _) n q1 _ hN1;clear hN1;have hN1:=dc;refine zq 9 λK hK=>?_;go_simp;refine Env.call (a8 r z q1 I o.dev hN1 G.1 G.2 (ha.to o)) o ?_;rintro e w6 ⟨rfl,bv⟩;rw[t];have a6:=o.trans bv;have a5:=R.trans bv;have ad:=bv.new (k:=w.heap.size+1+1) hd oM O;have d:=n4 (bv.new (k:=w.heap.size) hd oM b.1) (bv.new (k:=w.heap.size+1) hd oM b.2.1) (bv.new (k:=X) hd oM b.2.2.1) (bv.kp.heap (k:=q) b.2.2.2 (λhm=>E.apt _ o.dev _ hm _ _ _ b.2.2.2 dC));refine zk hK d ?_
      have u:=bv.new hd oM bs;refine zU 10 (.tuple #[.agg #[.string fk,.string fv],.bool fb]) d ?_;refine zU 11 (.agg #[.string fk,.string fv]) d ?_;refine zU 12 (.bool fb) d ?_;generalize w4.heap.size=LB at u Z |-
    rotate_left 2
    focus
     go_simp;obtain⟨w4,D,dd,a⟩:∃w',w'=(w3.alloc (ϲ ϝ 42)).drew/\Ϙ w' w3.heap.size (ϲ ϝ 42)/\Kp [] w3.drew w':=⟨_,rfl,μ _ _,((Kp.refl _ w3.drew).alloc _)⟩;rw[<-D];clear D;have hT4:=hTd.tail a;have a4:=b3.tail a;have hR4:=a.hp b2;have hS4:=n4 (a.hp hSd.1) (a.hp hSd.2.1) (a.hp hSd.2.2.1) (a.hp hSd.2.2.2);refine zk hK hS4 ?_
     have df:=RL.qM3 b1 a (Apt.nil _ _);refine zq 7 λK hK=>?_;go_simp;refine Env.call (BR E n x r z lv w4 hT4.dev df HLV) hT4 ?_;rintro e I ⟨q1,rfl,hN1,bv⟩;have o:=hT4.trans bv;have R:=a4.trans bv;have O:=bv.new (k:=w.heap.size+1+1) hd oM hR4;have b:=n4 (bv.new (k:=w.heap.size) hd oM hS4.1) (bv.new (k:=w.heap.size+1) hd oM hS4.2.1) (bv.new (k:=X) hd oM hS4.2.2.1) (bv.kp.heap (k:=q) hS4.2.2.2 (λhm=>E.apt _ hT4.dev _ hm _ _ _ hS4.2.2.2 dC));refine zk hK b ?_
     have bs:=bv.new hd oM dd;refine zq 9 λK hK=>?_;go_simp;refine Env.call (a8 r z q1 I o.dev hN1 G.1 G.2 (ha.to o)) o ?_;rintro e w6 ⟨rfl,bv⟩;rw[t];have a6:=o.trans bv;have a5:=R.trans bv;have ad:=bv.new (k:=w.heap.size+1+1) hd oM O;have d:=n4 (bv.new (k:=w.heap.size) hd oM b.1) (bv.new (k:=w.heap.size+1) hd oM b.2.1) (bv.new (k:=X) hd oM b.2.2.1) (bv.kp.heap (k:=q) b.2.2.2 (λhm=>E.apt _ o.dev _ hm _ _ _ b.2.2.2 dC));refine zk hK d ?_
     have u:=bv.new hd oM bs;have Z:=cq;refine zU 10 (.tuple #[.agg #[.string fk,.string fv],.bool fb]) d ?_;refine zU 11 (.agg #[.string fk,.string fv]) d ?_;refine zU 12 (.bool fb) d ?_;generalize w3.heap.size=LB at u Z |-
    all_goals
     have dm:=U u;have z0:=Y u;have fz0:=ρ u;refine zq 14 λK hK=>?_;go_simp;have hts:=BO (.string fk) (.string fv) u;let⟨w7,cw,b0,C⟩:=gE hts;rw[<-cw];clear cw hts z0 fz0;have cm:=a6.qN5 oM u dC C;have cl:=a5.qN5 oM u dC C;have P:=C.ho ad;have Q:=n4 (C.ho d.1) (C.ho d.2.1) (C.ho d.2.2.1) (C.heap d.2.2.2 (by intro hm;rw[mS hm,u]at d;simp[Ai]at d));refine zk hK Q ?_
     refine zq 15 λK hK=>?_;go_simp;refine zk hK Q ?_
     refine zd ?_;have ba:=zh (n2 cm cl);have L:=zh (n3 Q.1 Q.2.1 P);have dn:=U b0;have dp:=U P;have y0:=Y b0;have z0:=Y P;have fz0:=ρ P;clear Q d u b0 P ad cm cl a6 a5 C hS0 hSd b2 hTd b3 b1
     cases hfd:(cont n z.sub).find? (λq=>f q.k) with
     | none=>
      have t:=t;rw[hfd]at t;simp[AB,Value.tuple.injEq,Array.mk.injEq,List.cons.injEq,Value.agg.injEq,Value.string.injEq,Value.bool.injEq,and_true]at t;obtain⟨⟨rfl,rfl⟩,rfl⟩:=t;clear t;go_wp2;refine⟨⟨j+1,oM,by go_num,?_,ba.1,ba.2,L.1,L.2.1,L.2.2⟩,iO⟩;show _=none;rw[cu,List.find?_append,b4.out,hfd];rfl
     | some p=>
      have t:=t;rw[hfd]at t;simp[AB,Value.tuple.injEq,Array.mk.injEq,List.cons.injEq,Value.agg.injEq,Value.string.injEq,Value.bool.injEq,and_true]at t;obtain⟨⟨rfl,rfl⟩,rfl⟩:=t;clear t;go_wp2;have hts:=BO (.string p.k) (.string p.v) L.2.2;have o:=ba.out.1.qN5 oM L.2.2 dC hts.2;have t0:=ϻ hts.1 0;have t1:=ϻ hts.1 1;refine bodyPost_ret (v:=AB (some p)) ?_ rfl (.inr ⟨?_,o⟩)
      .simp[results,results93,go_sem,t0,t1,AB]
      .have hall:(ls.drop i).flatMap (λl=>cont n l.sub)=((ls.drop i).take (j+1)).flatMap (λl=>cont n l.sub)++((ls.drop i).drop (j+1)).flatMap (λl=>cont n l.sub):=by rw[<-fA,tD]
       rw[a9.out,hi0,hall,cu,List.find?_append,List.find?_append,b4.out,hfd];rfl
   .have am:¬(j:Int)<(m:Int):=oM
    have cb:=U F;have z0:=Y F;have fz0:=ρ F;clear M N;go_wp2;have hts:=BO (.string ⟨#[]⟩) (.string ⟨#[]⟩) F;have ah:=cn.out.qN5 oM F dC hts.2;have t0:=ϻ hts.1 0;have t1:=ϻ hts.1 1;refine bodyPost_ret (v:=AB none) ?_ rfl (.inr ⟨?_,ah⟩)
    .simp[results,results93,go_sem,t0,t1,AB]
    .have hx:=b4.out;rw[tL (by have:=HBL.out;simp;omega)]at hx;rw[a9.out,hi0,hx])->p):=λh=>h;exact QG
def VG(E:Env)(g:Nat)(cap:ϧ)(f:Ϧ->Bool)(i:Up f)(h:ϴ g):∀(n:Nat)(r:HL) (l:Lnk (Tn n)) (q:Nat) (w:Ϣ),E.Dev w->RN E.O n w q l.sub->Good n l.key l.sub->1<=cnt n l.sub->Asks E w g cap f->
  E.C 93 #[θ E.V r,ϖ q,.func (.func g) #[] cap] w λe w'=>e=ϱ (AB ((cont n l.sub).find? λq=>f q.k))/\E.To w w':=by
 intro n
 induction n with
 | zero=>intro r l q w b d c _ a;exact .of (VF E r l q g cap f w b d c i a h)
 | succ n ih=>intro r l q w b d c k a;exact VD E n g cap f i h (λr l q w b d c j a=>ih r l q w b d c j a) r l q w b d c k a
end Go.Proofs.YtdohpenfkdckiaaGreatDoor
