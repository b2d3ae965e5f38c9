import Derived.Test.YtdohpenfkdckiaaGreatDoorJ09
set_option linter.all false
set_option maxRecDepth 100000
set_option maxHeartbeats 0
namespace Go.Proofs.YtdohpenfkdckiaaGreatDoor
open Go.Proofs.Tryz Go.RowKit
def Wrs(w:Ϣ)(A:Nat)(n:Int):Prop:=∃p a m v c,w.heap[A]?=some (Bn p a m v c n)
def Wrs.call{w}{A:Nat}{n:Int}(h:Wrs w A n):Ω 35 #[ϖ A] w λe w'=>e=ϱ (ϊ n)/\w'=w:=by
 let⟨_,_,_,_,_,h⟩:=h;exact qL5 A w h
def Wrs.qM3{w w'}{A:Nat}{n:Int}{L}(h:Wrs w A n)(hK:Kp L w w')(a:A∉L):Wrs w' A n:=by let⟨_,_,_,_,_,h⟩:=h;exact⟨_,_,_,_,_,hK.heap h a⟩
def Dn.wrs{κ}{A N C:Nat}{l}{ws}{wr:Int}{q}{w}(h:Dn κ A N C l ws wr q w):Wrs w A wr:=by let⟨p,v,c,h⟩:=h.at;exact⟨_,_,_,_,_,h⟩
def Lx(f:TF)(tb:Nat)(R:ϯ)(S:Ϥ)(w w':Ϣ):Prop:=∃a,R a/\Kp S w a/\Kp [tb] a w'/\w'.heap[tb]?=some (tob { f with dn:=true })
def MW(l:Bool)(B tb:Nat)(td y:Int)(k:KF)(f:TF)(ps)(ko:ϩ)(S)(R:ϯ)(w)(a:LkIn w B tb td k f ps)(H:ProgS w S)(M:Wrs w k.A y)(E:k.A∉S)(O:(k.po=true/\ko=some 7)\/(k.po=false/\f.dn=true/\ko=some 5)\/(k.po=false/\f.dn=false/\ko=none/\(l=false\/f.wr=false)))(N:Ω (if l then 31 else 36) #[ϖ f.x] w λe w'=>∃v,e=ϱ v/\ErrV w' v ko/\R w'/\Kp S w w'):
  Ω 135 #[ϖ B,ϖ tb,ϐ l] w λe w'=>e=ϱ (ϐ true)/\((ko≠none/\LC R S w w')\/(ko=none/\Lx f tb R S w w')):=by
 have:=U a.hB;have:=U a.hT;have:=a.hA.lt;have i:=hid a;have p:=hid H;have X:=hid E;have A:=hid M;have F:=a.hB;have K:=a.hT;have z:=hid N;have Z:=hid O;have r:=ϻ F 0;have t0:=ϻ K 0;clear a H F K N E O M;cases l<;>(
  simp only[Bool.false_eq_true,if_true,if_false]at z;go_enter func135,ntmps135;go_wp2_with fail;refine i.hA.call.mono ?_;rintro e w0 ⟨rfl,rfl⟩;go_wp2_with fail;refine A.call.mono ?_;rintro e w0 ⟨rfl,rfl⟩;go_wp2_with fail;refine(show Calls _ _ _ _ _ from z).mono ?_;rintro e n ⟨v,rfl,T,I,c⟩;have G:=p.out.stay c i.hB dC;have L:=p.out.stay c i.hT dC;have C:=A.out.qM3 c X.out;have Q:=p.out.g0 c i.g0 oM;have b:=hid (And.intro I c);clear r t0 I;go_wp2_with fail;obtain⟨x,t⟩:=eY (Ce ko);refine(Dh v ko n Q T).mono ?_;rintro e W ⟨P,g⟩;rw[t]at P;subst P;have q:=hid t;clear t;have m:=g.hp G;have d:=g.hp L;have D:=C.qM3 g sM;have:=U d;have:=U m;have r:=Y m 0;have j:=Y m 10;have V:=Y d 2;have u:=Y d 3;have:=ρ d 3;simp only[kob,tob,zG,zH,zI]at r j V u;have aa:=hid d;have o:=hid g;clear G L Q c g m T C d
  go_wp2_with (go_at_call 127;refine(BN _ _).mono ?_;rintro e W ⟨rfl,rfl⟩)
  refine D.call.mono ?_;rintro e W ⟨rfl,rfl⟩;clear D;have:wrap64 (y-y)=0:=by rw[Int.sub_self];simp only[wrap64];omega
  rcases Z with⟨h,rfl⟩|⟨h,s,rfl⟩|⟨h,s,rfl,ab⟩
  .obtain rfl:(7:Int)=x:=q.out;rw[h]at j;go_wp2;go_ret;exact⟨sM,.inl ⟨sM,n,b.1,b.2,o⟩⟩
  .obtain rfl:(5:Int)=x:=q.out;rw[h]at j;rw[s]at u;go_wp2;go_ret;exact⟨sM,.inl ⟨sM,n,b.1,b.2,o⟩⟩
  .obtain rfl:(0:Int)=x:=q.out;rw[h]at j;rw[s]at u
   try rw[show f.wr=false by simpa using ab]at V
   go_wp2;go_ret;exact⟨sM,n,b.1,b.2,(o.mono sM).sc _,ξ aa 3 _⟩)
def QM{p:Prop}(_h:p:=by
 refine wp_region_any kR ?_;change wpAny _ _ _ _ _ _ _ (World.drew _);refine zu 0 (ϖ B) ?_;refine zu 1 (ϖ B) ?_;refine zu 2 (ϖ B) ?_;refine zu 3 (.pointer (some (ϰ B 1))) ?_;refine zu 5 (ϖ B) ?_;refine zu 6 (ϖ B) ?_;refine zu 7 (.pointer (some (ϰ B 8))) ?_;refine wpAny_ready (rs:=[4,8]) kR sM ?_;exact Tz.out):p:=_h
def Vb(B tb:Nat)(td I:Int)(k:KF)(f:TF)(tbs)(Z:List (TF×Nat))(ps)(S)(R:ϩ->ϯ)(w)(hI:ChIn w B tb td k f ps)(hP:ProgS w S)(cz:Wrs w k.A I)(dc:k.po=false)(c1:f.dn=false)(hwr:f.wr=true)(hw0:0<=I)(hw1:I<=1000000000)(d1:0<=k.com)(hc1:k.com<=1000000)
  (cx:TFs w k tbs Z) (hn:tbs.length<=100000) (hl:∀x∈Z,x.2<=100000) (cb) (W cc:Nat) (hc:k.c=.slice cb W cc) (hcl:W<=100000) (c3:k.n<=100000)
  (base m s a u:Nat) (pm pw) (db:k.may=.slice pm m s) (de:k.qN4=.slice pw a u) {P E:Ϩ} (hm:RowM w base (.slice pm m s) m P) (hk:RowM w base (.slice pw a u) a E) (c6:m<=5000000000) (hk1:a<=100000)
  (c0:Ω 31 #[ϖ f.x] w λe w'=>∃v ko O,e=ϱ v/\ErrV w' v ko/\R ko w'/\Kp S w w'/\Wrs w' k.A O/\I<=O/\O-I<=12*f.chg+2/\(ko=none\/(ko=some 3/\Ee k W f.qN8 0 (Bm k.com Z)=false)\/(ioK ko=true/\More w' k.A td))):
  Ω 135 #[ϖ B,ϖ tb,ϐ true] w λe w'=>e=ϱ (ϐ true)/\∃ko w1,R ko w1/\Kp S w w1/\w'.heap[tb]?=some (tob { f with dn:=true })/\
   ((ko=some 3/\Kp [tb] w1 w')\/(ko=none/\Kp [tb,B] w1 w'/\∃j l g,w'.heap[B]?=some (kob { k with may:=.slice (some (ϰ j 0)) 1 1,emp:=false,qN4:=.slice (some (ϰ l 0)) (a+1) g,c:=f.v,com:=k.com+1 })/\w'.ownsRow w1.heap.size 126 1 (.slice (some (ϰ j 0)) 1 1) 1 [f.v]/\RowM w' w1.heap.size (.slice (some (ϰ l 0)) (a+1) g) (a+1) (E++[f.v]))\/(ioK ko=true/\Kp [tb,B] w1 w'/\∃j A l g,w'.heap[B]?=some (kob { k with may:=.slice (some (ϰ j 0)) (m+1) A,qN4:=.slice (some (ϰ l 0)) (a+1) g,po:=true })/\RowM w' w1.heap.size (.slice (some (ϰ j 0)) (m+1) A) (m+1) (P++[f.v])/\RowM w' w1.heap.size (.slice (some (ϰ l 0)) (a+1) g) (a+1) (E++[f.v]))):=by
 have Sz:Hid (∀{p:Prop},(_h:p:=by
  refine hK _ _ ?_
  try simp only[zZ]
  refine zQ 4 λK hK=>?_;refine AU rfl (Cw (t:=123) rfl kR 6 kR B 1 rfl (show b.drew.heap[B]?=_ from F) (by simp[kob]) (show _=#[ϊ k.n,.slice pm m s,.bool k.emp,.slice pw a u,.bool k.qO5,.bool k.bit] from by (try simp only[kob]);rw[HM.out.1,HM.out.2.1];rfl)) ?_;refine hK _ _ ?_
  try simp only[zZ]
  exact HREST)->p):=λh=>h
 have dv:=U hI.hB;have dz:=U hI.hT;have hAs:=hI.hA.lt;have o:=hid hI;have r:=hid hP;have dj:=hid cz;have hB:=hI.hB;have hT:=hI.hT;have co:=hid c0;have T:=hid (show TFs w k tbs Z/\tbs.length<=100000/\(∀x∈Z,x.2<=100000)/\k.c=.slice cb W cc/\W<=100000/\k.n<=100000 from⟨cx,hn,hl,hc,hcl,c3⟩);have HM:=hid (show k.may=.slice pm m s/\k.qN4=.slice pw a u/\RowM w base (.slice pm m s) m P/\RowM w base (.slice pw a u) a E/\m<=5000000000/\a<=100000 from⟨db,de,hm,hk,c6,hk1⟩);let⟨vp,vc,hvv⟩:=hI.sp.form;let⟨vl,dd⟩:=eX ps.length;rw[<-dd]at hvv;have V:=hid hvv;have G:=hid (show B≠tb from υ hB hT dC);have d2:=hI.c0;have d3:=hI.c1;have b0:=ϻ hB 0;have t0:=ϻ hT 0;clear hI hP hB hT c0 cz cx hn hl hc hcl c3 hm hk db de c6 hk1 hvv dd;go_enter func135,ntmps135;go_wp2_with fail;refine o.hA.call.mono ?_;rintro e w0 ⟨rfl,rfl⟩;go_wp2_with fail;refine dj.call.mono ?_;rintro e w0 ⟨rfl,rfl⟩;go_wp2_with fail;refine(show Calls _ _ _ _ _ from co).mono ?_;rintro e w1 ⟨v,ko,O,rfl,hv,hR,hK1,ct,dq,dr,c4⟩;have hB1:=r.out.stay hK1 o.hB dC;have hT1:=r.out.stay hK1 o.hT dC;have c2:=r.out.g0 hK1 o.g0 oM;have HR:=hid (And.intro hR hK1);have dg:=hid c4;clear b0 t0 hR c4 co;go_wp2_with fail;let⟨tk,htk⟩:=eY (Ce ko);refine(Dh v ko w1 c2 hv).mono ?_;rintro e w2 ⟨he,hK2⟩;rw[htk]at he;subst he;have HTK:=hid htk;clear htk;have hB2:=hK2.hp hB1;have hT2:=hK2.hp hT1;have cu:=ct.qM3 hK2 sM;have cy:=(r.tfs HR.2 T.1).qM4 hK2;have dw:=U hT2;have dt:=U hB2;have b0:=ϻ hB2 0;have b5:=ϻ hB2 5;have cr:=ϻ hB2 10;have t2:=ϻ hT2 2;have t3:=ϻ hT2 3;have t4:=ϻ hT2 4;rw[dc]at cr;rw[c1]at t3;rw[hwr]at t2;clear c1 hwr dc;have cq:=hid hT2;have ca:=hid hB2;have df:=hid hK2;have di:=hid cy;clear hB1 hT1 c2 hK1 hK2 hB2 hv ct hT2 cy
 go_wp2_with (go_at_call 127;refine(BN _ _).mono ?_;rintro e w2 ⟨rfl,rfl⟩)
 refine cu.call.mono ?_;rintro e w2 ⟨rfl,rfl⟩;clear cu;have ds:wrap64 (O-I)=O-I:=by simp only[wrap64];omega
 have dm:¬12*f.chg+2<O-I:=oM
 go_wp2_with fail;refine(OM B tb k f tbs Z 0 w2 ca cq di T.2.1 T.2.2.1 cb W cc T.2.2.2.1 T.2.2.2.2.1 o.m0 o.m1 oM oM T.2.2.2.2.2).mono ?_;rintro e w3 ⟨rfl,bl⟩;have ah:=bl.hp cq.out;have hB3:=bl.hp ca.out;have dx:=U ah;have du:=U hB3;have hKw3:=df.out.tr bl;clear ds dm dq dr b0 b5 cr t2 t3 t4;have t1:=ϻ ah 1;have t3:=ϻ ah 3;have f3:=ρ ah 3;have b8:=Y hB3;simp only[kob,zG,zH,zI]at b8;have cs:=ρ hB3;rw[V.out]at t1;have d0:=G.out;have b3:=hid ah;have cn:=hid hB3;have b2:=hid hKw3;clear ah hB3 hKw3 bl;rcases dg with rfl|⟨rfl,dp⟩|⟨b7,da⟩
 .obtain rfl:(0:Int)=tk:=HTK.out;clear HTK;go_wp2_with fail;obtain⟨b,a8,a6,M,a4⟩:∃b,b=((w3.setCell (ϰ tb 3) (.bool true)).setCell (ϰ B 8) (.slice vp vl vc)).setCell (ϰ B 9) (ϊ (k.com+1))/\b.heap[tb]?=some (tob { f with dn:=true })/\b.heap[B]?=some (kob { k with c:=.slice vp vl vc,com:=k.com+1 })/\Kp [tb,B] w1 b:=
   ⟨_,rfl,(AM G.symm _ _).trans ((AM G.symm _ _).trans (ξ b3 3 _)),ξ (ξ ((AM G _ _).trans cn) 8 _) 9 _,(((b2.mono sM).sc _).sc _).sc _⟩
  rw[<-a8];clear a8 t1 t3 f3 b8 cs;have Q:=hid a6;have L:=hid a4;have bs:=hid (show Apart w1 [tb,B] 126 from λi hi=>by
   simp only[List.mem_cons,List.not_mem_nil,or_false]at hi;rcases hi with rfl|rfl
   .exact⟨_,_,_,r.stay HR.2 o.hT dC,dC⟩
   .exact⟨_,_,_,r.stay HR.2 o.hB dC,dC⟩)
  have hrow:∀v n xs,RowM w0 base v n xs->RowM b.drew base v n xs:=λv n xs h=>((h.kp HR.2 (λq c t fr e hq et=>by have:=(r q hq).2 _ _ _ e;rw[et]at this;revert this;decide)).qM3 L bs).qM3 ((Kp.refl [] _).drew) (by intro q hq;cases hq);have a0:=hid (show RowM b.drew base (.slice pm m s) m P/\RowM b.drew base (.slice pw a u) a E from⟨hrow _ _ _ HM.2.2.1,hrow _ _ _ HM.2.2.2.1⟩);clear a6 a4 hrow;have F:=hid M;have dk:B<b.drew.heap.size:=U M;clear M;refine shr (α:=Prop) (R:=λX=>X) ?_;apply Exists.intro;apply And.intro
  rotate_left
  .intro HREST;have Tz:Hid (∀{p:Prop},(_h:p:=by
    refine AllReady.cons rfl (λK hK=>?_) (AllReady.cons rfl (λK hK=>?_) AllReady.nil)
    .refine AU rfl (Cw (t:=123) rfl kR 6 kR B 1 rfl (show b.drew.heap[B]?=_ from F) (by simp[kob]) (show _=#[ϊ k.n,.slice pm m s,.bool k.emp,.slice pw a u,.bool k.qO5,.bool k.bit] from by (try simp only[kob]);rw[HM.out.1,HM.out.2.1];rfl)) ?_;refine hK _ _ ?_
     try simp only[zZ]
     refine zQ 8 λK hK=>?_;refine AU rfl (Cw (t:=126) rfl kR 1 kR B 8 rfl (show b.drew.heap[B]?=_ from F) (by simp[kob]) (show _=#[.slice vp vl vc] from rfl)) ?_;refine hK _ _ ?_
     try simp only[zZ]
     exact HREST
    .refine AU rfl (Cw (t:=126) rfl kR 1 kR B 8 rfl (show b.drew.heap[B]?=_ from F) (by simp[kob]) (show _=#[.slice vp vl vc] from rfl)) ?_;exact Sz.out)->p):=λh=>h;exact QM
  refine zQ 9 λK hK=>?_;go_simp;refine(Kx base m s a u pm pw k.n k.emp k.qO5 k.bit vp vl vc b.drew a0.1 a0.2 HM.2.2.2.2.1 HM.2.2.2.2.2).mono ?_;rintro e D ⟨j,l,g,rfl,a7,ba,N⟩;have z:=N.heap (k:=B) F sM;have a2:=hid z;have ad:=hid N;have a1:=hid (And.intro a7 ba);have dl:=U z;refine hK _ _ ?_;clear hK K N a7 ba
  try simp only[zZ]
  refine zu 10 (ϖ B) ?_;refine zu 11 (.pointer (some (ϰ B 1))) ?_;have b1:=Y z;simp only[kob,zG,zH,zI]at b1;have b4:=ρ z;clear z;refine zQ 12 λK hK=>?_;go_simp;refine hK _ _ ?_;refine wpAny_done kR ?_ _;obtain⟨d,a9,a3,y⟩:∃d,d=(((((D.setCell (ϰ B 1) (ϊ k.n)).setCell (ϰ B 2) (.slice (some (ϰ j 0)) 1 1)).setCell (ϰ B 3) (.bool false)).setCell (ϰ B 4) (.slice (some (ϰ l 0)) (a+1) g)).setCell (ϰ B 5) (.bool k.qO5)).setCell (ϰ B 6) (.bool k.bit)/\d.heap[B]?=some (kob { k with may:=.slice (some (ϰ j 0)) 1 1,emp:=false,qN4:=.slice (some (ϰ l 0)) (a+1) g,c:=.slice vp vl vc,com:=k.com+1 })/\Kp [B] D d:=
   ⟨_,rfl,ξ (ξ (ξ (ξ (ξ (ξ a2 1 _) 2 _) 3 _) 4 _) 5 _) 6 _,(((((((Kp.refl [B] D).sc _).sc _).sc _).sc _).sc _).sc _)⟩
  rw[<-a9];have H:=hid (show d.heap[B]?=some (kob { k with may:=.slice (some (ϰ j 0)) 1 1,emp:=false,qN4:=.slice (some (ϰ l 0)) (a+1) g,c:=f.v,com:=k.com+1 })/\Kp [tb,B] w1 d/\d.heap[tb]?=some (tob { f with dn:=true }) from⟨by rw[V.out];exact a3,((L.drew).tr ad).tr y,y.heap (ad.heap (k:=tb) Q sM) (by simpa using G.symm)⟩);have bb:=hid (show d.ownsRow w1.heap.size 126 1 (.slice (some (ϰ j 0)) 1 1) 1 [f.v]/\RowM d w1.heap.size (.slice (some (ϰ l 0)) (a+1) g) (a+1) (E++[f.v]) from by
   have C:∀q c t fr,D.heap[q]?=some (ϲ c t fr)->q∈[B]->t≠126:=λq c t fr e hq et=>by
    rw[List.mem_singleton.1 hq,a2.out]at e;cases e
    revert et
    decide
   have hsz:w1.heap.size<=b.drew.heap.size:=L.out.size;rw[V.out];exact⟨Bp (Ct a1.1 hsz) y C,(a1.2.le hsz).kp y C⟩)
  clear a9 a3 y b1 b4;go_wp2;go_ret;exact⟨rfl,none,w1,HR.1,HR.2,H.2.2,.inr (.inl ⟨rfl,H.2.1,j,l,g,H.1,bb⟩)⟩
 .rw[dp];obtain rfl:(3:Int)=tk:=HTK.out;clear HTK;go_wp2;go_ret;exact⟨sM,some 3,w1,HR.1,HR.2,ξ b3 3 (.bool true),.inl ⟨rfl,(b2.mono sM).sc _⟩⟩
 .obtain rfl:(8:Int)=tk:=(Ci b7).1.symm.trans HTK.out;have cp:=hid (And.intro b7 da);clear HTK b7 da;go_wp2_with fail;obtain⟨b,a8,a6,M,a4⟩:∃b,b=w3.setCell (ϰ tb 3) (.bool true)/\b.heap[tb]?=some (tob { f with dn:=true })/\b.heap[B]?=some (kob k)/\Kp [tb] w1 b:=
   ⟨_,rfl,ξ b3 3 _,(AM G _ _).trans cn,(b2.mono sM).sc _⟩
  rw[<-a8];clear a8 t1 t3 f3 b8 cs;have Q:=hid a6;have L:=hid a4;have bs:=hid (show Apart w1 [tb] 126 from λi hi=>by
   rw[List.mem_singleton.1 hi];exact⟨_,_,_,r.stay HR.2 o.hT dC,dC⟩)
  have hrow:∀v n xs,RowM w0 base v n xs->RowM b.drew base v n xs:=λv n xs h=>((h.kp HR.2 (λq c t fr e hq et=>by have:=(r q hq).2 _ _ _ e;rw[et]at this;revert this;decide)).qM3 L bs).qM3 ((Kp.refl [] _).drew) (by intro q hq;cases hq);have a0:=hid (show RowM b.drew base (.slice pm m s) m P/\RowM b.drew base (.slice pw a u) a E from⟨hrow _ _ _ HM.2.2.1,hrow _ _ _ HM.2.2.2.1⟩);clear a6 a4 hrow;have F:=hid M;have dk:B<b.drew.heap.size:=U M;have dy:tb<b.drew.heap.size:=U Q.out;clear M;refine shr (α:=Prop) (R:=λX=>X) ?_;apply Exists.intro;apply And.intro
  rotate_left
  .intro HREST;refine wp_region_any kR ?_;change wpAny _ _ _ _ _ _ _ (World.drew _);refine zu 0 (ϖ B) ?_;refine zu 1 (ϖ B) ?_;refine zu 2 (ϖ B) ?_;refine zu 3 (.pointer (some (ϰ B 1))) ?_;refine zu 5 (ϖ tb) ?_;refine zu 6 (ϖ tb) ?_;refine zu 7 (.pointer (some (ϰ tb 1))) ?_;refine zu 8 (.pointer (some (ϰ tb 1))) ?_;refine wpAny_ready (rs:=[4,9]) kR sM ?_;refine AllReady.cons rfl (λK hK=>?_) (AllReady.cons rfl (λK hK=>?_) AllReady.nil)
   .refine AU rfl (Cw (t:=123) rfl kR 6 kR B 1 rfl (show b.drew.heap[B]?=_ from F) (by simp[kob]) (show _=#[ϊ k.n,.slice pm m s,.bool k.emp,.slice pw a u,.bool k.qO5,.bool k.bit] from by (try simp only[kob]);rw[HM.out.1,HM.out.2.1];rfl)) ?_;refine hK _ _ ?_
    try simp only[zZ]
    refine zQ 9 λK hK=>?_;refine AU rfl (Cw (t:=126) rfl kR 1 kR tb 1 rfl (show b.drew.heap[tb]?=_ from Q) (by simp[tob]) (show _=#[.slice vp vl vc] from by (try simp only[tob]);rw[V.out];rfl)) ?_;refine hK _ _ ?_
    try simp only[zZ]
    exact HREST
   .refine AU rfl (Cw (t:=126) rfl kR 1 kR tb 1 rfl (show b.drew.heap[tb]?=_ from Q) (by simp[tob]) (show _=#[.slice vp vl vc] from by (try simp only[tob]);rw[V.out];rfl)) ?_;exact Sz.out
  refine zQ 10 λK hK=>?_;go_simp;refine(La base m s a u pm pw k.n k.emp k.qO5 k.bit vp vl vc b.drew a0.1 a0.2 HM.2.2.2.2.1 HM.2.2.2.2.2).mono ?_;rintro e D ⟨j,A,l,g,rfl,a7,ba,N⟩;have z:=N.heap (k:=B) F sM;have a2:=hid z;have ad:=hid N;have a1:=hid (And.intro a7 ba);have dl:=U z;refine hK _ _ ?_;clear hK K N a7 ba
  try simp only[zZ]
  refine zu 11 (ϖ B) ?_;refine zu 12 (.pointer (some (ϰ B 1))) ?_;have b1:=Y z;simp only[kob,zG,zH,zI]at b1;have b4:=ρ z;clear z;refine zQ 13 λK hK=>?_;go_simp;refine hK _ _ ?_;refine wpAny_done kR ?_ _;obtain⟨d,a9,a3,y⟩:∃d,d=(((((D.setCell (ϰ B 1) (ϊ k.n)).setCell (ϰ B 2) (.slice (some (ϰ j 0)) (m+1) A)).setCell (ϰ B 3) (.bool k.emp)).setCell (ϰ B 4) (.slice (some (ϰ l 0)) (a+1) g)).setCell (ϰ B 5) (.bool k.qO5)).setCell (ϰ B 6) (.bool k.bit)/\d.heap[B]?=some (kob { k with may:=.slice (some (ϰ j 0)) (m+1) A,qN4:=.slice (some (ϰ l 0)) (a+1) g })/\Kp [B] D d:=
   ⟨_,rfl,ξ (ξ (ξ (ξ (ξ (ξ a2 1 _) 2 _) 3 _) 4 _) 5 _) 6 _,(((((((Kp.refl [B] D).sc _).sc _).sc _).sc _).sc _).sc _)⟩
  rw[<-a9];have b6:=(((L.mono (S':=[tb,B]) sM).drew).tr ad).tr y;have C:∀q c t fr,D.heap[q]?=some (ϲ c t fr)->q∈[B]->t≠126:=λq c t fr e hq et=>by
   rw[List.mem_singleton.1 hq,a2.out]at e;cases e
   revert et
   decide
  have hsz:w1.heap.size<=b.drew.heap.size:=L.out.size;have bb:=hid (show RowM d w1.heap.size (.slice (some (ϰ j 0)) (m+1) A) (m+1) (P++[f.v])/\RowM d w1.heap.size (.slice (some (ϰ l 0)) (a+1) g) (a+1) (E++[f.v]) from by
   rw[V.out];exact⟨(a1.1.le hsz).kp y C,(a1.2.le hsz).kp y C⟩)
  have H:=hid (show d.heap[B]?=_/\Kp [tb,B] w1 d/\d.heap[tb]?=some (tob { f with dn:=true }) from⟨a3,b6,y.heap (ad.heap (k:=tb) Q sM) (by simpa using G.symm)⟩);have dh:=hid (show More d k.A td from by
   let⟨t',ht,hd⟩:=cp.out.2;have h1:=hd.ne (r.stay HR.2 o.hB dC);have h2:tb≠k.A:=by
    let⟨_,_,_,_,_,_,hd,_⟩:=hd;exact υ (r.stay HR.2 o.hT dC) hd dC
   exact⟨t',ht,hd.qM3 b6 (by simpa using⟨h2.symm,h1.symm⟩)⟩)
  clear a9 a3 y b1 b4 b6 C hsz;go_wp2_with fail;refine(ES B { k with may:=.slice (some (ϰ j 0)) (m+1) A,qN4:=.slice (some (ϰ l 0)) (a+1) g } td d H.1 dh).mono ?_;rintro e w8 ⟨rfl,cv,a5⟩;have HE:=hid (show w8.heap[B]?=_/\Kp [tb,B] w1 w8/\w8.heap[tb]?=some (tob { f with dn:=true })/\RowM w8 w1.heap.size (.slice (some (ϰ j 0)) (m+1) A) (m+1) (P++[f.v])/\RowM w8 w1.heap.size (.slice (some (ϰ l 0)) (a+1) g) (a+1) (E++[f.v]) from by
   have C:∀q c t fr,d.heap[q]?=some (ϲ c t fr)->q∈[B]->t≠126:=λq c t fr e hq et=>by
    rw[List.mem_singleton.1 hq,H.out.1]at e;cases e
    revert et
    decide
   exact⟨cv,H.2.1.trans a5 (by simp +contextual),a5.heap H.2.2 (by simpa using G.symm),bb.1.kp a5 C,bb.2.kp a5 C⟩)
  clear cv a5;go_wp2;go_ret;exact⟨rfl,_,w1,HR.1,HR.2,HE.2.2.1,.inr (.inr ⟨cp.1,HE.2.1,j,A,l,g,HE.1,HE.2.2.2.1,HE.2.2.2.2⟩)⟩
def KF.shut(k:KF):KF:={ k with x:=none,ts:=.slice none 0 0,po:=false }
def Jk(B:Nat)(k:KF)(w)(h:w.heap[B]?=some (kob k)):
  Ω 125 #[ϖ B] w λe w'=>e=ϱ (.tuple #[])/\w'.heap[B]?=some (kob k.shut)/\Kp [B] w w':=by
 have a:=Y h;simp only[kob,zG,zH,zI]at a;have:=ρ h;go_enter func125,ntmps125;go_wp2
 go_end0
 exact⟨rfl,ξ (ξ (ξ h 7 _) 11 _) 10 _,(((Kp.refl _ _).sc _).sc _).sc _⟩
def Nj(may qN4)(n:Nat)(e b a:Bool)(w):Ω 128 #[.agg #[ϊ n,may,ϐ e,qN4,ϐ b,ϐ a]] w λr w'=>r=ϱ (ϐ (decide (8<=n/\n<=400)))/\Kp [] w w':=by
 by_cases h:8<=n/\n<=400
 .rw[decide_eq_true h];exact VJ may qN4 n e b a w h.1 h.2
 .rw[decide_eq_false h];exact VI may qN4 n e b a w oM
def KF.only(k:KF)(gm gw kk cw:Nat):KF:={ k with may:=.slice (some ⟨gm,0,none⟩) 1 1,emp:=false,qN4:=.slice (some ⟨gw,0,none⟩) (kk+1) cw }
def VW(B:Nat)(td:Int)(k:KF)(S)(R:ϩ->ϯ)(w)(hB:w.heap[B]?=some (kob k))(hA:Tld w k.A td)(hP:ProgS w S)(hg:w.cell? (ϰ 0 0)=some Bd)(h0:0<B)
  (base m H b I:Nat) (pm pw) (a9:k.may=.slice pm m H) (ba:k.qN4=.slice pw b I) {P G:Ϩ} (hm:RowM w base (.slice pm m H) m P) (hk:RowM w base (.slice pw b I) b G) (a7:m<=5000000000) (a5:b<=100000)
  (a3:∀W,Kp [B] w W->Ω 42 #[ϖ k.A] W λe w'=>∃v ko,e=ϱ v/\ErrV w' v ko/\R ko w'/\Kp S W w'/\((ko=none/\(8<=k.n/\k.n<=400))\/(ko=some 10/\¬(8<=k.n/\k.n<=400))\/(ioK ko=true/\(8<=k.n/\k.n<=400)/\More w' k.A td))):
  Ω 80 #[ϖ B] w λe w'=>e=ϱ (ϐ true)/\∃ko A,R ko A/\Kp (B::S) w A/\
   ((ko=some 10/\Kp [] A w'/\w'.heap[B]?=some (kob k.shut))\/(ko=none/\Kp [B] A w'/\∃i j g,w'.heap[B]?=some (kob { k.shut.only i j b g with qO5:=false,bit:=false })/\w'.ownsRow A.heap.size 126 1 (.slice (some (ϰ i 0)) 1 1) 1 [.slice none 0 0]/\RowM w' A.heap.size (.slice (some (ϰ j 0)) (b+1) g) (b+1) (G++[.slice none 0 0]))\/
    (ioK ko=true/\Kp [B] A w'/\∃i L j g,w'.heap[B]?=some (kob { k.shut with may:=.slice (some (ϰ i 0)) (m+1) L,emp:=true,qN4:=.slice (some (ϰ j 0)) (b+1) g })/\RowM w' A.heap.size (.slice (some (ϰ i 0)) (m+1) L) (m+1) (P++[.slice none 0 0])/\RowM w' A.heap.size (.slice (some (ϰ j 0)) (b+1) g) (b+1) (G++[.slice none 0 0]))):=by
 have bl:=U hB;have HP:=hid hP;have HB:=hid hB;have av:=hid a3;have D:=hid (show k.may=.slice pm m H/\k.qN4=.slice pw b I/\RowM w base (.slice pm m H) m P/\RowM w base (.slice pw b I) b G/\m<=5000000000/\b<=100000 from⟨a9,ba,hm,hk,a7,a5⟩);have bd:=hid (hA.ne hB).symm;have HA:=hid hA;have HG:=hid hg;have hz:0<w.heap.size:=oM
 clear hP hB a3 hm hk a9 ba a7 a5 hA hg;go_enter func80,ntmps80;go_wp2_with fail;refine(Jk B k w HB.out).mono ?_;rintro e A ⟨rfl,ai,al⟩;have a0:=HA.out.qM3 al (by simpa using bd.out);have bj:=U ai;have b0:=Y ai 0;simp only[kob,KF.shut,zG,zH,zI]at b0;have bb:=hid ai;have ax:=hid al;clear ai al;go_wp2_with fail;refine a0.call.mono ?_;rintro e A ⟨rfl,rfl⟩;clear a0;go_wp2_with fail;refine(show Calls _ _ _ _ _ from av.out A ax.out).mono ?_;rintro e p ⟨v,ko,rfl,hv,hR,am,a6⟩;have a2:B∉S:=λhm=>absurd ((HP.out B hm).2 _ _ _ HB.out) dC;have a1:=am.heap bb.out a2;have ae:Kp (B::S) w p:=(ax.out.mono sM).trans am (by simp +contextual);have az:0∉B::S:=λhm=>by
  rcases List.mem_cons.1 hm with h|h
  .omega
  .have:=(HP.out _ h).1;omega
 have a4:=(ae.cell (a:=(ϰ 0 0)) hz az).trans HG.out;clear az;have F:∀q c t M,w.heap[q]?=some (ϲ c t M)->q∈B::S->t≠126:=λq c t M e o et=>by
  rcases List.mem_cons.1 o with rfl|o
  .rw[HB.out]at e;cases e;revert et;decide
  .have:=(HP.out q o).2 _ _ _ e;rw[et]at this;revert this;decide
 have X:=hid (And.intro hR ae);have ah:=hid (show RowM p base (.slice pm m H) m P/\RowM p base (.slice pw b I) b G from⟨D.out.2.2.1.kp ae F,D.out.2.2.2.1.kp ae F⟩);have bf:=hid a6;have au:=hid a1;clear hR a6 am ae F a2 b0 a1 av;go_wp2_with fail;let⟨tk,ar⟩:=eY (Ce ko);refine(Dh v ko p a4 hv).mono ?_;rintro e w3 ⟨he,ao⟩;rw[ar]at he;subst he;have Z:=hid ar;clear ar;have K:=ao.hp au.out;have bh:=U K;have u:=Y K 1;have l:=Y K 2;have x:=Y K 3;have n:=Y K 4;have y:=Y K 5;have z:=Y K 6;simp only[kob,KF.shut,zG,zH,zI]at u l x n y z;have bc:=hid K;have be:=hid ao;clear ao a4 hv K
 go_wp2_with (go_at_call 127;refine(BN _ _).mono ?_;rintro e w3 ⟨rfl,rfl⟩)
 refine(Nj _ _ k.n _ _ _ w3).mono ?_;rintro e C ⟨rfl,ap⟩;have f:=ap.hp bc.out;have bk:=U f;have E:=be.out.tr ap;clear ap u l x n y z bh;rcases bf.out with⟨rfl,O⟩|⟨rfl,O⟩|⟨aq,O,a8⟩
 .rw[decide_eq_true O];obtain rfl:(0:Int)=tk:=Z.out;clear Z;have u:=Y f 1;have l:=Y f 2;have x:=Y f 3;have n:=Y f 4;have y:=Y f 5;have z:=Y f 6;simp only[kob,KF.shut,zG,zH,zI]at u l x n y z;rw[D.out.1]at l;rw[D.out.2.1]at n;have aa:=hid f;have Q:=hid E;have ac:=hid (show RowM C base (.slice pm m H) m P/\RowM C base (.slice pw b I) b G from⟨ah.out.1.qM3 E (by intro q o;cases o),ah.out.2.qM3 E (by intro q o;cases o)⟩);clear O f E;go_wp2_with fail;refine(Kx base m H b I pm pw k.n k.emp k.qO5 k.bit none 0 0 C ac.out.1 ac.out.2 D.out.2.2.2.2.1 D.out.2.2.2.2.2).mono ?_;rintro e r ⟨i,j,g,rfl,af,ag,V⟩;have d:=V.hp aa.out;have bi:=U d;clear u l x n y z;have u:=Y d 1;have l:=Y d 2;have x:=Y d 3;have n:=Y d 4;have y:=Y d 5;have z:=Y d 6;simp only[kob,KF.shut,zG,zH,zI]at u l x n y z;have ay:=ρ d;have ab:=hid d;have T:=hid (show r.ownsRow C.heap.size 126 1 (.slice (some (ϰ i 0)) 1 1) 1 [.slice none 0 0]/\RowM r C.heap.size (.slice (some (ϰ j 0)) (b+1) g) (b+1) (G++[.slice none 0 0])/\Kp [] p r from⟨af,ag,Q.out.tr V⟩);have ad:=hid (show p.heap.size<=C.heap.size from Q.out.size);clear d af ag V;go_wp2;go_ret;obtain⟨s,ak,aj,N⟩:∃s,s=((((((((r.setCell (ϰ B 1) (ϊ k.n)).setCell (ϰ B 2) (.slice (some (ϰ i 0)) 1 1)).setCell (ϰ B 3) (.bool false)).setCell (ϰ B 4) (.slice (some (ϰ j 0)) (b+1) g)).setCell (ϰ B 5) (.bool k.qO5)).setCell (ϰ B 6) (.bool k.bit)).setCell (ϰ B 5) (.bool false)).setCell (ϰ B 6) (.bool false))/\s.heap[B]?=some (kob { k.shut.only i j b g with qO5:=false,bit:=false })/\Kp [B] r s:=
   ⟨_,rfl,ξ (ξ (ξ (ξ (ξ (ξ (ξ (ξ ab.out 1 _) 2 _) 3 _) 4 _) 5 _) 6 _) 5 _) 6 _,(((((((((Kp.refl [B] r).sc _).sc _).sc _).sc _).sc _).sc _).sc _).sc _)⟩
  rw[<-ak];have F:∀q c t M,r.heap[q]?=some (ϲ c t M)->q∈[B]->t≠126:=λq c t M e o=>by
   rw[List.mem_singleton.1 o,ab.out]at e;cases e;decide
  exact⟨rfl,none,p,X.out.1,X.out.2,.inr (.inl ⟨rfl,(T.out.2.2.mono sM).tr N,i,j,g,aj,Bp (Ct T.out.1 ad.out) N F,(T.out.2.1.le ad.out).kp N F⟩)⟩
 .rw[decide_eq_false O];obtain rfl:(10:Int)=tk:=Z.out;clear Z;have aa:=hid f;have Q:=hid E;clear O f E;go_wp2;go_ret;exact⟨rfl,some 10,p,X.out.1,X.out.2,.inl ⟨rfl,Q.out,aa.out⟩⟩
 .rw[decide_eq_true O];obtain rfl:(8:Int)=tk:=(Ci aq).1.symm.trans Z.out;have aw:=hid (And.intro aq a8);clear Z aq a8;have u:=Y f 1;have l:=Y f 2;have x:=Y f 3;have n:=Y f 4;have y:=Y f 5;have z:=Y f 6;simp only[kob,KF.shut,zG,zH,zI]at u l x n y z;rw[D.out.1]at l;rw[D.out.2.1]at n;have aa:=hid f;have Q:=hid E;have ac:=hid (show RowM C base (.slice pm m H) m P/\RowM C base (.slice pw b I) b G from⟨ah.out.1.qM3 E (by intro q o;cases o),ah.out.2.qM3 E (by intro q o;cases o)⟩);clear O f E;go_wp2_with fail;refine(La base m H b I pm pw k.n k.emp k.qO5 k.bit none 0 0 C ac.out.1 ac.out.2 D.out.2.2.2.2.1 D.out.2.2.2.2.2).mono ?_;rintro e r ⟨i,L,j,g,rfl,af,ag,V⟩;have d:=V.hp aa.out;have bi:=U d;clear u l x n y z;have b0:=Y d 0;have u:=Y d 1;have l:=Y d 2;have x:=Y d 3;have n:=Y d 4;have y:=Y d 5;have z:=Y d 6;simp only[kob,KF.shut,zG,zH,zI]at b0 u l x n y z;have ay:=ρ d;have ab:=hid d;have T:=hid (show RowM r C.heap.size (.slice (some (ϰ i 0)) (m+1) L) (m+1) (P++[.slice none 0 0])/\RowM r C.heap.size (.slice (some (ϰ j 0)) (b+1) g) (b+1) (G++[.slice none 0 0])/\Kp [] p r from⟨af,ag,Q.out.tr V⟩);have ad:=hid (show p.heap.size<=C.heap.size from Q.out.size);clear d af ag V;go_wp2_with fail;obtain⟨s,ak,aj,N⟩:∃s,s=(((((((r.setCell (ϰ B 1) (ϊ k.n)).setCell (ϰ B 2) (.slice (some (ϰ i 0)) (m+1) L)).setCell (ϰ B 3) (.bool k.emp)).setCell (ϰ B 4) (.slice (some (ϰ j 0)) (b+1) g)).setCell (ϰ B 5) (.bool k.qO5)).setCell (ϰ B 6) (.bool k.bit)).setCell (ϰ B 3) (.bool true))/\s.heap[B]?=some (kob { k.shut with may:=.slice (some (ϰ i 0)) (m+1) L,emp:=true,qN4:=.slice (some (ϰ j 0)) (b+1) g })/\Kp [B] r s:=
   ⟨_,rfl,ξ (ξ (ξ (ξ (ξ (ξ (ξ ab.out 1 _) 2 _) 3 _) 4 _) 5 _) 6 _) 3 _,((((((((Kp.refl [B] r).sc _).sc _).sc _).sc _).sc _).sc _).sc _)⟩
  rw[<-ak];have F:∀q c t M,r.heap[q]?=some (ϲ c t M)->q∈[B]->t≠126:=λq c t M e o=>by
   rw[List.mem_singleton.1 o,ab.out]at e;cases e;decide
  have an:Kp [B] p s:=(T.out.2.2.mono sM).tr N;have HE:=hid (show Kp [B] p s/\s.heap[B]?=_/\RowM s p.heap.size (.slice (some (ϰ i 0)) (m+1) L) (m+1) (P++[.slice none 0 0])/\RowM s p.heap.size (.slice (some (ϰ j 0)) (b+1) g) (b+1) (G++[.slice none 0 0]) from⟨an,aj,(T.out.1.le ad.out).kp N F,(T.out.2.1.le ad.out).kp N F⟩);let⟨t',ht,hd⟩:=aw.out.2;have bg:=hid (hd.qM3 an (by simpa using(hd.ne au.out).symm));clear ak aj N F an hd b0 u l x n y z ay;refine(show Calls _ _ _ _ _ from bg.out.call).mono ?_;rintro e w7 ⟨rfl,rfl⟩;go_wp2;go_ret;exact⟨sM,_,p,X.out.1,X.out.2,.inr (.inr ⟨aw.out.1,HE.out.1,i,L,j,g,HE.out.2⟩)⟩
def Bk(V:Nat)(b:Int)(k:ByteArray):Obj:=.cells #[.pointer (some ⟨V,0,none⟩),.int .i64 b,.string k] 293
def EC(w):Ω 253 #[ϐ true] w λe w'=>e=ϱ (.tuple #[])/\w'=w:=by
 go_enter func253,ntmps253;go_wp2
 go_end0
 exact⟨rfl,rfl⟩
def OV(O:AS)(n:Nat)(q:Nat)(t)(w)(h:RN O n w q t)(d:cnt n t<=1000000):
  Ω 161 #[ϖ q] w λe w'=>e=ϱ (ϊ (cnt n t))/\∃m,w'=w.drewN m:=by
 let⟨k,p,o,g,j,i,a,b⟩:=h.obj;have c:=zh b;rw[<-b]at d;have:=U a;have f:=Y a;simp only[Ai,zG,zH,zI]at f;clear h a b;go_enter func161,ntmps161;go_wp2_with fail
 go_quiet (fail)
 go_wp2;go_ret;exact⟨BV (by rw[<-c.out];omega),_,rfl⟩
section
variable {κ:Kd} {V A N C:Nat} {l:ϣ} {ws:ϥ} {wr:Int} {qc:Ϥ}
def YT(n b:Nat)(s:Int)(t)(w)(j:Dw κ V A N C l ws wr qc w)(B:Laid N (laidAll l ws) n b s t):
  (EW κ V A N C l ws wr qc).toEnv.C 217 #[ϖ V,.agg #[ϊ b,.int .u64 s]] w λe w'=>∃q,e=ϱ (.tuple #[ϖ q,ϐ true])/\RN (Laid N (laidAll l ws)) n w' q t/\(EW κ V A N C l ws wr qc).toEnv.To w w':=by
 let⟨base,j,k⟩:=j
 cases n with
 | zero=>
  let⟨E,m,z,a,o,p,r⟩:=B;rw[z];refine(PB j b (prs t) m a o p r).mono ?_;rintro e w' ⟨⟨c,d⟩|⟨q,v,rfl,y,_,x,u⟩,f,g⟩
  .exact .inl ⟨c.2,⟨_,d,g.trans k⟩,f⟩
  exact .inr ⟨q,rfl,⟨v,y,Cm x⟩,⟨_,u,g.trans k⟩,f⟩
 | succ n=>
  let⟨E,m,z,D,a,o,p,r,F,G⟩:=B;rw[o];refine(PA j b D ((n+1:Nat):Int) oM oM m p (Laid.links a r j.N1) F G).mono ?_;rintro e w' ⟨⟨c,d⟩|⟨q,v,rfl,y,_,x,u⟩,f,g⟩
  .exact .inl ⟨c.2,⟨_,d,g.trans k⟩,f⟩
  exact .inr ⟨q,rfl,⟨v,y,D,Cm x,⟨a.1,λi c d=>(a.2 i c d).mono (λ_ h=>h.elim) (λ_ _ h=>h)⟩⟩,⟨_,u,g.trans k⟩,f⟩
def RN.lev{O:AS}{n:Nat}{w}{q:Nat}{t}(h:RN O n w q t):∃c b,w.heap[q]?=some (Ai (n:Int) c b):=by
 cases n with
 | zero=>let⟨c,a,_⟩:=h;exact⟨_,_,a⟩
 | succ n=>let⟨b,a,_⟩:=h;exact⟨_,_,a⟩
def MN(n b:Nat)(s:Int)(t)(G:Nat)(a:Int)(k)(w)(B:Dw κ V A N C l ws wr qc w)(E:Laid N (laidAll l ws) n b s t)(r:w.heap[G]?=some (Bk V a k))(ag:0<=a)(ah:a<=1000000):
  (EW κ V A N C l ws wr qc).toEnv.CM G 255 #[ϖ G,.agg #[ϊ b,.int .u64 s]] w λe w'=>∃q,e=ϱ (ϖ q)/\RN (Laid N (laidAll l ws)) n w' q t/\Dw κ V A N C l ws wr qc w'/\w'.heap[G]?=some (Bk V (a+1) k)/\Kp [G,A] w w':=by
 have:=E.at;have:(2:Int)<=(b:Int):=oM
 have:(b:Int)<(N:Int):=oM
 have ac:Hid (∀W,Dw κ V A N C l ws wr qc W->(EW κ V A N C l ws wr qc).toEnv.C 217 #[ϖ V,.agg #[ϊ b,.int .u64 s]] W λe w'=>∃q,e=ϱ (.tuple #[ϖ q,.bool true])/\RN (Laid N (laidAll l ws)) n w' q t/\(EW κ V A N C l ws wr qc).toEnv.To W w'):=λW hW=>YT n b s t W hW E;have H:=zh B;have ae:G≠A:=by let⟨_,c,h⟩:=B.hA;exact υ r h dC
 have:=U r;go_enter func255,ntmps255;go_wp2_with fail;let⟨T,Q,z,u,ai⟩:=AZ w (ϲ #[ϊ (b:Int),.int .u64 s] 84);rw[<-Q];clear Q;have j:=u.hp r;have O:=u.hp B.hV;have:=U j;have:=U z;have g0:=ϻ j 0;have g1:=ϻ j 1;have g2:=ϻ j 2;have p0:=Y z;have aa:=zh u;have Z:=zh j;have ab:=zh z;have ad:=zh O;clear B E r u j z O
 go_quiet (first | (go_at_call 121;exact Calls.quiet_of_same (Ll V A N _ ad)) | (go_at_call 253;exact Calls.quiet_of_same (EC _)))
 go_wp2_with fail;obtain⟨o,R,x⟩:∃o,o=T.drewN nq/\Kp [] T o:=⟨_,rfl,(Kp.refl _ _).drewN _⟩;rw[<-R];clear R g0 g1 g2 p0;have y:=(aa.tr x).drew;have L:=(H).qM4 y;have d:o.drew.heap[G]?=some (Bk V a k)/\o.drew.heap[w.heap.size]?=some (ϲ #[ϊ (b:Int),.int .u64 s] 84):=⟨x.hp Z,x.hp ab⟩;refine wp_region_held_drew (S:=λW=>W.heap[G]?=some (Bk V a k)/\W.heap[w.heap.size]?=some (ϲ #[ϊ (b:Int),.int .u64 s] 84)) kR d (λ_=>?_);refine zP 0 G 0 d ?_;refine zV 1 (ϖ G) rfl (λW g=>by have c:=U g.1;clear g;go_simp) d ?_;refine zP 2 G 0 d ?_;refine zV 3 (ϖ V) rfl (λW g=>by have:=ϻ g.1 0;clear g;go_simp) d ?_;refine zV 4 (.agg #[ϊ (b:Int),.int .u64 s]) rfl (λW g=>by have:=Y g.2;clear g;go_simp) d ?_;refine zq 5 λK hK=>?_;go_simp;refine Env.qP1 (ac _ L).m (y.mono sM) ?_;rintro e f ⟨q,rfl,M,F⟩;have v:Kp [A] _ f:=F.kp;have I:Dw κ V A N C l ws wr qc f:=F.dev;have i:=n2 (v.heap d.1 (by simpa using ae)) (v.heap d.2 (by let⟨_,c,h⟩:=H.out.hA;have:=U h;simp;omega));refine zk hK i ?_
 refine zU 6 (.tuple #[ϖ q,.bool true]) i ?_;refine zP 7 q 0 i ?_;refine zU 8 (.bool true) i ?_;refine zP 9 q 0 i ?_;refine zU 10 (.bool true) i ?_;refine zd ?_
 try simp only[zZ]
 have p:=zh i.1;have X:Hid (RN (Laid N (laidAll l ws)) n f q t/\Dw κ V A N C l ws wr qc f/\Kp [G,A] w f):=⟨M,I,(y.mono sM).tr v⟩;clear M I v i d x y L F;go_wp2_with fail;refine(EC f).mono ?_;rintro e w2 ⟨rfl,P⟩;rw[P];clear P w2;have m:=p.out;have:=U m;have:=ϻ m 0;have:=ϻ m 1;have:=ϻ m 2;have:=ρ m 1;have:wrap64 (a+1)=a+1:=by simp only[wrap64];omega
 clear m;go_wp2;go_ret;have af:Apt f [G] Bi:=Apt.one p dC;have D:Kp [G] f (f.setCell (ϰ G 1) (ϊ (a+1))):=(Kp.refl _ _).sc _;let⟨e1,e2,e3⟩:=X.out;exact .inr ⟨q,rfl,RN.qM3 D af n q t e1,(e2).qM3 D (OffD.one p dC),ξ p 1 _,e3.tr D⟩
def SH(n b:Nat)(s:Int)(t)(G x:Nat)(vp0 vl0)(a:Int)(k)(w)(r:Dw κ V A N C l ws wr qc w)(o:Laid N (laidAll l ws) n b s t)(j:w.heap[G]?=some (Bk V a k))(i:w.heap[x]?=some (Ai ((n+1:Nat):Int) vp0 vl0))(P:0<=a)(Q:a<=1000000)(X:3<=cnt n t)(Z:cnt n t<=1000):
  (EW κ V A N C l ws wr qc).toEnv.CM G 254 #[ϖ G,ϖ x,.agg #[ϊ b,.int .u64 s]] w λe w'=>∃q,e=ϱ (ϖ q)/\RN (Laid N (laidAll l ws)) n w' q t/\Dw κ V A N C l ws wr qc w'/\w'.heap[G]?=some (Bk V (a+1) k)/\Kp [G,A] w w':=by
 have:=o.at;have I:=zh (λW D=>MN n b s t G a k W (r.qM4 D) o (D.hp j) P Q);have S:=υ i j dC;have R:x≠A:=by let⟨_,c,h⟩:=r.hA;exact υ i h dC
 have H:=zh i;clear r o j i;go_enter func254,ntmps254;go_wp2_with fail;let⟨T,E,O,d,aa⟩:=AZ w (ϲ #[ϊ (b:Int),.int .u64 s] 84);rw[<-E];clear E;refine Env.qP1 (I T d) (d.mono sM) ?_;rintro e f ⟨q,rfl,p,z,B,m⟩;let⟨vp,vl,u⟩:=p.lev;have v:=m.heap (d.hp H) (by simp[R,S]);have:=U u;have:=U v;have:=ϻ u 0;have:=ϻ v 0;have:wrap64 (((n+1:Nat):Int)-1)=(n:Int):=by simp only[wrap64];omega
 have:wrap64 ((n:Int)+1-1)=(n:Int):=by simp only[wrap64];omega
 have y:=zh p;have F:Hid (Dw κ V A N C l ws wr qc f/\f.heap[G]?=some (Bk V (a+1) k)/\Kp [G,A] w f):=⟨z,B,(d.mono sM).tr m⟩;have:(3:Int)<=((cnt n t:Nat):Int):=oM
 clear p z B m d u v O;go_wp2_with fail
 go_quiet (first | (go_at_call 161;exact Calls.quiet_of (OV (Laid N (laidAll l ws)) n q t _ (RN.qM3 ((Kp.refl [] _).drewN _) (Apt.nil _ _) _ _ _ y) oM)) | (go_at_call 253;exact Calls.quiet_of_same (EC _)))
 go_wp2;go_ret;have g:Kp [] f (f.drewN nq):=(Kp.refl _ _).drewN _;let⟨K,L,M⟩:=F.out;exact .inr ⟨q,rfl,RN.qM3 g (Apt.nil _ _) _ _ _ y,(K).qM4 g,g.hp L,M.tr g⟩
def UC(n b:Nat)(s:Int)(t)(G:Nat)(d:Int)(k)(w)(D:Dw κ V A N C l ws wr qc w)(o:Laid N (laidAll l ws) n b s t)(x:w.heap[G]?=some (Bk V d k))(aa:0<=d)(ab:d<=1000000)(ad:min n 1<cnt n t)(ae:cnt n t<=1000):
  (EW κ V A N C l ws wr qc).toEnv.CM G 211 #[ϖ G,.agg #[ϊ b,.int .u64 s]] w λe w'=>∃q,e=ϱ (ϖ q)/\RN (Laid N (laidAll l ws)) n w' q t/\Dw κ V A N C l ws wr qc w'/\w'.heap[G]?=some (Bk V (d+1) k)/\Kp [G,A] w w':=by
 have:=o.at;have Q:=zh (λW B=>MN n b s t G d k W (D.qM4 B) o (B.hp x) aa ab);clear D o x;go_enter func211,ntmps211;go_wp2_with fail;let⟨w0,H,Z,m,ag⟩:=AZ w (ϲ #[ϊ (b:Int),.int .u64 s] 84);rw[<-H];clear H;refine Env.qP1 (Q w0 m) (m.mono sM) ?_;rintro e g ⟨q,rfl,p,v,y,z⟩;let⟨M,L,E⟩:=p.lev;have u:=zh p;have O:Hid (Dw κ V A N C l ws wr qc g/\g.heap[G]?=some (Bk V (d+1) k)/\Kp [G,A] w g):=⟨v,y,(m.mono sM).tr z⟩;have:(n:Int)<6:=oM
 obtain⟨j,ac,af⟩:∃j:Int,(if (1:Int)<(n:Int) then 1 else(n:Int))=j/\j<((cnt n t:Nat):Int):=⟨_,rfl,by split<;>omega⟩;have:min (n:Int) 1=j:=by rw[<-ac];split<;>omega
 have r:=zh E;clear p v y z m Z E;go_wp2_with fail;have a:g.drew.heap[q]?=some (Ai (n:Int) M L):=r.out;refine wp_region_held_drew (S:=λW=>W.heap[q]?=some (Ai (n:Int) M L)) kR a (λ_=>?_);refine zP 0 q 0 a ?_;refine zV 1 (ϖ q) rfl (λW c=>by have:=U c;clear c;go_simp) a ?_;refine zP 2 q 0 a ?_;refine zV 3 (ϊ (n:Int)) rfl (λW c=>by have:=ϻ c 0;clear c;go_simp) a ?_;refine zU 4 (.bool true) a ?_;refine zU 5 (.bool true) a ?_;refine zP 6 q 0 a ?_;refine zP 8 q 0 a ?_;refine zV 9 (ϖ q) rfl (λW c=>by have:=U c;clear c;go_simp) a ?_;refine zP 10 q 0 a ?_;refine zV 11 (ϊ (n:Int)) rfl (λW c=>by have:=ϻ c 0;clear c;go_simp) a ?_;refine zU 12 (ϊ j) a ?_;refine zq 7 λK hK=>?_;go_simp;refine(OV (Laid N (laidAll l ws)) n q t g.drew (RN.qM3 ((Kp.refl [] _).drew) (Apt.nil _ _) _ _ _ u) oM).mono ?_;rintro e h ⟨rfl,nn,I⟩;have f:Kp [] g h:=by rw[I];exact((Kp.refl [] _).drew).trans ((Kp.refl [] _).drewN _) sM
 have i:=f.hp r.out;refine hK.out _ _ i (λ_=>?_);clear hK K I
 try simp only[zZ]
 refine zU 13 (.bool true) i ?_;refine zU 14 (.bool true) i ?_;refine zq 15 λK hK=>?_;go_simp;refine(EC h).mono ?_;rintro e w3 ⟨rfl,F⟩;rw[F];clear F w3;refine hK.out _ _ i (λ_=>?_);refine zd ?_
 try simp only[zZ]
 have P:Hid (RN (Laid N (laidAll l ws)) n h q t/\Dw κ V A N C l ws wr qc h/\h.heap[G]?=some (Bk V (d+1) k)/\Kp [G,A] w h):=by
  let⟨R,T,X⟩:=O.out;exact⟨RN.qM3 f (Apt.nil _ _) _ _ _ u,(R).qM4 f,f.hp T,X.tr f⟩
 clear f i a;go_wp2;go_ret;exact .inr ⟨q,rfl,P⟩
end
def Old:(n:Nat)→Lnk (Tn n)→Prop
 | 0,l=>l.ref.isSome=true
 | n+1,l=>l.ref.isSome=true∧∀m∈J l.sub,Old n m
def Old.some{n:Nat}{l}(h:Old n l):l.ref.isSome=true:=by
 cases n with
 | zero=>exact h
 | succ n=>exact h.1
def NY{N:Nat}{l}:∀(n b:Nat)(s:Int)(t),Laid N l (n+1) b s t->∀m∈J t,Old n m
 | n,b,s,t,h,m,hm=>by
  let⟨f,g,j,o,c,k⟩:=h;obtain⟨i,d,rfl⟩:=gO hm;have a:=(c.2 i (by rw[c.1];exact d) d).2
  cases hx:(J t)[i].ref with
  | none=>
   rw[hx]at a;let⟨_,_,q,_,e⟩:=a;exact e.elim
  | some x=>
   rw[hx]at a
   cases n with
   | zero=>show(J t)[i].ref.isSome=true;rw[hx];rfl
   | succ n=>exact⟨by rw[hx];rfl,NY n x.1 x.2 _ a.2.2.2⟩
def BH(k:ByteArray)(ps:List KV):ByteArray:=(ps.getLast?.map KV.k).getD k
def Va(k):BH k []=k:=rfl
def GX(k)(ps)(p):BH k (ps++[p])=p.k:=by simp[BH]
def UZ(k)(a b):BH (BH k a) b=BH k (a++b):=by
 rcases List.eq_nil_or_concat b with rfl|⟨c,p,rfl⟩
 .simp[BH]
 .rw[List.concat_eq_append,GX,<-aA,GX]
def Jn{k x}{ps}(a:kl k x=true\/ps≠[])(h:∀q∈ps,kl q.k x=true):kl (BH k ps) x=true:=by
 rcases List.eq_nil_or_concat ps with rfl|⟨c,p,rfl⟩
 .rcases a with h|h
  .exact h
  .exact absurd rfl h
 .rw[List.concat_eq_append]at *;rw[GX];exact h p sM
def NS{a b}(h:kl a b=true):Op.bytesLess b.toList a.toList=false/\(b.toList == a.toList)=false:=
 ⟨Dt h,by rw[Ij];simpa using(BM h).symm⟩
def GI(d:Kd)(V A N C:Nat)(l:ϣ)(ws:ϥ)(c:Int)(a:Ϥ)(n:Nat):Prop:=
 ∀(t:Tn n)(q G:Nat)(lh:HL)(bl:Int)(k:Ϧ)(b:Nat)(s:Int)(w:Ϣ),Dw d V A N C l ws c a w->w.heap[G]?=some (Bk V bl k)->RN (Laid N (laidAll l ws)) n w q t->Laid N (laidAll l ws) n b s t->Good n lh.key t->(∀p∈cont n t,kl k p.k=true)->0<=bl->bl+Am n t<=1000000->
  (EW d V A N C l ws c a).toEnv.CM G 210 #[ϖ G,Aw lh,ϖ q] w λe w'=>e=ϱ (.tuple #[])/\w'.heap[G]?=some (Bk V (bl+Am n t-1) (BH k (cont n t)))/\Dw d V A N C l ws c a w'/\Kp [G,A] w w'
def qJ2(κ)(V A N C:Nat)(l)(ws)(wn:Int)(qc):GI κ V A N C l ws wn qc 0:=by
 intro t q G x z k b s w hd m g S F Z ay az;let⟨vp,d,I⟩:=g;obtain⟨bs,cp,rfl⟩:=Df I;let⟨ps,c⟩:=eX (prs t);have:ps.length<=126:=by rw[c];exact S.2.2.2.2.2.2
 have ac:Sorted ps:=by rw[c];exact F.sorted
 have T:∀p∈ps,kl p.k x.key=false:=λp a=>(F.all p (by rw[c]at a;exact a)).2;have aa:∀p∈ps,kl k p.k=true:=λp a=>Z p (by rw[c]at a;exact a);rw[show z+((Am 0 t:Nat):Int)-1=z by simp[Am],show cont 0 t=ps from c.symm];rw[<-c]at I d;have y:=zh (n3 ac T aa);have:=U m;have:=U d;have K:=Y d;simp[Ai,zG,zH,zI]at K;clear S F Z c ac T aa;rw[Aw];go_enter func210,ntmps210;go_wp2_with fail;let⟨w0,aw,an,R,a2⟩:=AZ w (ϲ (ϡ x) 87);rw[<-aw];have:Hid (w.cell? ⟨q,1,none⟩=w.cell? ⟨q,1,none⟩):=rfl
 go_loopw [15] (λi wr=>∃(j:Nat),j<=ps.length/\i=.int .i64 j/\w.heap.size<wr.heap.size/\Hid (Ϙ wr G (Bk V z (BH k (ps.take j))))/\Hid (Ϙ wr w.heap.size (ϲ (ϡ x) 87))/\Hid (Kp [G] w wr)) (λi _=>ps.length-(intOf i).toNat)
 case atStart=>exact⟨0,zL _,rfl,oM,R.hp m,an,R.mono sM⟩
 case round=>
  obtain⟨j,hj,rfl,a4,L,am,h⟩:=hrel;by_cases v:j<ps.length
  .let⟨gb,af,ax,cur,fr,hv,ap,H,W⟩:=I.pair oM;let⟨c0,c1⟩:=W j v;simp[vJ,true_and]at hv;obtain⟨rfl,rfl⟩:=hv;have g:=h.out.heap H (by simp;exact υ H m dC);have M:=Y g (af+j*2);rw[c0]at M;have O:=Y g (af+j*2+1);rw[c1]at O;have ar:=U g;have:(j:Int)<(ps.length:Int):=oM
   have hm:=gM v;have X:=Jn (.inl (y.2.2 _ hm)) λq d=>by
    have a:=y.out.1;rw[<-tD j ps,dG v]at a;exact(pA a).2.2 q d _ (List.mem_cons_self ..)
   let⟨au,av⟩:=NS X;clear X;have aq:Op.bytesLess ps[j].k.toList x.key.toList=false:=y.out.2.1 _ hm;have ah:Hid (BH k (ps.take (j+1))=ps[j].k):=by
    show BH k (ps.take (j+1))=ps[j].k;rw[tA v,GX]
   clear W ap H;go_wp2_with fail;let⟨w1,ad,B,u,a3⟩:=AZ wr (ϲ #[.string ps[j].k,.string ps[j].v] 185);rw[<-ad];clear ad M O g ar;have n:=u.hp L.out;have E:=u.hp am.out;have:=U n;have:=U E;have:=U B;have g0:=ϻ n 0;have g1:=ϻ n 1;have g2:=ϻ n 2;have p0:=ϻ E 0;have z0:=Y B;have aj:=zh (h.tr u);clear u
   go_quiet (first | (go_at_call 253;exact Calls.quiet_of_same (EC _)))
   obtain⟨r,ae,o⟩:∃r,r=w1.drewN nq/\Kp [] w1 r:=⟨_,rfl,kF.drewN _⟩;rw[<-ae];clear ae g0 g1 g2 p0 z0 au av aq;have f:=o.hp n;have ao:=o.hp E;have P:=o.hp B;have:=U f;have:=U P;have:=o.size;have:=ϻ f 0;have:=ϻ f 1;have:=ϻ f 2;have:=Y P;have:=ρ f 2;have ak:=zh (aj.tr o);go_wp2;have D:Kp [G] r (r.setCell ⟨G,2,none⟩ (.string ps[j].k)):=kF.sc _;refine⟨⟨j+1,oM,by go_num,oW D.size,?_,D.ho ao,ak.tr D⟩,iO⟩;show _=_;rw[ah.out];exact ξ f 2 _
  .have:¬(j:Int)<(ps.length:Int):=oM
   have e:ps.take j=ps:=tL oM;have Q:=L.out;rw[e]at Q;have ai:=Hid.mk' Q;have ab:=h.out.heap d (sU (υ d m dC));have:=U ab;have K:=Y ab;simp[Ai,zG,zH,zI]at K;have al:Hid (Kp [G,A] w wr):=h.out.mono sM;have ag:=zh ((hd).qM3 h (OffD.one m dC));go_wp2_with fail
   go_loopw [48] (λi w'=>i=.int .i64 0/\w'=wr) (λ_ _=>0)
   case atStart=>exact⟨rfl,rfl⟩
   case round=>
    obtain⟨rfl,rfl⟩:=hrel;go_wp2
    go_end0
    exact .inr ⟨rfl,ai,ag,al⟩
def JO{N:Nat}{l}:∀{n b:Nat} {s:Int} {t},Laid N l n b s t->cnt n t<=126
 | 0,_,_,_,h=>h.2.2.2.2.2.2
 | n+1,_,_,t,h=>by
  let⟨_,_,_,d,a,_,_,_,_,c⟩:=h;show(J t).length<=126;rw[<-a.1];exact c
def Xs{N:Nat}{l}{n b:Nat}{s:Int}{t}{w}{hs}(m:Laid N l (n+1) b s t)(o:Both (RLof (RN (Laid N l) n w) (Laid N l n)) hs (J t)):
  ∀j (d:j<hs.length) (a:j<(J t).length),hs[j].key=(J t)[j].key/\hs[j].p=none/\∃c:Nat,hs[j].b=(c:Int)/\Laid N l n c hs[j].s (J t)[j].sub:=by
 intro j d a;have p:=NY n b s t m _ (gM a);have q:=o.2 j d a
 cases hx:(J t)[j].ref with
 | none=>have:=p.some;rw[hx]at this;cases this
 | some x=>
  let⟨f,e⟩:=q;rw[hx]at e;let⟨g,h,i,k⟩:=e;exact⟨f,i,x.1,g,by rw[h];exact k⟩
def Ws{n:Nat}{lo}{t}(d:Good (n+1) lo t)(j:Nat)(f:j<(J t).length):
  (∀q∈((J t).take j).flatMap (λm=>cont n m.sub),kl q.k (J t)[j].key=true)/\(0<j->((J t).take j).flatMap (λm=>cont n m.sub)≠[])/\(∀p∈cont n (J t)[j].sub,kl p.k (J t)[j].key=false/\p∈cont (n+1) t):=by
 refine⟨λq c=>?_,λh0 e=>?_,λp b=>⟨?_,?_⟩⟩
 .let⟨m,l,c⟩:=mF c;have b:(J t).Pairwise (DG n):=d.pair;rw[<-tD j (J t),dG f]at b;exact((pA b).2.2 m l _ (List.mem_cons_self ..)).2 q c
 .obtain⟨a,r,g⟩:∃a r,(J t).take j=a::r:=by
   cases hx:(J t).take j with
   | nil=>have h:=congrArg List.length hx;rw[lK,List.length_nil]at h;omega
   | cons a r=>exact⟨a,r,rfl⟩
  have k:=d.all a (mT (i:=j) (by show a∈(J t).take j;rw[g];simp));let⟨q,c⟩:=GT n a.key a.sub k.1 oM;have:q∈((J t).take j).flatMap (λm=>cont n m.sub):=List.mem_flatMap.2 ⟨a,by rw[g];simp,c⟩;rw[e]at this;cases this
 .exact ((Cq n _ _ (d.all _ (gM f)).1).2 p b).2
 .exact List.mem_flatMap.2 ⟨_,gM f,b⟩
def qJ3(κ)(V A N C:Nat)(l)(ws)(u:Int)(qc)(n:Nat)(IH:GI κ V A N C l ws u qc n):GI κ V A N C l ws u qc (n+1):=by
 intro t q G lh v k b s w hd hG D hL b3 hk cu ak;let⟨vl,E,a,bn,au⟩:=D;obtain⟨bs,cp,rfl⟩:=Df bn;have:=hL.at;have bv:=Xs hL au;have cg:=zh bv;have X:Hid (a.length=(J t).length/\a.length<=126):=⟨au.1,by rw[au.1];exact JO hL⟩;have a8:=zh b3;have cf:=zh hk;have HD:=zh hd;have ch:=zh bn;have HQ:=zh E;have bp:Hid (Am (n+1) t=1+qM2 (λm:Lnk (Tn n)=>Am n m.sub) (J t)):=rfl;have ca:=υ E hG dC;have b9:q≠A:=by let⟨_,c,h⟩:=hd.hA;exact υ E h dC
 have:G≠A:=by let⟨_,c,h⟩:=hd.hA;exact υ hG h dC
 have:A<w.heap.size:=by let⟨_,c,h⟩:=hd.hA;exact U h
 have:=U hG;have:=U E;have HG:=zh hG;have cd:=zh ak;rw[show v+((Am (n+1) t:Nat):Int)-1=v+((qM2 (λm:Lnk (Tn n)=>Am n m.sub) (J t):Nat):Int) by rw[bp.out];omega,show cont (n+1) t=(J t).flatMap λm=>cont n m.sub from rfl];have q1:=Y E;simp only[Ai,zG,zH,zI]at q1;clear hd hG E bn hL b3 hk au bv ak;rw[Aw];go_enter func210,ntmps210;go_wp2_with fail;let⟨w0,cb,bw,bu,cq⟩:=AZ w (ϲ (ϡ lh) 87);rw[<-cb];have bq:=zh bw;have T:=zh bu;clear cb bw bu q1
 go_loopw [15] (λi w'=>i=.int .i64 0/\w'=w0) (λ_ _=>0)
 case atStart=>exact⟨rfl,rfl⟩
 case round=>
  obtain⟨rfl,cc⟩:=hrel;rw[cc];clear cc;have az:=T.out.hp HQ.out;have co:=U az;have q1:=Y az 1;have g:=Y az 2;simp only[Ai,zG,zH,zI]at q1 g;clear az;go_wp2_with fail
  go_loopw [48] (λi wr=>∃(j:Nat),j<=a.length/\i=.int .i64 j/\w.heap.size<wr.heap.size/\Hid (wr.heap[G]?=some (Bk V (v+qM2 (λm:Lnk (Tn n)=>Am n m.sub) ((J t).take j)) (BH k (((J t).take j).flatMap λm=>cont n m.sub))))/\Hid (Dw κ V A N C l ws u qc wr)/\Hid (wr.heap[w.heap.size]?=some (ϲ (ϡ lh) 87))/\Hid (Kp [G,A] w wr)) (λi _=>a.length-(intOf i).toNat)
  case atStart=>exact⟨0,Nat.zero_le _,rfl,oM,by show _=_;simpa [AJ,Va] using T.hp HG,(HD).qM4 T,bq,T.mono sM⟩
  case round=>
   rename_i wr hrel;obtain⟨j,hj,rfl,cv,R,a7,bb,P⟩:=hrel;clear q1 g bq T cq co;by_cases ay:j<a.length
   .have Q:j<(J t).length:=by have:=X.out;omega
    let⟨av,cn,b',bz,ax⟩:=cg.out j ay Q;let⟨bd,bt,be⟩:=Ws a8 j Q;have bi:=a8.out.all (J t)[j] (List.getElem_mem Q);have cl:=CA (λm:Lnk (Tn n)=>Am n m.sub) (J t) j Q;have cm:=Dc (λm:Lnk (Tn n)=>Am n m.sub) (J t) (j+1);have ak:=cd.out;rw[bp.out]at ak;have b1:((J t).take (j+1)).flatMap (λm=>cont n m.sub)=((J t).take j).flatMap (λm=>cont n m.sub)++cont n (J t)[j].sub:=by
     rw[List.take_succ_eq_append_getElem Q,List.flatMap_append];simp
    have ao:Hid (∀W,Dw κ V A N C l ws u qc W->W.heap[G]?=some (Bk V (v+qM2 (λm:Lnk (Tn n)=>Am n m.sub) ((J t).take j)) (BH k (((J t).take j).flatMap λm=>cont n m.sub)))->W.heap[q]?=some (Ai ((n+1:Nat):Int) (.slice none 0 0) (.slice bs a.length cp))->(EW κ V A N C l ws u qc).toEnv.CM G 254 #[ϖ G,ϖ q,.agg #[ϊ a[j].b,.int .u64 a[j].s]] W λe w'=>∃g,e=ϱ (ϖ g)/\RN (Laid N (laidAll l ws)) n w' g (J t)[j].sub/\Dw κ V A N C l ws u qc w'/\w'.heap[G]?=some (Bk V (v+qM2 (λm:Lnk (Tn n)=>Am n m.sub) ((J t).take j)+1) (BH k (((J t).take j).flatMap λm=>cont n m.sub)))/\Kp [G,A] W w'):=λW h1 h2 h3=>by
     rw[bz];exact SH n b' a[j].s (J t)[j].sub G q _ _ _ _ W h1 ax h2 h3 oM oM bi.2.1 (by have:=JO ax;omega)
    have ar:Hid (∀W g,Dw κ V A N C l ws u qc W->W.heap[G]?=some (Bk V (v+qM2 (λm:Lnk (Tn n)=>Am n m.sub) ((J t).take j)+1) (BH k (((J t).take j).flatMap λm=>cont n m.sub)))->RN (Laid N (laidAll l ws)) n W g (J t)[j].sub->(EW κ V A N C l ws u qc).toEnv.CM G 210 #[ϖ G,.agg #[.string a[j].key,ϊ a[j].b,.int .u64 a[j].s,.pointer a[j].ptr],ϖ g] W λe w'=>e=ϱ (.tuple #[])/\w'.heap[G]?=some (Bk V (v+qM2 (λm:Lnk (Tn n)=>Am n m.sub) ((J t).take (j+1))) (BH k (((J t).take (j+1)).flatMap λm=>cont n m.sub)))/\Dw κ V A N C l ws u qc w'/\Kp [G,A] W w'):=λW g h1 h2 h3=>by
     have h:=IH (J t)[j].sub g G a[j] _ _ b' a[j].s W h1 h2 h3 ax (by rw[av];exact bi.1) (λp hp=>Jn (.inl (cf p (be p hp).2)) λq E=>CX (bd q E) (be p hp).1) oM oM;rw[UZ,<-b1]at h;refine h.mono ?_;rintro e w' (h|⟨e1,e2,e3⟩)
     .exact .inl h
     refine .inr ⟨e1,?_,e3⟩;rw[e2]
     congr 2
     omega
    have b8:0<j->kl (BH k (((J t).take j).flatMap λm=>cont n m.sub)) a[j].key=true:=λh0=>by rw[av];exact Jn (.inr (bt h0)) bd
    have b6:j=0->a[j].key=lh.key:=λh0=>by
     rw[av];refine a8.head _ ?_;show(J t)[j]∈(J t).head?;rw[List.head?_eq_getElem?];subst h0;exact List.getElem?_eq_getElem Q
    let⟨gb,a5,ct,cur,fr,hv,ci,a4,b0⟩:=ch.out.link oM;let⟨c0,c1,c2,c3⟩:=b0 j ay;simp only[Value.slice.injEq,true_and]at hv;obtain⟨rfl,rfl⟩:=hv;have D:=P.out.heap a4 (by simp;exact⟨υ a4 HG dC,by let⟨_,c,h⟩:=HD.out.hA;exact υ a4 h dC⟩);have Z:=Y D (a5+j*4);rw[c0]at Z;have a1:=Y D (a5+j*4+1);rw[c1]at a1;have a2:=Y D (a5+j*4+2);rw[c2]at a2;have a3:=Y D (a5+j*4+3);rw[c3]at a3;have b4:=U D;have:(j:Int)<(a.length:Int):=oM
    have a9:=zh b8;have bo:=zh b6;clear c0 c1 c2 c3 D b0 ci a4 b8 b6 b1 ak cm cl bi bd bt be ax bz cn av;obtain⟨kk,aw⟩:∃x,x=BH k (((J t).take j).flatMap λm=>cont n m.sub):=⟨_,rfl⟩;obtain⟨bm,bh⟩:∃x:Int,x=v+qM2 (λm:Lnk (Tn n)=>Am n m.sub) ((J t).take j):=⟨_,rfl⟩;obtain⟨k2,bj⟩:∃x,x=BH k (((J t).take (j+1)).flatMap λm=>cont n m.sub):=⟨_,rfl⟩;obtain⟨b2,bg⟩:∃x:Int,x=v+qM2 (λm:Lnk (Tn n)=>Am n m.sub) ((J t).take (j+1)):=⟨_,rfl⟩;rw[<-aw,<-bh]at ao R;rw[<-aw,<-bh,<-bj,<-bg]at ar;rw[<-aw]at a9;have ap:=zh (n2 bj bg);clear aw bh bj bg;generalize a[j]=hx at ao ar a9 bo Z a1 a2 a3;have H:=zh ay;clear ay hj;by_cases b7:j=0
    .have bk:=bo.out b7;subst b7;simp only[Nat.zero_mul,Nat.add_zero]at Z a1 a2 a3;have bx:=bb.out;have p0:=Y bx 0;simp only[zG,zH,zI]at p0;rw[<-bk]at p0;clear bx;have:=zh bk;clear bk;go_wp2_with fail;let⟨F,al,y,o,cr⟩:=AZ wr (ϲ (ϡ hx) 87);rw[<-al];clear al Z a1 a2 a3 b4;have aq:=Hid.mk' (o.hp R);have ba:=zh (o.hp bb);have an:=zh y;have a6:=zh ((a7).qM4 o);have bc:=zh (o.heap (P.heap HQ (by simp[b9,ca])) sM);have I:=zh (P.tr o);clear y o;clear p0;refine(EC F).mono ?_;rintro e cs ⟨rfl,hw⟩;rw[hw];clear hw cs;go_wp2_with fail;obtain⟨B,am,ah⟩:∃B,B=F/\Kp [] F B:=⟨_,rfl,(Kp.refl _ _)⟩;rw[<-am];clear am;have f:=ah.drew;have ag:=f.hp aq.out;have d:=f.hp an.out;have ac:=(a6).qM4 f;have ai:=f.hp bc.out;refine wp_region_held_drew (S:=λW=>W.heap[wr.heap.size]?=some (ϲ (ϡ hx) 87)) kR d (λ_=>?_);refine zP 0 G 0 d ?_;refine zV 1 (.agg (ϡ hx)) rfl (λW hS=>by have:=Y hS;clear hS;go_simp) d ?_;refine zP 2 G 0 d ?_;refine zP 3 q 0 d ?_;refine zP 4 wr.heap.size 1 d ?_;refine zW 5 (.agg #[ϊ hx.b,.int .u64 hx.s]) d id ?_;refine zq 6 λK hK=>?_;go_simp;refine Env.qP1 (ao B.drew ac ag ai) (I.tr f) ?_;rintro e w2 ⟨g,rfl,aj,aa,ae,z⟩;have O:=z.ho d;refine zk hK O ?_
     refine zq 7 λK hK=>?_;go_simp;refine Env.qP1 (ar w2 g aa ae aj) ((I.tr f).tr z) ?_;rintro e r ⟨rfl,af,ab,M⟩;refine hK.out _ _ (M.ho O) (λ_=>?_);refine zd ?_
     try simp only[zZ]
     have HE:Hid (r.heap[G]?=some (Bk V b2 k2)/\Dw κ V A N C l ws u qc r/\r.heap[w.heap.size]?=some (ϲ (ϡ lh) 87)/\Kp [G,A] w r/\w.heap.size<r.heap.size):=by
      have L:Kp [G,A] F r:=((f.mono sM).tr z).tr M;exact⟨af,ab,L.ho ba,I.tr L,by have:=L.size;omega⟩
     clear af ab M O aj aa ae z d ac ai ag f ah;go_wp2
     try rw[br.out]
     let⟨f1,f2,f3,f4,f5⟩:=HE.out;rw[ap.out.1,ap.out.2]at f1;have:=X.out.2;have:=H.out;exact⟨⟨0+1,by have:=H.out;omega,by go_num,f5,f1,f2,f3,f4⟩,by have:=H.out;simp[intOf];omega⟩
    .have:¬(j:Int)=0:=oM
     have b5:=a9.out oM;let⟨cj,ck⟩:=NS b5;clear b5;go_wp2_with fail;let⟨F,al,y,o,cr⟩:=AZ wr (ϲ (ϡ hx) 87);rw[<-al];clear al Z a1 a2 a3 b4;have aq:=Hid.mk' (o.hp R);have ba:=zh (o.hp bb);have an:=zh y;have a6:=zh ((a7).qM4 o);have bc:=zh (o.heap (P.heap HQ (by simp[b9,ca])) sM);have I:=zh (P.tr o);clear y o;have ad:=aq.out;have y:=an.out;have:=U ad;have:=U y;have g0:=Y ad 0;have g1:=Y ad 1;have g2:=Y ad 2;simp only[Bk,zG,zH,zI]at g0 g1 g2;have z0:=Y y;clear ad y
     go_quiet (first | (go_at_call 253;exact Calls.quiet_of_same (EC _)))
     clear cj ck g0 g1 g2 z0;go_wp2_with fail;have br:Hid (wrap64 ((j:Int)+1)=(j:Int)+1):=by show wrap64 ((j:Int)+1)=(j:Int)+1;have:=H.out;have:=X.out.2;simp only[wrap64];omega
     obtain⟨B,am,ah⟩:∃B,B=F.drewN nq/\Kp [] F B:=⟨_,rfl,((Kp.refl _ _).drewN _)⟩;rw[<-am];clear am;have f:=ah.drew;have ag:=f.hp aq.out;have d:=f.hp an.out;have ac:=(a6).qM4 f;have ai:=f.hp bc.out;refine wp_region_held_drew (S:=λW=>W.heap[wr.heap.size]?=some (ϲ (ϡ hx) 87)) kR d (λ_=>?_);refine zP 0 G 0 d ?_;refine zV 1 (.agg (ϡ hx)) rfl (λW hS=>by have:=Y hS;clear hS;go_simp) d ?_;refine zP 2 G 0 d ?_;refine zP 3 q 0 d ?_;refine zP 4 wr.heap.size 1 d ?_;refine zW 5 (.agg #[ϊ hx.b,.int .u64 hx.s]) d id ?_;refine zq 6 λK hK=>?_;go_simp;refine Env.qP1 (ao B.drew ac ag ai) (I.tr f) ?_;rintro e w2 ⟨g,rfl,aj,aa,ae,z⟩;have O:=z.ho d;refine zk hK O ?_
     refine zq 7 λK hK=>?_;go_simp;refine Env.qP1 (ar w2 g aa ae aj) ((I.tr f).tr z) ?_;rintro e r ⟨rfl,af,ab,M⟩;refine hK.out _ _ (M.ho O) (λ_=>?_);refine zd ?_
     try simp only[zZ]
     have HE:Hid (r.heap[G]?=some (Bk V b2 k2)/\Dw κ V A N C l ws u qc r/\r.heap[w.heap.size]?=some (ϲ (ϡ lh) 87)/\Kp [G,A] w r/\w.heap.size<r.heap.size):=by
      have L:Kp [G,A] F r:=((f.mono sM).tr z).tr M;exact⟨af,ab,L.ho ba,I.tr L,by have:=L.size;omega⟩
     clear af ab M O aj aa ae z d ac ai ag f ah;go_wp2
     try rw[br.out]
     let⟨f1,f2,f3,f4,f5⟩:=HE.out;rw[ap.out.1,ap.out.2]at f1;have:=X.out.2;have:=H.out;exact⟨⟨j+1,by have:=H.out;omega,by go_num,f5,f1,f2,f3,f4⟩,by have:=H.out;simp[intOf];omega⟩
   .have:¬(j:Int)<(a.length:Int):=oM
    have e:(J t).take j=J t:=List.take_of_length_le (by have:=X.out;omega);have bf:=R.out;rw[e]at bf;have ce:=Hid.mk' bf;clear e bf R;go_wp2
    go_end0
    exact .inr ⟨rfl,ce,a7,P⟩
def Qu(c:Kd)(V A N C:Nat)(l:ϣ)(ws:ϥ)(b:Int)(a:Ϥ):∀n,GI c V A N C l ws b a n
 | 0=>qJ2 c V A N C l ws b a
 | n+1=>qJ3 c V A N C l ws b a n (Qu c V A N C l ws b a n)
variable {κ:Kd}
def L3(B:Nat)(w)(a b c):Kp [B] w (((w.setCell (ϰ B 0) a).setCell (ϰ B 1) b).setCell (ϰ B 2) c):=(((Kp.refl _ _).sc _).sc _).sc _
def Vt{V A n C:Nat}{l}{ws}{wr:Int}{q0}{w}(H:Dw κ V A n C l ws wr q0 w)(i:Nat)(m)(hm:m=laidAll l ws)(N a rs:Int)(hi:i<n)
  (hN:BF (BC (((τ m i).drop 8).take 8))=N) (a0:BF (BC (((τ m i).drop 6).take 2))=a) (a1:BF (BC (((τ m i).drop 16).take 8))=rs)
  (R:0<=N) (bd:0<=a) (be:a<=65535) (bf:0<=rs) (q:Bool) (hq:q=(decide (N % 2=(i:Int)) && (toB (BP N a rs) == (τ m i).take 32))):
  (EW κ V A n C l ws wr q0).toEnv.C 205 #[ϖ V,ϊ i] w λe w'=>e=ϱ (.tuple #[if q then BE N a rs else BE 0 0 0,ϐ q])/\(EW κ V A n C l ws wr q0).toEnv.To w w':=by
 have Sz:Hid (∀{p:Prop},(_h:p:=by
  refine bodyPost_ret (Fl results205 _ _ w.heap.size 166 _ _ _ rfl I underlying166 rfl kR) rfl (.inr ⟨by rw[ad.out];rfl,a6.qM3 (L3 w.heap.size _ _ _ _) (OffD.one r dC),((a9.sc _).sc _).sc _⟩))->p):=λh=>h
 have au:(τ m i).length=128:=by
  let⟨_,h,_⟩:=H;rw[hm];exact FB (Cy n ws l h.len h.fit) hi
 let⟨b,aa⟩:=eY (τ m i);rw[aa]at hN a0 a1 hq au;have HL:Hid (∀W,Dw κ V A n C l ws wr q0 W->(EW κ V A n C l ws wr q0).toEnv.C 247 #[ϖ V,ϊ i] W λe w'=>e=ϱ (.agg (enc b))/\(EW κ V A n C l ws wr q0).toEnv.To W w'):=λW h=>by
  have g:=XX h i hi;rw[<-hm,aa]at g;exact g
 have B:=zh hq;clear aa hq hm;have hA:=H.sA;have HD:=hid H;clear H;let⟨rv,ac⟩:=eX ((if q then BE N a rs else BE 0 0 0));rw[<-ac];have ad:=hid ac;clear ac;go_enter func205,ntmps205;go_wp2_with fail;have X:(EW κ V A n C l ws wr q0).toEnv.To w (w.alloc (ϲ #[.int .u64 0,ϊ 0,.int .u64 0] 166)):=Env.To.of0 HD ((Kp.refl _ _).alloc _);refine Env.call (HL _ X.dev) X ?_;rintro e d ⟨rfl,Z⟩;have P:Kp [A] _ d:=Z.kp;have ae:Dw κ V A n C l ws wr q0 d:=Z.dev;clear X Z;have av:(enc b).size=128:=by rw[Bw,au]
 go_wp2_with fail;have S:=μ d (ϲ zeroCells288 288);have T:d.heap[w.heap.size]?=some (ϲ #[.int .u64 0,ϊ 0,.int .u64 0] 166):=P.heap (μ _ _) sO;have Q:Kp [A] w d:=((Kp.refl _ _).alloc _).tr P;have bh:=U T;rw[DB S (by simp[CS,av]) (Co b).one];rw[show(enc b).toList.toArray=enc b from by simp,CY (by rw[CS,av])];obtain⟨c,aq,al,af,ao,F,a2⟩:∃c,c=(d.alloc (ϲ zeroCells288 288)).setRow d.heap.size (enc b)/\Kp [A] w c/\Dw κ V A n C l ws wr q0 c/\
   c.heap[w.heap.size]?=some (ϲ #[.int .u64 0,ϊ 0,.int .u64 0] 166)/\c.heap[d.heap.size]?=some (ϲ (enc b) 288)/\c.heap.size=d.heap.size+1:=
  ⟨_,rfl,(Q.alloc _).setRow (Or.inr Q.size) _,ae.qM4 (((Kp.refl _ _).alloc _).setRow (Or.inr (Nat.le_refl _)) _),(setRow_other _ _ _ _ oM).trans (ν _ T),setRow_heap _ _ _ _ _ _ S,by simp[World.setRow]⟩
 rw[<-aq];clear aq S T P Q ae;generalize bb:d.heap.size=G at *;clear bb;go_wp2_with fail;have bg:IntKind.i64.wrap a=a:=by simp only[IntKind.wrap_i64];omega
 rename_i Q0 K0 ak;have key:K0 { tmps:=#[Value.pointer (some (ϰ V 0)),Value.int .i64 ↑i,undef,undef,Value.pointer (some (ϰ w.heap.size 0)),Value.bool false,
     Value.pointer (some (ϰ G 0)),Value.pointer (some (ϰ (G+1) 0)),Value.pointer (some (ϰ V 0)),Value.int .i64 ↑i,Value.agg (enc b),
     Value.slice (some (ϰ G 8)) 8 120,Value.int .u64 N,Value.slice (some (ϰ G 6)) 2 122,Value.int .u64 a,
     Value.int .i64 a,Value.slice (some (ϰ G 16)) 8 112,Value.int .u64 rs,Value.agg #[ϊ a,.int .u64 rs],
     Value.agg #[.int .u64 N,ϊ a,.int .u64 rs],undef,undef,undef,undef,undef,undef,undef,undef,undef,undef,undef,undef,undef],defers:=[] }
   (c.alloc (ϲ #[.int .u64 N,ϊ a,.int .u64 rs] 166)).drew:=by
  refine ak _ _ ?_;clear ak K0 bg;obtain⟨f,ar,am,ag,ap,a7,s⟩:∃f,f=(c.alloc (ϲ #[.int .u64 N,ϊ a,.int .u64 rs] 166)).drew/\Kp [A] w f/\Dw κ V A n C l ws wr q0 f/\
    f.heap[w.heap.size]?=some (ϲ #[.int .u64 0,ϊ 0,.int .u64 0] 166)/\f.heap[G]?=some (ϲ (enc b) 288)/\f.heap[G+1]?=some (ϲ #[.int .u64 N,ϊ a,.int .u64 rs] 166):=
   ⟨_,rfl,(al.alloc _).drew,af.qM4 (((Kp.refl _ _).alloc _).drew),ν _ ao,ν _ F,by rw[<-a2];exact μ c _⟩
  rw[<-ar];clear ar al af ao F hN a0 a1 a2;have e0:=Y s 0;have e1:=Y s 1;have e2:=Y s 2;simp at e0 e1 e2;have ai:=U s;by_cases x:N % 2=(i:Int)
  .have ay:(N % 2 != (i:Int))=false:=by simp[x]
   go_wp2_with fail
   go_region_with (first
    | (go_at_call 209;go_must (refine(KC N a rs _ R).mono ?_;rintro e w4 ⟨rfl,o⟩;have z:=(o.block (G+1) ai).trans s;have M:=(o.block G (by have:=ai;show G<f.heap.size;omega)).trans a7;have g0:=Y z 0;have g1:=Y z 1;have g2:=Y z 2;simp at g0 g1 g2))
    | (go_at_call 207;go_must (refine(PV N a rs _ R bd be bf).mono ?_;rintro e w5 ⟨v5,rfl,an,L⟩;obtain⟨g5,a3,a4,rfl,aw,ba,ax⟩:=Po an;have aj:=(L.block G (U M)).trans M))
    | (go_at_call 249;go_must (refine(Vi g5 0 32 a3 G 0 128 (toB (BP N a rs)) (b.take 32) _ 5 288 a4 (enc b) (0,0) (0,0) aw aj ax (by rw[Dd,List.drop_zero]) oM oM).mono ?_;rintro e w6 ⟨rfl,rfl⟩)))
   have j:=Kp.qN2 o (Nat.le_refl _);have y:=Kp.qN2 L (Nat.le_refl _);have r:=y.heap (j.heap (k:=w.heap.size) ap sM) sM;have a6:=((ag.qM4 ((Kp.refl _ _).drew)).qM4 j).qM4 y;have O:=y.hp z;have a9:=((am.drew).tr j).tr y;clear o j L y g0 g1 g2 e0 e1 e2 aj ax an M z aw ba ay;have r0:=Y r 0;have r1:=Y r 1;have r2:=Y r 2;have s0:=Y O 0;have s1:=Y O 1;have s2:=Y O 2;simp at r0 r1 r2 s0 s1 s2;have rf:=ρ r;have az:q=(toB (BP N a rs) == b.take 32):=by rw[B.out];simp[x]
   clear B x;have D:=zh az;clear az;simp only[zZ];by_cases E:(toB (BP N a rs) == b.take 32)=true
   .have ab:q=true:=by rw[D.out];exact E
    subst ab;clear D;simp only[E,Bool.not_true];go_wp2;have I:=ξ (ξ (ξ r 0 (.int .u64 N)) 1 (ϊ a)) 2 (.int .u64 rs);exact Sz.out
   .have ah:(toB (BP N a rs) == b.take 32)=false:=by simpa using E
    have ab:q=false:=by rw[D.out];exact ah
    subst ab;clear D E;simp only[ah,Bool.not_false];go_wp2;have I:=ξ (ξ (ξ r 0 (.int .u64 0)) 1 (ϊ 0)) 2 (.int .u64 0);exact Sz.out
  .have ay:(N % 2 != (i:Int))=true:=by simp[x]
   have bc:q=false:=by rw[B.out];simp[x]
   clear x B;subst bc;go_wp2_with fail;refine wp_region_any kR ?_;change wpAny _ _ _ _ _ _ _ (World.drew _);refine wpAny_take (i:=2) (v:=.int .i64 i) rfl kR kR kR (λ_ _ _ h=>h) (Or.inl ⟨by rfl,λW=>rfl⟩) ?_;simp only[zZ];refine zQ 0 λK hK=>?_;refine AU rfl (Es (t:=166) rfl kR 3 kR (G+1) rfl (show f.drew.heap[G+1]?=_ from s) rfl) ?_;refine hK _ _ ?_;simp only[zZ];refine zQ 1 λK hK=>?_;go_simp;refine(KC N a rs _ R).mono ?_;rintro e w4 ⟨rfl,o⟩;refine hK _ _ ?_;refine zu 3 (.bool true) ?_;refine wpAny_take (i:=4) (v:=.bool true) rfl kR kR kR (λ_ _ _ h=>h) (Or.inl ⟨by rfl,λW=>rfl⟩) ?_;simp only[zZ];refine wpAny_take (i:=5) (v:=undef) rfl kR kR kR (λ_ _ _ h=>h) (Or.inr ⟨by rfl,rfl⟩) ?_;simp only[zZ];refine wpAny_take (i:=6) (v:=undef) rfl kR kR kR (λ_ _ _ h=>h) (Or.inr ⟨by rfl,rfl⟩) ?_;simp only[zZ];refine wpAny_take (i:=7) (v:=undef) rfl kR kR kR (λ_ _ _ h=>h) (Or.inr ⟨by rfl,rfl⟩) ?_;simp only[zZ];refine wpAny_take (i:=8) (v:=undef) rfl kR kR kR (λ_ _ _ h=>h) (Or.inr ⟨by rfl,rfl⟩) ?_;simp only[zZ];refine wpAny_take (i:=9) (v:=undef) rfl kR kR kR (λ_ _ _ h=>h) (Or.inr ⟨by rfl,rfl⟩) ?_;simp only[zZ];refine zu 10 (.bool true) ?_;refine wpAny_done kR ?_ _;have j:=Kp.qN2 o (Nat.le_refl _);have u:=j.heap (k:=w.heap.size) ap sM;have a5:=(ag.qM4 ((Kp.refl _ _).drew)).qM4 j;have a8:=(am.drew).tr j;clear o j;have r0:=Y u 0;have r1:=Y u 1;have r2:=Y u 2;simp at r0 r1 r2;have rf:=ρ u;go_wp2;have I:=ξ (ξ (ξ u 0 (.int .u64 0)) 1 (ϊ 0)) 2 (.int .u64 0);refine bodyPost_ret (Fl results205 _ _ w.heap.size 166 _ _ _ rfl I underlying166 rfl kR) rfl (.inr ⟨by rw[ad.out];rfl,a5.qM3 (L3 w.heap.size _ _ _ _) (OffD.one u dC),((a8.sc _).sc _).sc _⟩)
 go_region_with (go_at_call 248;go_must (refine(YU _ _ _ _ b 288 _ (by first | exact F | exact ν _ F) oM oM).mono ?_);rintro e w' ⟨rfl,rfl⟩)
 all_goals exact key
variable {κ:Kd}
def Nh{V A n C:Nat}{l}{ws}{wr:Int}{qc}{w}(c:Dw κ V A n C l ws wr qc w)(i:Nat)(a:Option (Int×Int×Int))(s:i<n)(d:IsHd (laidAll l ws) i a):
  (EW κ V A n C l ws wr qc).toEnv.C 205 #[ϖ V,ϊ i] w λe w'=>e=ϱ (.tuple #[CV a,ϐ a.isSome])/\(EW κ V A n C l ws wr qc).toEnv.To w w':=by
 let⟨m,b⟩:=eX (laidAll l ws);rw[<-b]at d;have z:(256:Int) ^ 2=65536:=dC
 have t:(256:Int) ^ 8=18446744073709551616:=dC
 have:(τ m i).length=128:=by
  let⟨_,h,_⟩:=c;rw[b];exact FB (Cy n ws l h.len h.fit) s
 have v:(((τ m i).drop 8).take 8).length=8:=by rw[lK,lD];omega
 have x:(((τ m i).drop 6).take 2).length=2:=by rw[lK,lD];omega
 have y:(((τ m i).drop 16).take 8).length=8:=by rw[lK,lD];omega
 have k:=Fi (((τ m i).drop 8).take 8) oM;have o:=Fi (((τ m i).drop 6).take 2) oM;have p:=Fi (((τ m i).drop 16).take 8) oM;rw[v,t]at k;rw[x,z]at o;rw[y,t]at p;refine(Vt c i m b _ _ _ s rfl rfl rfl k.1 o.1 oM p.1 a.isSome ?_).mono ?_
 .cases a with
  | some c=>
   let⟨f,g,j,q,r⟩:=d;rw[f,g,j];simp[q,r]
  | none=>
   symm
   show _=false;rw[Bool.and_eq_false_iff];by_cases b:BF (BC (((τ m i).drop 8).take 8)) % 2=(i:Int)
   .right;rw[beq_eq_false_iff_ne];intro e;exact d _ _ _ ⟨rfl,rfl,rfl,b,e⟩
   .left;simpa using b
 .rintro e w' (h|⟨rfl,u⟩)
  .exact .inl h
  refine .inr ⟨?_,u⟩
  cases a with
  | some c=>
   let⟨f,g,j,q,r⟩:=d;rw[f,g,j];simp[CV]
  | none=>simp[CV]
def Kk{V A n C:Nat}{l}{ws}{wr:Int}{qc}{w}(hd:Dw κ V A n C l ws wr qc w)(k j:Option (Int×Int×Int))(al:8<=n)(aj:IsHd (laidAll l ws) 0 k)(ak:IsHd (laidAll l ws) 1 j):
  (EW κ V A n C l ws wr qc).toEnv.C 140 #[ϖ V] w λe w'=>e=ϱ (.tuple #[CV (BA k j),ϐ (BA k j).isSome])/\(EW κ V A n C l ws wr qc).toEnv.To w w':=by
 have:=hd.sA;obtain⟨i,u,v,y,K,H⟩:∃i u v y,CV k=.agg #[.int .u64 i,ϊ u,.int .u64 v]/\k.isSome=y:=by cases k<;>exact⟨_,_,_,_,rfl,rfl⟩
 obtain⟨f,r,s,z,P,I⟩:∃f r s z,CV j=.agg #[.int .u64 f,ϊ r,.int .u64 s]/\j.isSome=z:=by cases j<;>exact⟨_,_,_,_,rfl,rfl⟩
 have HF:Hid (∀W,Dw κ V A n C l ws wr qc W->((EW κ V A n C l ws wr qc).toEnv.C 205 #[ϖ V,ϊ 0] W λe w'=>e=ϱ (.tuple #[.agg #[.int .u64 i,ϊ u,.int .u64 v],ϐ y])/\(EW κ V A n C l ws wr qc).toEnv.To W w')/\((EW κ V A n C l ws wr qc).toEnv.C 205 #[ϖ V,ϊ 1] W λe w'=>e=ϱ (.tuple #[.agg #[.int .u64 f,ϊ r,.int .u64 s],ϐ z])/\(EW κ V A n C l ws wr qc).toEnv.To W w')):=λW g=>by
  have k0:=Nh g 0 k oM aj;have k1:=Nh g 1 j oM ak;rw[K,H]at k0;rw[P,I]at k1;exact⟨k0,k1⟩
 have R:Hid (∀q,(z=true->y=true->Dz f i=q)->CV (BA k j)=(if z && (!y || q) then .agg #[.int .u64 f,ϊ r,.int .u64 s] else .agg #[.int .u64 i,ϊ u,.int .u64 v])/\(BA k j).isSome=(z || y)):=λq hq=>by
  cases k with
  | none=>
   cases j with
   | none=>subst H;subst I;exact⟨by simpa [BA] using K,rfl⟩
   | some b=>subst H;subst I;exact⟨by simpa [BA] using P,rfl⟩
  | some a=>
   cases j with
   | none=>subst H;subst I;exact⟨by simpa [BA] using K,rfl⟩
   | some b=>
    subst H;subst I;have e0:a.1=i:=by have h:=K;simp[CV,BE]at h;exact h.1
    have e1:b.1=f:=by have h:=P;simp[CV,BE]at h;exact h.1
    have G:=hq rfl rfl;rw[<-e0,<-e1]at G
    cases q with
    | true=>exact⟨by simpa [BA,G] using P,by simp[BA,G]⟩
    | false=>exact⟨by simpa [BA,G] using K,by simp[BA,G]⟩
 go_enter func140,ntmps140;go_wp2_with fail;have O:(EW κ V A n C l ws wr qc).toEnv.To w (w.alloc (ϲ #[.int .u64 0,ϊ 0,.int .u64 0] 166)):=Env.To.of0 (hid hd) (kF.alloc _);apply Env.call (HF _ O.dev).1 O;rintro e Z ⟨rfl,ae⟩;have ab:Kp [A] _ Z:=ae.kp;have ad:=ab.heap (μ w (ϲ #[.int .u64 0,ϊ 0,.int .u64 0] 166)) sO;have:=U ad;have:=O.kp.size;have:=ab.size;have ah:=hid (O.trans ae);go_wp2_with fail;have X:(EW κ V A n C l ws wr qc).toEnv.To w (Z.alloc (ϲ #[.int .u64 i,ϊ u,.int .u64 v] 166)):=ah.out.tail (kF.alloc _);apply Env.call (HF _ X.dev).2 X;rintro e Q ⟨rfl,af⟩;have N:Kp [A] _ Q:=af.kp;have S:Dw κ V A n C l ws wr qc Q:=af.dev;have c:=N.heap (ν _ ad) sO;have t:=N.heap (μ Z (ϲ #[.int .u64 i,ϊ u,.int .u64 v] 166)) sO;have T:Kp [A] w Q:=X.kp.trans N (λ_ h _=>h);have:=N.size;have:=U t;have:=U c
 cases z with
 | false=>
  have m:=Y c 0;have o:=Y c 1;have p:=Y c 2;have:=ρ c;have B:=Y t 0;have D:=Y t 1;have E:=Y t 2;simp at m o p B D E;go_wp2;have x:=ν (ϲ #[.int .u64 f,ϊ r,.int .u64 s] 166) (ξ (ξ (ξ c 0 (.int .u64 i)) 1 (ϊ u)) 2 (.int .u64 v));refine bodyPost_ret (Fl results140 _ _ (ϳ w) 166 _ _ _ rfl x underlying166 rfl kR) rfl (.inr ⟨by have h:=R.out true sM;simp[Bool.false_and,Bool.false_or]at h;rw[h.1,h.2];rfl,(S.qM3 (L3 (ϳ w) _ _ _ _) (OffD.one c dC)).qM4 (kF.alloc _),(((T.sc _).sc _).sc _).alloc _⟩)
 | true=>
  cases y with
  | false=>
   have m:=Y c 0;have o:=Y c 1;have p:=Y c 2;have:=ρ c;simp at m o p;go_wp2;have x:=ν (ϲ #[.int .u64 f,ϊ r,.int .u64 s] 166) (ξ (ξ (ξ c 0 (.int .u64 f)) 1 (ϊ r)) 2 (.int .u64 s));refine bodyPost_ret (Fl results140 _ _ (ϳ w) 166 _ _ _ rfl x underlying166 rfl kR) rfl (.inr ⟨by have h:=R.out true sM;simp[Bool.not_false,Bool.true_or,Bool.and_self,Bool.or_false]at h;rw[h.1,h.2];rfl,(S.qM3 (L3 (ϳ w) _ _ _ _) (OffD.one c dC)).qM4 (kF.alloc _),(((T.sc _).sc _).sc _).alloc _⟩)
  | true=>
   have m:=Y c 0;have o:=Y c 1;have p:=Y c 2;have:=ρ c;have B:=Y t 0;have D:=Y t 1;have E:=Y t 2;simp at m o p B D E;go_wp2_with fail;apply(YK _ _ _ _ _ _ _).mono;obtain⟨q,ag⟩:=eY (Dz f i);rw[ag];have HR:=hid (R q (λ_ _=>ag));rintro e w3 ⟨rfl,ai⟩;have F:=Kp.qN2 ai lR;have d:=F.heap (ν _ c) sM;have aa:=(S.qM4 (kF.alloc _)).qM4 F;have L:=F.heap (ν _ t) sM;have M:=F.heap (μ Q (ϲ #[.int .u64 f,ϊ r,.int .u64 s] 166)) sM;have ac:=(T.alloc _).tr F;have:=U d;have:=U L;have:=U M
   cases q with
   | false=>
    have m:=Y d 0;have o:=Y d 1;have p:=Y d 2;have:=ρ d;have B:=Y L 0;have D:=Y L 1;have E:=Y L 2;simp at m o p B D E;go_wp2;have x:=ξ (ξ (ξ d 0 (.int .u64 i)) 1 (ϊ u)) 2 (.int .u64 v);refine bodyPost_ret (Fl results140 _ _ (ϳ w) 166 _ _ _ rfl x underlying166 rfl kR) rfl (.inr ⟨by have h:=HR.out;simp[Bool.not_true,Bool.or_self,Bool.and_false,Bool.or_true]at h;rw[h.1,h.2];rfl,aa.qM3 (L3 (ϳ w) _ _ _ _) (OffD.one d dC),((ac.sc _).sc _).sc _⟩)
   | true=>
    have m:=Y d 0;have o:=Y d 1;have p:=Y d 2;have:=ρ d;have B:=Y M 0;have D:=Y M 1;have E:=Y M 2;simp at m o p B D E;go_wp2;have x:=ξ (ξ (ξ d 0 (.int .u64 f)) 1 (ϊ r)) 2 (.int .u64 s);refine bodyPost_ret (Fl results140 _ _ (ϳ w) 166 _ _ _ rfl x underlying166 rfl kR) rfl (.inr ⟨by have h:=HR.out;simp[Bool.or_true,Bool.and_self]at h;rw[h.1,h.2];rfl,aa.qM3 (L3 (ϳ w) _ _ _ _) (OffD.one d dC),((ac.sc _).sc _).sc _⟩)
def YL{V A n C:Nat}{l}{ws}{wr:Int}{qc}{w}(h:Dw κ V A n C l ws wr qc w)(N a rs:Int)(j:8<=n)(i:Heads (laidAll l ws) N a rs):
  (EW κ V A n C l ws wr qc).toEnv.C 140 #[ϖ V] w λe w'=>e=ϱ (.tuple #[.agg #[.int .u64 N,ϊ a,.int .u64 rs],ϐ true])/\(EW κ V A n C l ws wr qc).toEnv.To w w':=by
 let⟨b,c,d,f,g⟩:=i;have k:=Kk h b c j d f;rw[g]at k;exact k
variable {κ:Kd}
structure Mixed(N:Nat)(l:ϣ)(ws:ϥ)(l2:ϣ):Prop where
 len:N*128<=l2.length
 oth:∀k,k<N->k∉ws.map Prod.fst->τ l2 k=τ l k
 sec:∀k,k<N->(τ l2 k).take 32=(τ l k).take 32\/∃x∈ws,x.1=k/\(τ l2 k).take 32=x.2.take 32
def DQ(l:List UInt8)(i s:Nat)(b:List UInt8):List UInt8:=l.take (i*128+s*32)++(b.drop (s*32)).take 32++l.drop (i*128+s*32+32)
def KN(l b)(i s n:Nat)(g:n*128<=l.length)(f:i<n)(j:s<4)(e:b.length=128)(q:Nat):(DQ l i s b)[q]?=if i*128+s*32<=q/\q<i*128+s*32+32 then b[q-i*128]? else l[q]?:=by
 have c:(l.take (i*128+s*32)).length=i*128+s*32:=by rw[lK];omega
 have d:((b.drop (s*32)).take 32).length=32:=by rw[lK,lD];omega
 unfold DQ;rw[aA,List.getElem?_append,c];split
 .rename_i h;rw[if_neg oM,List.getElem?_take,if_pos h]
 .rename_i h;rw[List.getElem?_append,d];split
  .rename_i a;rw[if_pos oM,List.getElem?_take,if_pos a,List.getElem?_drop]
   congr 1
   omega
  .rename_i a;rw[if_neg oM,List.getElem?_drop]
   congr 1
   omega
def qD9(l b)(i s n:Nat)(d:n*128<=l.length)(c:i<n)(e:s<4)(a:b.length=128):(DQ l i s b).length=l.length:=by
 unfold DQ;rw[lA,lA,lK,lK,lD,lD];omega
def qE0(l b)(i s n k:Nat)(d:n*128<=l.length)(c:i<n)(e:s<4)(a:b.length=128)(f:k≠i):τ (DQ l i s b) k=τ l k:=by
 refine List.ext_getElem? λq=>?_;simp only[τ,List.getElem?_take,List.getElem?_drop];split
 .rw[KN l b i s n d c e a,if_neg oM]
 .rfl
def qD8(l b)(i s n:Nat)(e:n*128<=l.length)(d:i<n)(f:s<4)(c:b.length=128):(τ (DQ l i s b) i).take 32=if s=0 then b.take 32 else(τ l i).take 32:=by
 refine List.ext_getElem? λq=>?_;simp[τ,List.getElem?_take,List.getElem?_drop];by_cases a:s=0
 .subst a;rw[if_pos rfl,List.getElem?_take];split
  .rw[if_pos oM,KN l b i 0 n e d f c,if_pos oM]
   congr 1
   omega
  .rfl
 .rw[if_neg a];simp[List.getElem?_take,List.getElem?_drop];split
  .rw[if_pos oM,if_pos oM,KN l b i s n e d f c,if_neg oM]
  .rfl
def Mixed.none{N:Nat}{l}(h:N*128<=l.length):Mixed N l [] l:=⟨h,λ_ _ _=>rfl,λ_ _=>.inl rfl⟩
def Mixed.more{N:Nat}{l l2}{ws ws'}(h:Mixed N l ws l2)(b:∀x∈ws,x∈ws'):Mixed N l ws' l2:=
 ⟨h.len,λk a c=>h.oth k a (λhm=>c (by let⟨x,hx,e⟩:=List.mem_map.1 hm;exact List.mem_map.2 ⟨x,b x hx,e⟩)),λk a=>(h.sec k a).imp_right (λ⟨x,hx,e⟩=>⟨x,b x hx,e⟩)⟩
structure MixS(N i s:Nat)(b l l2:ϣ):Prop where
 len:l2.length=l.length
 oth:∀k,k≠i->τ l2 k=τ l k
 sec:(τ l2 i).take 32=(τ l i).take 32\/(1<=s/\(τ l2 i).take 32=b.take 32)
def MixS.skip{N i s:Nat}{b l l2}(h:MixS N i s b l l2):MixS N i (s+1) b l l2:=⟨h.len,h.oth,h.sec.imp_right λh=>⟨oM,h.2⟩⟩
def MixS.put{N i s:Nat}{b l l2}(h:MixS N i s b l l2)(j:N*128<=l.length)(c:i<N)(e:s<4)(a:b.length=128):MixS N i (s+1) b l (DQ l2 i s b):=by
 have d:N*128<=l2.length:=by rw[h.len];exact j
 refine⟨(qD9 l2 b i s N d c e a).trans h.len,λk g=>(qE0 l2 b i s N k d c e a g).trans (h.oth k g),?_⟩;rw[qD8 l2 b i s N d c e a];by_cases f:s=0
 .rw[if_pos f];exact .inr ⟨oM,rfl⟩
 .rw[if_neg f];exact h.sec.imp_right λh=>⟨oM,h.2⟩
def Mixed.one{N:Nat}{l m n:ϣ}{ws:ϥ}{j:Nat}(o:j<ws.length)(h:Mixed N l (ws.take j) m)(c:MixS N ws[j].1 4 ws[j].2 m n):Mixed N l (ws.take (j+1)) n:=by
 have e:=tA o;refine⟨by rw[c.len];exact h.len,λk b g=>?_,λk b=>?_⟩
 .rw[e,List.map_append,List.mem_append,not_or]at g;exact(c.oth k (λe=>g.2 (by simp[e]))).trans (h.oth k b g.1)
 .by_cases a:k=ws[j].1
  .rcases c.sec with f|⟨_,f⟩
   .rw[a,f,<-a];exact(h.sec k b).imp_right λ⟨x,i,d⟩=>⟨x,by rw[e];exact List.mem_append_left _ i,d⟩
   .exact .inr ⟨ws[j],by rw[e];exact List.mem_append_right _ (List.mem_singleton_self _),a.symm,by rw[a];exact f⟩
  .rw[c.oth k a];exact(h.sec k b).imp_right λ⟨x,i,d⟩=>⟨x,by rw[e];exact List.mem_append_left _ i,d⟩
def ZQ{x:Nat×ϣ}(h:x.2.length=128)(s:Nat)(b:s<4):Ad (wcs x).toArray (1+s*32) 32=enc ((x.2.drop (s*32)).take 32):=by
 have a:Ad (wcs x).toArray (1+s*32) 32=Ad (enc x.2) (s*32) 32:=by
  unfold Ad;simp[wcs,enc,Nat.add_comm 1]
 rw[a,Dd]
def qD3:∀(s:Nat),s<4->∀(B o:Nat)(W:Ϣ),Sem.run prog (Instr.sliceAt 115 (ϗ (some (ϰ B o))) (some (ϊ ((s:Int)*32))) (some (ϊ ((s:Int)*32+32))) none) W=.ok (.slice (some (ϰ B (o+s*32))) 32 (128-s*32)) W
 | 0,_=>λB o W=>by kernel_rfl
 | 1,_=>λB o W=>by kernel_rfl
 | 2,_=>λB o W=>by kernel_rfl
 | 3,_=>λB o W=>by kernel_rfl
 | n+4,h=>absurd h oM
def Lq(N C:Nat)(l:ϣ)(ws:ϥ)(w:Ϣ)(e:Ending)(w':Ϣ):Prop:=
 ∃a b c d,e=ϱ (ϖ a)/\w.heap.size<=a/\(b=C\/w.heap.size<=b)/\d.told=0/\Mixed N l ws c/\Dn d a N b c [] 0 [] w'/\Kp [] w w'
def Rl{A N C:Nat}{l}{ws}{wr:Int}{q}{w}(u:Dn κ A N C l ws wr q w)(T)(kv)(G:List Int)(Q:Slc w T 1 kv G.length (Cr G))(b9:G.length<=100000):
  Ω 37 #[ϖ A,kv] w (Lq N C l ws w):=by
 obtain⟨kb,kc,rfl⟩:=Df Q;let⟨F,ag⟩:=eX G.length;rw[<-ag];have HY:Hid (Slc w T 1 (.slice kb F kc) F (Cr G)/\F=G.length):=⟨by rw[ag];exact Q,ag⟩;have:F<=100000:=oM
 clear Q ag b9;let⟨base,p,v,calls,_,h,hp,hO,_⟩:=u.hA;have hC:=u.hC;have hl:=u.len;have bu:=u.N1;have:=u.wl;have ac:=zh (n3 u.fit u.gl u.N1);obtain⟨bs,cp,rfl⟩:∃bs cp,v=.slice bs ws.length cp:=by
  rcases hO.2 with⟨rfl,bg⟩|⟨g,cap,cur,rfl,_⟩
  .rw[bg];exact⟨_,_,rfl⟩
  .exact⟨_,_,rfl⟩
 clear u;let⟨o,m,w1,b,l',hr,B,b1,b2,b3,b4,b5⟩:=Rw N C κ.cap p l w bu hp hC hl;have f:=B.hp h;have:=U h;have bt:=U f;have ah:=B.size;have:=ϻ h 0;have z1:=ϻ f 1;clear h f hp hC hl;go_enter func37,ntmps37
 go_wp2_with (at_builtin;(with_reducible refine CC ?_ ?_ hr ?_);rfl;rfl)
 let⟨d,f⟩:=eX w1.heap.size;obtain⟨R,au,ad,Z,ae,bh⟩:∃R,R=w1.alloc (Bn o ⟨m,0,-1,0,0⟩ N (.slice none 0 0) 0 0)/\R.heap[b]?=some (ϲ (enc l') 115)/\R.heap[d]?=some (Bn o ⟨m,0,-1,0,0⟩ N (.slice none 0 0) 0 0)/\Kp [] w R/\R.heap.size=d+1:=
  ⟨_,rfl,ν _ b3,by rw[f];exact μ w1 _,B.alloc _,by rw[f];simp⟩
 simp only[Bn]at au;rw[<-au,<-f];have a4:b<d:=by rw[f];exact U b3
 have D:Hid ((b=C\/w.heap.size<=b)/\(1<=N->o=some (ϰ b 0)/\w.heap.size<=b)/\w.heap.size<=d/\b<d):=⟨b2,λh=>⟨(b1 h).1.1,(b1 h).2⟩,oM,a4⟩;clear au hr b1 b2 b3 B f z1 bt ah a4;have az:Hid (Mixed N l [] l'):=⟨b4,λk hk _=>b5 k hk,λk hk=>.inl (by rw[b5 k hk])⟩;clear b4 b5
 go_loopw [21] (λk wr=>∃(j:Nat),j<=ws.length/\k=.int .i64 j/\d+1<=wr.heap.size/\∃L,Hid (Mixed N l (ws.take j) L)/\Hid (wr.heap[b]?=some (ϲ (enc L) 115))/\Hid (wr.heap[d]?=some (Bn o ⟨m,0,-1,0,0⟩ N (.slice none 0 0) 0 0))/\Hid (Kp [] w wr)) (λk _=>ws.length-(intOf k).toNat)
 case atStart=>exact⟨0,zL _,rfl,oM,_,by simpa using az,ad,Z,ae⟩
 case round=>
  obtain⟨j,hj,rfl,b8,L,HL,HC,HA,V⟩:=hrel;clear ad Z ae bh az;have av:Hid (∀W:World,W.heap[b]?=some (ϲ (enc L) 115)->W.heap[d]?=some (Bn o ⟨m,0,-1,0,0⟩ N (.slice none 0 0) 0 0)->Kp [] w W->Lq N C l ws w (.returned (ϖ d)) W):=λW O z P=>
   ⟨d,b,L,⟨m,0,-1,0,0⟩,rfl,D.2.2.1,D.1,rfl,HL.more (λx hx=>mT hx),Dn.new z (λh=>(D.2.1 h).1) O (ac.2.1.qM3 P (by intro k hk;cases hk)) HL.len ac.2.2,P⟩
  have aw:=hid (av wr HC HA V);by_cases ar:j<ws.length
  .have:(j:Int)<(ws.length:Int):=oM
   let⟨be,af⟩:=ac.out.1 ws[j] (gM ar);let⟨ap,ao,bb,ba⟩:=Qz af;obtain⟨g,cap,cur,bi,hg,bx,bd⟩:∃g cap cur,Value.slice bs ws.length cp=.slice (some (ϰ g 0)) ws.length cap/\w.heap[g]?=some (ϲ cur 117)/\ws.length*129<=cur.size/\Ad cur (j*129) 129=(wcs ws[j]).toArray:=by
    rcases hO.2 with⟨_,bg⟩|⟨g,cap,cur,O,_,z,P,_,h4,h5⟩
    .omega
    .exact⟨g,cap,cur,O,z,by rw[h4];exact Nat.mul_le_mul_right _ P,Qy ac.1 h5 j ar⟩
   simp only[vJ,true_and]at bi;obtain⟨rfl,rfl⟩:=bi;have aq:=V.out.hp hg;have ak:Hid (∀e,MixS N ws[j].1 4 ws[j].2 L e->Mixed N l (ws.take (j+1)) e):=λe z=>Mixed.one ar HL z;have ab:=zh (λs hs=>ZQ af s hs);have H:=zh (n2 be af);have a0:=zh HL.len;have bm:=hid (D.2.1 oM).2;have bp:=hid (D.2.1 oM).1;let⟨X,hX⟩:=eX ((wcs ws[j]).toArray);let⟨i,hi⟩:=eX (ws[j].1);let⟨M,bc⟩:=eX (ws[j].2);rw[<-hX]at ap ao bb ba bd ab;rw[<-hi]at ao ak H be;rw[<-bc]at bb ak H ab;have b0:j*129+129<=ws.length*129:=oM
   clear hX hi bc af hg;have bz:=U aq
   go_wp2_with (
    with_reducible refine EO (t:=117) ?_ 129 ?_ g (j*129) ?_ cur 117 (0,0) ?_ ?_ ?_
    .kernel_rfl
    .kernel_rfl
    .rfl
    .exact aq
    .omega)
   have hN:=μ wr (ϲ zeroCells117 117);rw[DB hN (by simp[Dj,ap]) ba];obtain⟨r,a8,B,f,al,an,ah⟩:∃r,r=(wr.alloc (ϲ zeroCells117 117)).setRow wr.heap.size (Bz zeroCells117 0 X.toList.toArray)/\Kp [] w r/\
     r.heap[d]?=some (Bn o ⟨m,0,-1,0,0⟩ N (.slice none 0 0) 0 0)/\r.heap[b]?=some (ϲ (enc L) 115)/\r.heap[wr.heap.size]?=some (ϲ X 117)/\r.heap.size=wr.heap.size+1:=
    ⟨_,rfl,(V.alloc _).setRow (Or.inr V.size) _,(setRow_other _ _ _ _ (Nat.ne_of_lt (U HA))).trans (ν _ HA),(setRow_other _ _ _ _ (Nat.ne_of_lt (U HC))).trans (ν _ HC),by
     rw[setRow_heap _ _ _ _ _ _ hN,CY (by simp[Dj,ap])],sM⟩
   rw[<-a8];clear a8 hN;have ax:=hid (av r al f B);let⟨n,a5⟩:=eX wr.heap.size;have bv:d+1<=n:=oM
   rw[<-a5]at an ah |-;have br:=zh (n2 bv ah);clear aq bz aw HC HA V b8 bd bx b0 a5;by_cases cb:j<F
   .have:¬(F:Int)<=(j:Int):=oM
    obtain⟨gk,ko,y,rfl,bf⟩:∃gk ko y,kb=some (ϰ gk ko)/\∀W:World,Kp [] w W->W.cell? (ϰ gk (ko+j))=some (ϊ y)/\gk<W.heap.size:=by
     have Q:=HY.out.1;rw[HY.out.2]at Q;let⟨g,ca,cap,cur,fr,O,z,P⟩:=Q.ints (oW HY.out.2);simp only[vJ]at O;refine⟨g,ca,G[j]'(oW HY.out.2),O.1,λW hW=>⟨?_,U (hW.hp z)⟩⟩;rw[Y (hW.hp z)];exact P j _
    have bo:=Hid.mk' bf;clear bf;go_wp2;have ay:Hid (r.heap[b]?=some (ϲ (enc L) 115)/\MixS N i 0 M L L):=⟨al,rfl,λ_ _=>rfl,.inl rfl⟩
    go_loopw [8] (λk wq=>∃(s:Nat),s<=4/\k=.int .i64 s/\n+1<=wq.heap.size/\∃e,Hid (wq.heap[b]?=some (ϲ (enc e) 115)/\MixS N i s M L e)/\Hid (wq.heap[d]?=some (Bn o ⟨m,0,-1,0,0⟩ N (.slice none 0 0) 0 0))/\Hid (wq.heap[n]?=some (ϲ X 117))/\Hid (Kp [] w wq)) (λk _=>4-(intOf k).toNat)
    case atStart=>exact⟨0,oM,rfl,oM,L,ay,f,an,B⟩
    case round=>
     obtain⟨s,hs,rfl,b7,e,I,aj,a2,aa⟩:=hrel;clear f al an B ay ax;by_cases ai:s<4
     .have:(s:Int)<4:=oM
      let⟨yc,bj⟩:=bo.out _ aa.out;have:=Hid.mk' bj;clear bj;have a3:=aj.out;have a7:=a2.out;have am:=I.out.1;have a1:=zh (n2 I.2.skip (I.2.put a0 H.1 ai H.2));go_wp2_with fail
      rotate_left
      .exact⟨⟨s+1,oM,by go_num,b7,e,⟨am,a1.1⟩,aj,a2,aa⟩,iO⟩
      have:IntKind.i64.wrap ((s:Int)*32)=(s:Int)*32:=by rw[wK];omega
      have:IntKind.i64.wrap ((s:Int)+1)=(s:Int)+1:=by rw[wK];omega
      have:IntKind.i64.wrap (((s:Int)+1)*32)=(s:Int)*32+32:=by rw[wK];omega
      have:=qD3 s ai;have a:wr.drew.heap[d]?=some (Bn o ⟨m,0,-1,0,0⟩ N (.slice none 0 0) 0 0)/\wr.drew.heap[n]?=some (ϲ X 117):=⟨a3,a7⟩;refine wp_region_held_drew (S:=λW=>W.heap[d]?=some (Bn o ⟨m,0,-1,0,0⟩ N (.slice none 0 0) 0 0)/\W.heap[n]?=some (ϲ X 117)) kR a (λ_=>?_);refine zP 0 d 0 a ?_;refine zV 1 (ϖ d) rfl (λW hS=>by have:=U hS.1;go_simp) a ?_;refine zP 2 d 0 a ?_;refine zV 3 (.slice (some (ϰ b 0)) N m) rfl (λW hS=>by have c:=Y hS.1 0;simp only[Bn,zG,zH,bp.out]at c;go_simp) a ?_;refine zP 4 n 0 a ?_;refine zV 5 (ϊ i) rfl (λW hS=>by have c:=Y hS.2 0;rw[ao]at c;go_simp) a ?_;refine zU 6 (.pointer (some (ϰ b (i*128)))) a ?_;refine zU 7 (ϊ s) a ?_;refine zU 8 (ϊ ((s:Int)*32)) a ?_;refine zU 9 (ϊ s) a ?_;refine zU 10 (ϊ ((s:Int)+1)) a ?_;refine zU 11 (ϊ ((s:Int)*32+32)) a ?_;refine zU 12 (.slice (some (ϰ b (i*128+s*32))) 32 (128-s*32)) a ?_;refine zP 13 n 1 a ?_;refine zU 14 (ϊ s) a ?_;refine zU 15 (ϊ ((s:Int)*32)) a ?_;refine zU 16 (ϊ s) a ?_;refine zU 17 (ϊ ((s:Int)+1)) a ?_;refine zU 18 (ϊ ((s:Int)*32+32)) a ?_;refine zU 19 (.slice (some (ϰ n (1+s*32))) 32 (128-s*32)) a ?_;have:N*128<=e.length:=by rw[I.out.2.len];exact a0
      have bw:((M.drop (s*32)).take 32).length=32:=by rw[lK,lD,H.out.2];omega
      refine zq 20 λK hK=>?_;refine AU rfl (Nb rfl underlying118 Tryz.qQ7 b (i*128+s*32) 32 (128-s*32) n (1+s*32) 32 (128-s*32) 32 rfl rfl dC (show wr.drew.heap[b]?=some (ϲ (enc e) 115) from am) a.2 (by rw[Bw];have:=H.out.1;omega) oM (by rw[ab.out s ai];exact(Co _).one)) ?_;rw[ab.out s ai,JN,bw];obtain⟨E,a9,ad,Z,a6,ae,bh⟩:∃E,E=wr.drew.setRow b (enc (e.take (i*128+s*32)++(M.drop (s*32)).take 32++e.drop (i*128+s*32+32)))/\E.heap[b]?=some (ϲ (enc (DQ e i s M)) 115)/\E.heap[d]?=some (Bn o ⟨m,0,-1,0,0⟩ N (.slice none 0 0) 0 0)/\E.heap[n]?=some (ϲ X 117)/\Kp [] w E/\E.heap.size=wr.heap.size:=
       ⟨_,rfl,setRow_heap wr.drew _ _ _ _ _ am,(setRow_other wr.drew _ _ _ (oW D.out.2.2.2)).trans a3,(setRow_other wr.drew _ _ _ (oX br.out D.out.2.2.2)).trans a7,(aa.drew).setRow (Or.inr bm) _,sM⟩
      rw[<-a9];clear a9;refine hK.out _ _ ⟨Z,a6⟩ (λ_=>?_);refine zd ?_
      try simp only[zZ]
      have HE:=zh (n2 ad a1.2);have bk:=Hid.mk' Z;have bq:=Hid.mk' a6;have bn:=Hid.mk' ae;go_wp2;exact⟨⟨s+1,oM,by go_num,oM,DQ e i s M,HE,bk,bq,bn⟩,iO⟩
     .have:¬(s:Int)<4:=oM
      have b6:s=4:=oM
      subst b6;have HE:=zh (ak e I.2);go_wp2;exact⟨⟨j+1,oM,by go_num,oM,e,HE,I.1,aj,aa⟩,iO⟩
   .have:(F:Int)<=(j:Int):=oM
    go_wp2;go_ret;exact ax
  .have:¬(j:Int)<(ws.length:Int):=oM
   go_wp2;go_ret;exact aw
def Mixed.laid{N:Nat}{l}{ws}(d:N*128<=l.length)(c:∀x∈ws,x.1<N/\x.2.length=128):Mixed N l ws (laidAll l ws):=by
 have h:∀j,j<=ws.length->Mixed N l (ws.take j) (laidAll l (ws.take j)):=by
  intro j
  induction j with
  | zero=>intro _;simpa [laidAll] using Mixed.none d
  | succ j ih=>
   intro g;have b:j<ws.length:=oM
   have a:=c ws[j] (gM b);have e:=Cy N (ws.take j) l d (λx a=>c x (mT a));rw[JM l ws j b];refine Mixed.one b (ih oM) ⟨qD7 _ _ _ ?_,λk f=>Dl _ _ _ k N a.2 e a.1 f,.inr ⟨oM,by rw[CT _ _ _ N a.2 e a.1]⟩⟩;rw[a.2];have:(ws[j].1+1)*128<=N*128:=Nat.mul_le_mul_right 128 a.1;omega
 have:=h ws.length lR
 rwa [List.take_length]at this
def Mp{N:Nat}{l}:∀(n b:Nat)(s:Int)(t),Laid N l n b s t->∀k∈Blk n b t,k<N
 | 0,b,s,t,h,k,a=>by simp[Blk]at a;have:=h.at;omega
 | n+1,b,s,t,h,k,a=>by
  have:=h.at;let⟨g,j,o,q,c,p⟩:=h;simp[Blk,mC,List.mem_flatMap]at a;rcases a with rfl|⟨m,f,a⟩
  .omega
  .obtain⟨i,d,rfl⟩:=gO f;have e:=(c.2 i (by rw[c.1];exact d) d).2
   cases hx:(J t)[i].ref with
   | none=>rw[hx]at a;cases a
   | some x=>
    rw[hx]at a e;exact Mp n x.1 x.2 _ e.2.2.2 k a
def Lie.lt{N:Nat}{l}{e rs:Int}{r}(h:Lie N l e rs r):∀k∈Cu r,k<N:=λk hk=>by
 cases r with
 | none=>cases hk
 | «at» n L=>
  obtain⟨b,rfl,c,d⟩:=h;have a:k∈BB n L:=hk;rw[Dm c]at a;exact Mp n b rs L.sub d k a
def OX{a b:Int}(c:0<=a)(d:a<b)(e:b<1000000000000):Dz b a=true/\Dz a b=false:=by
 unfold Dz;refine⟨?_,?_⟩<;>simp[wrap64,IntKind.wrap_u64,decide_eq_true_eq,decide_eq_false_iff_not]<;>omega
def Heads.top{l}{i:Nat}{n u rs:Int}(x:i<2)(j:Valid l i n u rs)(t:∀k a b c,k<2->Valid l k a b c->0<=a/\a<=n)(w:n<1000000000000):Heads l n u rs:=by
 let⟨o,d⟩:=IsHd.is l 0;let⟨p,e⟩:=IsHd.is l 1;refine⟨o,p,d,e,?_⟩;have v:i=0\/i=1:=oM
 rcases v with rfl|rfl
 .cases o with
  | none=>exact absurd j (d _ _ _)
  | some a=>
   let⟨f,g,h⟩:=Valid.one d j
   cases p with
   | none=>simp[BA,<-f,<-g,<-h]
   | some b=>
    have q:=t 1 _ _ _ oM e;have s:b.1<a.1:=by
     have:=d.2.2.2.1;have:=e.2.2.2.1;omega
    have r:=(OX q.1 s oM).2;simp[BA,r,<-f,<-g,<-h]
 .cases p with
  | none=>exact absurd j (e _ _ _)
  | some b=>
   let⟨f,g,h⟩:=Valid.one e j
   cases o with
   | none=>simp[BA,<-f,<-g,<-h]
   | some a=>
    have q:=t 0 _ _ _ oM d;have s:a.1<b.1:=by
     have:=d.2.2.2.1;have:=e.2.2.2.1;omega
    have r:=(OX q.1 s oM).1;simp[BA,r,<-f,<-g,<-h]
def Heads.max{l}{n F rs:Int}(h:Heads l n F rs){k:Nat}{a b c:Int}(q:k<2)(d:Valid l k a b c)(p:∀k a b c,k<2->Valid l k a b c->0<=a/\a<1000000000000):a<=n:=by
 by_cases z:a<=n
 .exact z
 .let⟨i,P,_,r⟩:=h.valid;have:k≠i:=λe=>by subst e;have:=(Valid.one d r).1;omega
  have B:=Heads.top q d (λj G H I A g=>⟨(p j _ _ _ A g).1,by
   by_cases e:j=k
   .subst e;have:=(Valid.one d g).1;omega
   .have f:j=i:=oM
    subst f;have:=(Valid.one r g).1;omega⟩) (p k _ _ _ q d).2
  let⟨K,L,t,u,f⟩:=h;let⟨M,O,v,w,o⟩:=B;have s:∀{i:Nat} {x y:Option (Int×Int×Int)},IsHd l i x->IsHd l i y->x=y:=λ{i x y} hx hy=>by
   cases x with
   | none=>
    cases y with
    | none=>rfl
    | some y=>exact absurd hy (hx _ _ _)
   | some x=>
    cases y with
    | none=>exact absurd hx (hy _ _ _)
    | some y=>let⟨C,D,E⟩:=Valid.one hx hy;exact congrArg some (Prod.ext C (Prod.ext D E))
  rw[s v t,s w u,f]at o;cases o;omega
def Fnds(N:Nat)(m:ϣ)(May:List KV->Prop)(Em:Prop):Prop:=(Em/\∀i n a rs,i<2->¬Valid m i n a rs)\/∃n a rs r,Heads m n a rs/\Lie N m a rs r/\RGood r/\May r.cont
def Fnds.same{N:Nat}{m m'}{May:List KV->Prop}{Em:Prop}(h:Fnds N m May Em)(c:∀k,k<2->(τ m' k).take 32=(τ m k).take 32)(o:∀k,2<=k->k<N->τ m' k=τ m k):Fnds N m' May Em:=by
 rcases h with⟨h,g⟩|⟨n,b,rs,r,f,a,j⟩
 .exact .inl ⟨h,λi n b rs d p=>g i n b rs d (p.sec (c i d).symm)⟩
 .exact .inr ⟨n,b,rs,r,f.same c,a.move λk e=>o k (a.ge k e) (a.lt k e),j⟩
def Fnds.mono{N:Nat}{m}{May b:List KV->Prop}{Em a:Prop}(h:Fnds N m May Em)(e:∀c,May c->b c)(d:Em->a):Fnds N m b a:=
 h.imp (λh=>⟨d h.1,h.2⟩) λ⟨n,rb,rs,r,g1,g2,g3,g4⟩=>⟨n,rb,rs,r,g1,g2,g3,e _ g4⟩
structure Pend(N:Nat)(l:ϣ)(ws:ϥ)(May:List KV->Prop)(Em:Prop)(nm:Int):Prop where
 each:∀m,Mixed N l ws m->Fnds N m May Em
 n0:0<=nm
 qP5:∀m i n rb rs,Mixed N l ws m->i<2->Valid m i n rb rs->1<=n/\n<=nm
 top:1<=nm->∃rb rs,Heads (laidAll l ws) nm rb rs
section
variable {N:Nat} {l m:ϣ} {ws:ϥ} {May:List KV→Prop} {Em:Prop} {nm:Int}
def Pend.mono(h:Pend N l ws May Em nm){b:List KV->Prop}{a:Prop}(e:∀c,May c->b c)(d:Em->a):Pend N l ws b a nm:={ h with each:=λm hm'=>(h.each m hm').mono e d }
def Mixed.is(h:Mixed N l [] m):∀k,k<N->τ m k=τ l k:=λk hk=>h.oth k hk sM
def Pend.after(h:Pend N l ws May Em nm)(t:Mixed N l ws m)(z:2<=N)(A:nm<1000000000000):∃x,x<=nm/\Pend N m [] May Em x:=by
 have s:=λk a b c d f=>h.qP5 m k a b c t d f;have u:∀e,Mixed N m [] e->∀k a b c,k<2->Valid e k a b c->Valid m k a b c:=λe j k a b c d f=>f.sec (by rw[j.is k oM]);have v:∀e,Mixed N m [] e->Fnds N e May Em:=λe j=>(h.each m t).same (λk d=>by rw[j.is k oM]) (λk _ d=>j.is k d);rcases h.each m t with⟨_,g⟩|⟨n,p,rs,r,q,_⟩
 .exact⟨0,h.n0,v,iR _,λe i n p rs j o f=>absurd (u e j i n p rs o f) (g i n p rs o),λh=>by omega⟩
 .let⟨i,o,_,f⟩:=q.valid;have:=s i _ _ _ o f;refine⟨n,this.2,v,oM,λe k a b c j d y=>?_,λ_=>⟨p,rs,q⟩⟩;have w:=u e j k a b c d y;exact⟨(s k _ _ _ d w).1,q.max d w λk a b c d f=>by have:=s k a b c d f;omega⟩
end
def Pend.side{N:Nat}{l}{ws}{n f rs:Int}{r}(y:2<=N)(w:N*128<=l.length)(u:∀x∈ws,x.1<N/\x.2.length=128)(p:Heads l n f rs)(q:Lie N l f rs r)(v:RGood r)(s:∀i a b c,i<2->Valid l i a b c->1<=a/\a<=n)(t:∀x∈ws,2<=x.1/\x.1∉Cu r):Pend N l ws (λc=>c=r.cont) False n:=by
 have j:∀m,Mixed N l ws m->∀k,k<2->τ m k=τ l k:=λm d k hk=>d.oth k oM λhx=>by
  obtain⟨x,h,rfl⟩:=List.mem_map.1 hx;have:=(t x h).1;omega
 have o:=λm d=>p.move (j m d);refine⟨λm d=>.inr ⟨n,f,rs,r,o m d,q.move λk hk=>d.oth k (q.lt k hk) λhx=>?_,v,rfl⟩,?_,λm i a b c d e g=>s i a b c e (g.sec (by rw[j m d i e])),λ_=>⟨f,rs,o _ (Mixed.laid w u)⟩⟩
 .obtain⟨x,h,rfl⟩:=List.mem_map.1 hx;exact(t x h).2 hk
 .let⟨i,e,_,g⟩:=p.valid;have:=s i _ _ _ e g;omega
def Pend.lay{N:Nat}{l}{ws}{May:List KV->Prop}{Em:Prop}{nm p q:Int}{r'}{i:Nat}(h:Pend N l ws May Em nm)(K:∀m,Mixed N l ws m->Lie N m p q r')(R:RGood r')(T:2<=N)(P:N<=1000)(z:N*128<=l.length)(C:∀x∈ws,x.1<N/\x.2.length=128)(y:nm<100000000000)(S:(nm+1) % 2=(i:Int)):Pend N l (ws++[(i,Ae (nm+1) p q)]) (λc=>May c\/c=r'.cont) Em (nm+1):=by
 have I:i<2:=oM
 have:=h.n0;have L:=K l (Mixed.more (Mixed.none z) sM);have B:=L.bnd P;have F:HeadOk i (nm+1) p q:=⟨S,oM,oM,B.1,B.2.1,B.2.2,L.sum⟩
 -- what survives is as without the head,or has it
 have H:∀m,Mixed N l (ws++[(i,Ae (nm+1) p q)]) m->∃s,Mixed N l ws s/\(∀k,k<N->k≠i->τ m k=τ s k)/\((τ m i).take 32=(τ s i).take 32\/(τ m i).take 32=(Ae (nm+1) p q).take 32):=λm o=>by
  have t:=o.len;have f:∀b:List UInt8,b.length=128->(i∉ws.map Prod.fst->b=τ l i)->(b.take 32=(τ l i).take 32\/∃x∈ws,x.1=i/\b.take 32=x.2.take 32)->Mixed N l ws (Ap m i b):=λb n g u=>by
   refine⟨EK _ _ i N n t oM,λk d y=>?_,λk d=>?_⟩
   .by_cases e:k=i
    .subst e;rw[CT _ _ _ N n t oM];exact g y
    .rw[Dl _ _ i k N n t oM e];exact o.oth k d (by rw[List.map_append,List.mem_append,not_or];exact⟨y,sU e⟩)
   .by_cases e:k=i
    .subst e;rw[CT _ _ _ N n t oM];exact u
    .rw[Dl _ _ i k N n t oM e];refine(o.sec k d).imp_right λ⟨x,f,A,O⟩=>⟨x,?_,A,O⟩;rcases mA f with f|f
     .exact f
     .rw[mS f]at A;exact absurd A.symm e
  have G:∀b:List UInt8,b.length=128->∀k,k<N->k≠i->τ m k=τ (Ap m i b) k:=λb n k d e=>(Dl _ _ i k N n t oM e).symm;have w:(τ l i).length=128:=FB z oM;rcases o.sec i oM with g|⟨x,v,M,g⟩
  .exact⟨_,f _ w (λ_=>rfl) (.inl rfl),G _ w,.inl (by rw[CT _ _ _ N w t oM];exact g)⟩
  .rcases mA v with v|v
   .have n:=(C x v).2;exact⟨_,f x.2 n (λy=>absurd (List.mem_map.2 ⟨x,v,M⟩) y) (.inr ⟨x,v,M,rfl⟩),G _ n,.inl (by rw[CT _ _ _ N n t oM];exact g)⟩
   .rw[mS v]at g;exact⟨_,f _ w (λ_=>rfl) (.inl rfl),G _ w,.inr g⟩
 have E:∀m k a b c,Mixed N l (ws++[(i,Ae (nm+1) p q)]) m->k<2->Valid m k a b c->1<=a/\a<=nm+1:=λm k a b c o d r=>by
  let⟨s,g,u,j⟩:=H m o;by_cases e:k=i
  .subst e;rcases j with j|j
   .have:=h.qP5 s k a b c g d (r.sec j.symm);omega
   .have:=(Valid.one r (Valid.laid j F)).1;omega
  .have:=h.qP5 s k a b c g d (r.sec (by rw[u k oM e]));omega
 refine⟨λm o=>?_,oM,E,λ_=>?_⟩
 .let⟨s,g,u,j⟩:=H m o;rcases j with j|j
  .refine ((h.each s g).mono (λc h=>.inl h) (λh=>h)).same (λk d=>?_) (λk d hkN=>u k hkN oM);by_cases e:k=i
   .rw[e];exact j
   .rw[u k oM e]
  .have D:=K s g;exact .inr ⟨nm+1,p,q,r',Heads.top I (Valid.laid j F) (λk a b c d r=>by have:=E m k a b c o d r;omega) oM,D.move (λk d=>u k (D.lt k d) (oW (D.ge k d))),R,.inr rfl⟩
 .have Q:∀x∈ws++[(i,Ae (nm+1) p q)],x.1<N/\x.2.length=128:=λx f=>by
   rcases mA f with f|f
   .exact C x f
   .rw[mS f];exact⟨oM,BI _ _ _⟩
  have o:=Mixed.laid z Q;have r:Valid (laidAll l (ws++[(i,Ae (nm+1) p q)])) i (nm+1) p q:=Valid.laid (by
   rw[laidAll,List.foldl_append];show(τ (Ap (laidAll l ws) i _) i).take 32=_;rw[CT _ _ i N (BI _ _ _) (Cy N ws l z C) oM]) F
  exact⟨p,q,Heads.top I r (λk a b c d r=>by have:=E _ k a b c o d r;omega) oM⟩
def Pend.settle{N:Nat}{l}{ws}{May:List KV->Prop}{Em:Prop}{nm d f:Int}{r'}{i:Nat}(h:Pend N l ws May Em nm)(B:∀m,Mixed N l ws m->Lie N m d f r')(v:RGood r')(p:2<=N)(t:N<=1000)(g:N*128<=l.length)(o:∀x∈ws,x.1<N/\x.2.length=128)(E:nm<100000000000)(w:(nm+1) % 2=(i:Int)):Pend N (laidAll l (ws++[(i,Ae (nm+1) d f)])) [] (λc=>c=r'.cont) False (nm+1):=by
 have y:i<2:=oM
 have:=h.n0;have C:=h.lay B v p t g o E w;have u:∀x∈ws++[(i,Ae (nm+1) d f)],x.1<N/\x.2.length=128:=λx n=>by
  rcases mA n with n|n
  .exact o x n
  .rw[mS n];exact⟨oM,BI _ _ _⟩
 have D:=Mixed.laid g u;have z:=Cy N ws l g o;have s:=B _ (Mixed.laid g o);have q:=s.bnd t;have e:laidAll l (ws++[(i,Ae (nm+1) d f)])=Ap (laidAll l ws) i (Ae (nm+1) d f):=by rw[laidAll,List.foldl_append];rfl
 have j:Valid (laidAll l (ws++[(i,Ae (nm+1) d f)])) i (nm+1) d f:=Valid.laid (by rw[e,CT _ _ i N (BI _ _ _) z oM]) ⟨w,oM,oM,q.1,q.2.1,q.2.2,s.sum⟩;have A:=λk a b c r j=>C.qP5 _ k a b c D r j;exact Pend.side p (Cy N _ l g u) sM (Heads.top y j (λk a b c r j=>by have:=A k a b c r j;omega) oM) (by rw[e];exact s.head z p i y _ _ _) v A sM
open Go.ChangeMaps
def qA9(E:SEnv)(hO:∀(n b:Nat)(s:Int)(t:Tn n),E.O n b s t->b<=1000000)(A N:Nat)(h:HL)(a:Root)(v:Value)(f:List HL)(rs:List Root)(w:Ϣ)(hd:E.Dev w)(hv:Slc w 89 5 v f.length (CQ E.V f))(hl:f.length=rs.length)(hr:∀i (g:i<f.length) (y:i<rs.length),RR E.toEnv w f[i] rs[i]/\(∀n l,rs[i]=.at n l->l.key=⟨#[]⟩))(a6:RR E.toEnv w h a)(az:∀n l,a=.at n l->l.key=⟨#[]⟩)(hc:AE a+qM2 AE rs<1000000)(hn:f.length<=1000)
  (hV:∀W,E.Dev W->W.heap[E.V]?=some (CR A N)) (bi:2<=N) (hN:N<=1000)
  (a2:∀W,E.Dev W->RR E.toEnv W h a->Ω 76 #[θ E.V h] W λe w'=>e=ϱ (ϊ (a.news:Int))/\Kp [] W w') (bm:a.news<=1000000):
  E.toEnv.C 112 #[θ E.V h,v] w λe w'=>((∃vf,e=ϱ (.tuple #[vf,ϊ (((ω [] a).length+a.news:Nat):Int)])/\a.news<=(Ar N (rs.foldl ω (ω [] a))).length/\Slc w' 3 1 vf (Ar N (rs.foldl ω (ω [] a))).length (ints (Ar N (rs.foldl ω (ω [] a)))))\/(e=Al (some 3)/\(Ar N (rs.foldl ω (ω [] a))).length<a.news))/\E.Dev w'/\Kp E.S w w':=by
 obtain⟨bs,cp,rfl⟩:=Df hv;let⟨ln,af⟩:=eX f.length;have HV:=zh hv;rw[<-af];have a9:=zh af;have HR:=zh hr;have F:=zh hd;have X:=zh (n2 a6 az);have ak:=zh a2;have al:Hid (∀W:World,Kp ((w.heap.size+1)::E.S) w W->Kp E.S w W):=λW h=>h.mono (λi d a1=>by rcases List.mem_cons.1 d with rfl | d;omega;exact d);clear hv af hr hd a6 az a2;rw[θ];go_enter func112,ntmps112;have bl:=@run_makeMap prog;go_wp2_with fail;let⟨W,hW,ab,bh,an,z,bo⟩:=FA w (ϲ (ϟ E.V h) 89) (.map #[] 0) (ϲ (ϟ E.V h) 89);have P:BS W (w.heap.size+1) 0 []:=by
  have g:=(BS.made (w.alloc (ϲ (ϟ E.V h) 89))).kp ((Kp.refl [] _).alloc (ϲ (ϟ E.V h) 89)) sM;rw[<-hW]at g;simpa using g
 rw[<-hW];clear hW bl;have G:=(Env.To.of0 F z).dev;have ah:=RR.kp X.1 z (Apt.nil _ _);refine Env.qP1 (w:=w) (Mj E hO (w.heap.size+1) 0 [] (.slice (some (ϰ (w.heap.size+1+1) 0)) 1 1) [h] [a] W G ⟨rfl,Or.inr ⟨w.heap.size+1+1,0,1,_,_,rfl,Nat.le_refl _,Nat.le_refl _,an,λj u hu=>by simpa [CQ,tcs] using hu⟩⟩ rfl (λi g y=>by have e:=(by simpa using g);subst e;exact⟨ah,X.2⟩) P (by simp[Au,AJ];omega) sM) (z.mono sM) ?_ (by intro p w' o;go_wp2;exact⟨rfl,.inl ⟨o.1,o.2.1,al _ o.2.2⟩⟩);rintro e w1 ⟨rfl,D,ao,H⟩;simp only[List.foldl_cons,List.foldl_nil,Au,AJ,Nat.zero_add,Nat.add_zero]at D;have ay:=GM E G P;have M:=H.heap ab (DL E G P ab dC);have a3:=RR.kp ah H ay;have a0:=D.len 3;have bk:=D.qY6;have t:=Y M;have:=U M;let⟨k1,ae⟩:=eX ((ω [] a).length);rw[<-ae]at a0 bk;let⟨nw,ag⟩:=eX a.news;have r:=zh (n2 ae ag);have ba:=zh D;have ai:=zh ao;have bg:Hid (Kp E.S w w1):=(z.mono sM).trans H (λi d a1=>by rcases List.mem_cons.1 d with rfl | d;omega;exact d);have bf:=zh M;have bb:=zh a3;clear D ao H M a3 ae ay ah G P z ab bh an;rw[<-ag]at bm;clear ag;go_wp2_with fail;refine(show Calls _ _ _ _ _ from ak w1 ai bb).mono ?_;rintro e w2 ⟨rfl,B⟩;rw[<-r.out.2];have au:=ba.out.kp B sM;have ap:=(Env.To.of0 ai B).dev;have aw:=B.hp bf.out;have L:=bg.out.tr B;have ax:Apt w E.S [89]:=λk hk c t fr e hm=>E.nin F e (by rw[List.mem_singleton.1 hm];decide) hk;have a7:=HV.out.qM3 L ax;have bd:Hid (∀i (g:i<f.length) (y:i<rs.length),RR E.toEnv w2 f[i] rs[i]/\(∀n l,rs[i]=.at n l->l.key=⟨#[]⟩)):=λi g y=>⟨RR.kp (HR i g y).1 L (E.apt w F),(HR i g y).2⟩;have V:=zh au;have S:=zh ap;have Z:=zh L;have am:=zh aw;have be:=zh a7;clear au ap aw L a7 B ax t a0;go_wp2_with fail;refine Env.qP1 (w:=w) (by rw[a9.out];exact Mj E hO (w.heap.size+1) (AE a) (ω [] a) (.slice bs f.length cp) f rs w2 S be hl bd V hc hn:E.toEnv.CM (w.heap.size+1) 170 #[.map (some (w.heap.size+1)),.slice bs ln cp] w2 _) (Z.mono (by simp +contextual)) ?_ (by intro p w' o;go_wp2;exact⟨rfl,.inl ⟨o.1,o.2.1,al _ o.2.2⟩⟩);rintro e w3 ⟨rfl,av,aa,I⟩;have O:=I.heap am (DL E S V am dC);have a4:=RR.kp (RR.kp X.1 Z (E.apt w F)) I (GM E S V);have ar:=Z.out.trans I (λi d a1=>by rcases List.mem_cons.1 d with rfl | d;omega;exact d);have t:=Y O;have bj:=U O;go_wp2_with fail;refine(Zm (w.heap.size+1) _ E.V A N _ w3 av (hV w3 aa) bi hN).mono ?_;rintro e w4 ⟨vf,rfl,R,C⟩;let⟨m,ad⟩:=eX (Ar N (rs.foldl ω (ω [] a)));rw[<-ad]at R;obtain⟨fb,fc,rfl⟩:=Df R;let⟨x,Q⟩:=eX m.length;have ac:=C.hp O;have t4:=Y ac;have:=U ac;have aq:=(Env.To.of0 aa C).dev;have a5:=RR.kp a4 C (Apt.nil _ _);have q:Hid (Slc w4 3 1 (.slice fb x fc) m.length (ints m)/\x=m.length/\m=Ar N (rs.foldl ω (ω [] a))):=⟨by rw[Q];exact R,Q,ad⟩;rw[<-Q];have aj:=zh aq;have a8:=zh (ar.tr C);have bc:=zh a5;clear t O av aa I a4 ar R C ac aq a5 ad Q bj;go_wp2_with fail;refine(show Calls _ _ _ _ _ from ak w4 aj bc).mono ?_;rintro e w5 ⟨rfl,K⟩;rw[<-r.out.2];have T:=hid (show Slc w5 3 1 (.slice fb x fc) m.length (ints m)/\E.Dev w5/\Kp E.S w w5 from⟨q.1.qM4 K,(Env.To.of0 aj K).dev,a8.tr K⟩);clear K t4;by_cases bn:(x:Int)<(nw:Int)
 .go_wp2;exact⟨rfl,rfl,.inr ⟨.inr ⟨rfl,by rw[<-q.out.2.2,<-q.out.2.1,<-r.out.2];omega⟩,T.2⟩⟩
 .go_wp2
  go_ret2
  refine .inr ⟨.inl ⟨.slice fb x fc,?_,?_,?_⟩,T.2⟩
  .rw[<-r.out.1,<-r.out.2,Int.natCast_add];rfl
  .rw[<-q.out.2.2,<-q.out.2.1,<-r.out.2];omega
  .rw[<-q.out.2.2];exact T.1
variable {κ:Kd}
def qA8{V A N C base:Nat}{l}{a:Int}{w}(c:Dk κ V A N C base l [] a w)(E)(g:∀(n b:Nat)(s:Int)(t),E.O n b s t->b<=1000000/\0<=s)(rt)(h)(fr)(v)(d:RR E w h rt)(o:OkR rt)(m:rt.news<=fr.length)(i:∀b∈fr,b<N)(k:fr.length<=10000)(f:Slc w 3 1 v fr.length (ints fr)):
  Ω 115 #[θ V h,v] w λe w'=>((∃b,w.heap.size<=b/\Fw κ V A N C b l a fr rt.news e w')\/(e=ϱ (.agg #[ϊ (Ao rt fr).1.b,.int .u64 (Ao rt fr).1.s])/\∃b,w.heap.size<=b/\Dk κ V A N C b (laidAll l (Ao rt fr).2) [] (nk a (Ao rt fr).2.length) w'))/\Kp [A,C] w w':=by
 cases rt with
 | none=>
  have j:h=⟨⟨#[]⟩,0,0,none⟩:=d;subst j;exact qH1 c fr v f
 | «at» n L=>exact qH0 c E.O g n h L fr v d o m i k f
def Fv(N:Nat)(l:ϣ)(d f rs:Int)(a nw:Root)(g:List Root)(i j:Nat)(e:ϣ)(c:ϥ):Prop:=
 (e=l/\(c=[]\/c=[(i,Ae (upN d) f rs)]))\/
 (e=Ap l i (Ae (upN d) f rs)/\∀x∈c,x.1∈Ar N ((g++[nw]).foldl ω (ω [] a)))\/
 (∃b,b=Ar N ((g++[nw]).foldl ω (ω [] a))/\a.news<=b.length/\e=laidAll (Ap l i (Ae (upN d) f rs)) (Ao a b).2/\(c=[]\/c=[(j,Ae (upN (upN d)) (Ao a b).1.b (Ao a b).1.s)]))
def QW(κ:Kd)(c:Ϣ)(St A N C:Nat)(s:Sto)(l:ϣ)(wr:Int)(a nw:Root)(P:List HL->List Root->Prop)(i j:Nat)(e:Ending)(w:Ϣ):Prop:=
 (∃p,e=.panicked (ioP p))/\∃hs rs b l1 ws1 k,(∃s1:Sto,w.heap[St]?=some (η 1 s1)/\s1.V=s.V/\s1.M=s.M/\s1.po=s.po/\s1.bg=s.bg/\s1.wr=s.wr)/\P hs rs/\Fv N l s.N s.rb s.rs a nw rs i j l1 ws1/\(k<=1\/(k<=a.news+2/\a.news<=(Ar N ((rs++[nw]).foldl ω (ω [] a))).length))/\Dk κ.up s.V A N C b l1 ws1 (nk wr k) w/\c.heap.size<=b/\ws1.length<=1000
def Tw{St A N C:Nat}{s}{l}{wr:Int}{w}(h)(rt nw)(P:List HL->List Root->Prop)(a1:2<=N)
  (ac:w.heap[St]?=some (η 1 s)) (q:Dq κ s.V A N C l wr w) (hr:RR (EF κ s.V A N C l wr).toEnv w h rt) (cl:∀n l,rt=.at n l->l.key=⟨#[]⟩) (hg:RGood rt) (cx:rt.cont.length<=1000000) (cn:rt.news<=1000000) (co:OkR rt)
  (bt:RR (EF κ s.V A N C l wr).toEnv w ⟨⟨#[]⟩,s.rb,s.rs,none⟩ nw) (ck:∀n l,nw=.at n l->l.key=⟨#[]⟩) (cd:0<=s.rb) (ce:s.rb<=1000) (cu:0<=s.rs)
  (bq:∀W:Ϣ,Sem.run prog (Op.equalIn 10000 89 (θ s.V h) (θ s.V ⟨⟨#[]⟩,s.rb,s.rs,none⟩)) W=.ok false W)
  (bw:∀W,Kp [] w W->Ω 113 #[ϖ St] W λe w'=>∃v f rs,e=ϱ v/\w'.ownsRow W.heap.size 89 5 v f.length (CQ s.V f)/\P f rs/\Kp [] W w')
  (hP:∀f rs,P f rs->f.length=rs.length/\f.length<=4/\(∀i (h1:i<f.length) (h2:i<rs.length),RR (EF κ s.V A N C l wr).toEnv w f[i] rs[i]/\(∀n l,rs[i]=.at n l->l.key=⟨#[]⟩))/\AE rt+qM2 AE (rs++[nw])<1000000/\(rt.news<=(Ar N ((rs++[nw]).foldl ω (ω [] rt))).length->0<=(Ao rt (Ar N ((rs++[nw]).foldl ω (ω [] rt)))).1.b/\(Ao rt (Ar N ((rs++[nw]).foldl ω (ω [] rt)))).1.b<=1000/\0<=(Ao rt (Ar N ((rs++[nw]).foldl ω (ω [] rt)))).1.s))
  (i j:Nat) (hi:upN s.N % 2=i) (hj:upN (upN s.N) % 2=j):
  Ω 70 #[ϖ St,θ s.V h] w λe w'=>(QW κ w St A N C s l wr rt nw P i j e w'\/(e=Al (some 3)/\∃f rs,P f rs/\(Ar N ((rs++[nw]).foldl ω (ω [] rt))).length<rt.news/\w'.heap[St]?=some (η 1 s)/\Dq κ s.V A N C l wr w')\/(e=ϱ (.tuple #[])/\∃f rs o,P f rs/\o=Ar N ((rs++[nw]).foldl ω (ω [] rt))/\rt.news<=o.length/\
   w'.heap[St]?=some (η 1 (s.cmt (Ao rt o).1.b (Ao rt o).1.s (((ω [] rt).length+rt.news:Nat):Int)))/\
   Dq κ s.V A N C (Ap (laidAll (Ap l i (Ae (upN s.N) s.rb s.rs)) (Ao rt o).2) j (Ae (upN (upN s.N)) (Ao rt o).1.b (Ao rt o).1.s)) (nx (nk (nx wr) (Ao rt o).2.length)) w'))/\Kp [St,A,C] w w':=by
 have:=U ac;have HS:=zh ac;have HD:=hid q;let⟨base,q,_⟩:=q;have ae:=hid q.N1;have b4:=zh bt;have be:=zh (n2 hi hj);have HP:=Hid.mk' hP;have a5:St≠A:=by let⟨v,c,h1,_⟩:=q.hA;exact CL ac h1 dC
 have ca:=CL ac q.hC dC;have bg:Hid (∀W,Kp [A] w W->Ϙ W St (η 1 s)):=λW hK=>hK.heap ac (sU a5);clear ac q bt hi hj hP;rw[θ,show θ s.V ⟨⟨#[]⟩,s.rb,s.rs,none⟩=.agg #[ϖ s.V,.string ⟨#[]⟩,ϊ s.rb,.int .u64 s.rs,.pointer none] from rfl]at bq;rw[θ];go_enter func70,ntmps70;go_wp2_with fail;let⟨w0,b2,bn,au,c5⟩:=AZ w (ϲ (ϟ s.V h) 89);rw[<-b2];clear b2;apply mR (Gk St 1 s w0 (au.hp HS));rintro w1 ak;rw[show θ s.V ⟨⟨#[]⟩,s.rb,s.rs,none⟩=.agg #[ϖ s.V,.string ⟨#[]⟩,ϊ s.rb,.int .u64 s.rs,.pointer none] from rfl];have an:=ak.hp bn;have cb:=U an;have t:=Y an;go_wp2_with fail;rename_i K0 bi;let⟨u,b3,a2,av,bx⟩:=AZ w1 (ϲ #[ϖ s.V,.string ⟨#[]⟩,ϊ s.rb,.int .u64 s.rs,.pointer none] 89);rw[<-b3];clear b3 t;let⟨cz,c0,c3⟩:=(hid (And.intro q.sA (And.intro (U q.hC) (U q.hV)))).out;have al:=((au.tr ak).tr av).drew;have:=ak.size;let⟨z,bl⟩:=eX w1.heap.size;rw[<-bl]at a2 bx |-;have E:Ϙ u.drew w.heap.size (ϲ (ϟ s.V h) 89)/\Ϙ u.drew z (ϲ #[ϖ s.V,.string ⟨#[]⟩,ϊ s.rb,.int .u64 s.rs,.pointer none] 89):=⟨av.hp an,a2⟩;have c2:w.heap.size<z:=oM
 clear a2 an bn au ak av cb bq bl;obtain⟨T,b1⟩:∃T:Int,T=(((ω [] rt).length+rt.news:Nat):Int):=⟨_,rfl⟩;have bh:=zh b1;clear b1;refine Il (α:=Value->Nat->Nat->Nat->Nat->Value->Act) (R:=λA0=>∀v n d g c r f rs W,Hid (P f rs/\Slc W 3 1 r (Ar N ((rs++[nw]).foldl ω (ω [] rt))).length (ints (Ar N ((rs++[nw]).foldl ω (ω [] rt))))/\Dq κ s.V A N C l wr W/\Kp [A] w W/\Ϙ W w.heap.size (ϲ (ϟ s.V h) 89)/\rt.news<=(Ar N ((rs++[nw]).foldl ω (ω [] rt))).length)->K0 (A0 v n d g c r) W) ?_;apply Exists.intro;apply And.intro
 rotate_left
 .intro HREST;refine wp_region_held_drew (S:=λW=>Ϙ W w.heap.size (ϲ (ϟ s.V h) 89)/\Ϙ W z (ϲ #[ϖ s.V,.string ⟨#[]⟩,ϊ s.rb,.int .u64 s.rs,.pointer none] 89)) kR E (λ_=>?_);refine zV 0 (.agg (ϟ s.V h)) rfl (λW hS=>by have a:=Y hS.1;clear hS;go_simp) E ?_;refine zP 1 St 0 E ?_;apply zV 3 (.agg #[ϖ s.V,.string ⟨#[]⟩,ϊ s.rb,.int .u64 s.rs,.pointer none]) rfl (λW hS=>by have a:=Y hS.2;clear hS;go_simp) E;refine zr 2 4 (λK hK=>?_) λK hK=>?_
  focus
   go_simp;refine(show Calls _ _ _ _ _ from bw u.drew al).mono ?_;rintro e y ⟨v,f,rs,rfl,bc,D,G⟩;have ab:=And.intro (G.hp E.1) (G.hp E.2);apply zk hK ab
   have cp:=Ct bc (show z+1<=u.drew.heap.size by show _<=u.heap.size;omega);have am:=al.tr G;refine zq 4 λK hK=>?_;go_simp;let⟨w4,aj,V,B,cv⟩:=AZ y (ϲ #[ϖ s.V,.string ⟨#[]⟩,ϊ s.rb,.int .u64 s.rs,.pointer none] 89);rw[<-aj];clear aj;let⟨d,q⟩:=eX ((y).heap.size)
   try rw[<-q]at V |-
   clear q;have I:=And.intro (B.hp ab.1) (B.hp ab.2);refine zk hK I ?_
   have ao:=BT cp B (Apt.nil _ _);have ay:=am.tr B
  rotate_left
  focus
   go_simp;obtain⟨y,aj,V,B,cv⟩:∃y,y=(u.alloc (ϲ #[ϖ s.V,.string ⟨#[]⟩,ϊ s.rb,.int .u64 s.rs,.pointer none] 89)).drew/\y.heap[z+1]?=some (ϲ #[ϖ s.V,.string ⟨#[]⟩,ϊ s.rb,.int .u64 s.rs,.pointer none] 89)/\Kp [] u.drew y/\y.heap.size=u.heap.size+1:=⟨_,rfl,by rw[<-bx];exact μ u _,(by exact(Kp.refl [] u.drew).alloc _),sM⟩;rw[<-aj];clear aj;let⟨d,q⟩:=eX (z+1);rw[<-q]at V |-;clear q;have I:=And.intro (B.hp E.1) (B.hp E.2);refine zk hK I ?_
   have am:=al.tr B;refine zq 2 λK hK=>?_;have bm:=I;go_simp;apply(show Calls _ _ _ _ _ from bw y am).mono;rintro e w4 ⟨v,f,rs,rfl,bc,D,G⟩;have ab:=And.intro (G.hp bm.1) (G.hp bm.2);apply zk hK ab
   have I:=ab;have V:=G.hp V;have ao:=Ct bc (show z+1<=y.heap.size by have:=B.size;have e:u.drew.heap.size=u.heap.size:=rfl;omega);have ay:=am.tr G
  all_goals
   refine zq 5 λK hK=>?_;let⟨a8,cm,a9,bs,_⟩:=HP.out f rs D;let⟨n,hn⟩:=eX f.length;rw[<-hn]at ao;apply Ip rfl rfl (.agg #[.pointer none,.string ⟨#[]⟩,ϊ 0,.int .u64 0,.pointer none]) 5 48 underlying175 NE rfl dC (z+1) v n _ (by simp[Act.eval]) ao d 0 1 1 #[ϖ s.V,.string ⟨#[]⟩,ϊ s.rb,.int .u64 s.rs,.pointer none] 89 (0,0) (by simp[Act.eval]) V sM (by simp[Ad,Value.oneCell']) oM oM (oX ay.size (U I.2));intro v5 w5 bu cj _;obtain⟨g,c,rfl⟩:=CN (n:=n) bu;have ax:Kp v.ownBlock.toList w4 w5:=(Kp.refl _ _).grown cj (λk F=>Or.inl (by simp[F]));have ba:∀k,k<z+1->k∉v.ownBlock.toList:=λk F hm=>by
    have h1:=KA ao k (sU hm);omega
   have a3:=And.intro (ax.heap I.1 (ba _ oM)) (ax.heap I.2 (ba _ oM));refine zk hK a3 ?_
   have Z:=ay.trans ax (λk F c4=>absurd F (ba k oM));have cf:Dq κ s.V A N C l wr w5:=HD.out.qM4 Z;have cw:Slc w5 89 5 (.slice (some (ϰ g 0)) (f++[Fh s]).length c) (f++[Fh s]).length (CQ s.V (f++[Fh s])):=by
    have h:=Cm bu;rw[List.length_append,<-hn,Qg];exact h
   refine zq 6 λK hK=>?_;have bf:Hid ((EF κ s.V A N C l wr).toEnv.C 112 #[θ s.V h,.slice (some (ϰ g 0)) (n+1) c] w5 λe w'=>((∃r,e=ϱ (.tuple #[r,ϊ T])/\rt.news<=(Ar N ((rs++[nw]).foldl ω (ω [] rt))).length/\Slc w' 3 1 r (Ar N ((rs++[nw]).foldl ω (ω [] rt))).length (ints (Ar N ((rs++[nw]).foldl ω (ω [] rt)))))\/(e=Al (some 3)/\(Ar N ((rs++[nw]).foldl ω (ω [] rt))).length<rt.news))/\Dq κ s.V A N C l wr w'/\Kp [A] w5 w'):=by
    have h:=qA9 (EF κ s.V A N C l wr) (λn b s t h=>by have:=Laid.at h;have:=ae.out;omega) A N h rt (.slice (some (ϰ g 0)) (f++[Fh s]).length c) (f++[Fh s]) (rs++[nw]) w5 cf cw (by simp[a8]) (λi h1 h2=>by
     by_cases hi:i<f.length
     .rw[List.getElem_append_left hi,List.getElem_append_left oM];exact⟨RR.kp (a9 i hi oM).1 Z (Apt.nil _ _),(a9 i hi oM).2⟩
     .have e:i=f.length:=by simp at h1;omega
      subst e;rw[List.getElem_append_right oM,List.getElem_append_right oM];simp[a8,Nat.sub_self,zF];exact⟨RR.kp (h:=Fh s) b4 Z (Apt.nil _ _),ck⟩) (RR.kp hr Z (Apt.nil _ _)) cl bs sO (λW hW=>hW.hV) a1 ae (λW hW hr=>PE _ rt h W hr hg cx) cn
    rw[List.length_append,<-hn,<-bh.out]at h;exact h
   clear hn a8 cm a9 bs;rw[θ]at bf;go_simp;refine(show Calls _ _ _ _ _ from bf).mono ?_;rintro e w6 (⟨⟨p,rfl⟩,ad,af⟩|⟨cq,ad,af⟩)
   .let⟨b6,ad,_⟩:=ad;have O:Kp [A] w w6:=(Z.mono sM).trans af (λ_ h _=>h);go_wp2;exact⟨rfl,.inl ⟨⟨p,rfl⟩,f,rs,w6.heap.size,l,[],0,⟨s,bg _ O,rfl,rfl,rfl,rfl,rfl⟩,D,.inl ⟨rfl,.inl rfl⟩,.inl oM,ad.qT7,O.size,sM⟩,O.mono (by simp +contextual)⟩
   have O:Kp [A] w w6:=(Z.mono sM).tr af;rcases cq with⟨r,rfl,ch,ap⟩|⟨rfl,cg⟩
   rotate_left
   .clear hK;unfold Al;go_wp2;exact⟨rfl,.inr (.inl ⟨rfl,f,rs,D,cg,bg _ O,ad⟩),O.mono (by simp +contextual)⟩
   have Q:=And.intro (af.ho a3.1) (af.ho a3.2);refine hK.out _ _ Q (λ_=>?_)
   try simp[zZ]
   apply zU 7 (.tuple #[r,ϊ T]) Q;refine zU 8 r Q ?_;refine zU 9 (ϊ T) Q ?_;apply zU 10 r Q;apply zU 11 (ϊ T) Q;refine zd ?_;show K0 _ w6;exact HREST v n d g c r f rs w6 (Hid.mk' ⟨D,ap,ad,O,Q.1,ch⟩)
 rintro v n d g c r f rs W bd;refine bi _ _ ?_;clear bi K0 E al;let⟨D,ap,⟨base,hdW,_⟩,hKW,hTW,q1⟩:=bd.out;let⟨_,_,_,_,hq⟩:=HP.out f rs D;let⟨q2,q3,q4⟩:=hq q1;clear hq;let⟨o,a7⟩:=eX (Ar N ((rs++[nw]).foldl ω (ω [] rt)));have br:=EU (N:=N) (ks:=(rs++[nw]).foldl ω (ω [] rt));have ci:=Nq N ((rs++[nw]).foldl ω (ω [] rt));rw[<-a7]at ap q1 q2 q3 q4 br ci;obtain⟨X,ws,hX⟩:∃X ws,(X,ws)=Ao rt o:=⟨_,_,rfl⟩;rw[<-hX]at q2 q3 q4;simp only at q2 q3 q4;have aa:=hKW.heap HS (sU a5);have bz:=hKW.size;have cc:=hTW;have m:=zh (n3 D a7 hX);have c1:=U aa;have y4:=ϻ aa 4;have y5:=ϻ aa 5;have b7:=zh hTW;clear D hTW cc a7 hX bd;go_wp2_with fail;apply(Ov aa hdW.qT7 s.rb s.rs a1 cd ce cu i be.1).mono;rintro e w7 ⟨cr,ag⟩;have ah:Kp [St,A,C] w w7:=(hKW.mono sM).tr ag;rcases cr with⟨⟨⟨_,p,rfl⟩,M⟩,ai⟩|⟨rfl,ai,M⟩
 .go_wp2;refine⟨rfl,.inl ⟨⟨p,rfl⟩,f,rs,W.heap.size,l,?_⟩,ah⟩;rcases M with M|M
  .exact⟨[],0,⟨s,ai,rfl,rfl,rfl,rfl,rfl⟩,m.1,.inl ⟨rfl,.inl rfl⟩,.inl oM,M,bz,sM⟩
  .exact⟨_,1,⟨s,ai,rfl,rfl,rfl,rfl,rfl⟩,m.1,.inl ⟨rfl,.inr rfl⟩,.inl oM,M,bz,sM⟩
 have a6:=ag.ho b7.out;have:=U a6;have t:=Y a6;have b0:=ap.qM3 ag (λk F c ty o e hm=>by
  rw[List.mem_singleton.1 hm]at e;simp[List.mem_cons,List.not_mem_nil,or_false]at F;rcases F with rfl|rfl|rfl
  .rw[aa]at e;simp[η]at e
  .let⟨v',c',h',_⟩:=hdW.hA;rw[h']at e;simp[AF]at e
  .rw[hdW.hC]at e;simp at e)
 have bo:=(Apt.one aa dC).cons (((EF κ s.V A N C l wr).apt W hdW.q).cons (Apt.one hdW.hC dC));have bv:=RR.kp (RR.kp hr hKW ((EF κ s.V A N C l wr).apt w HD)) ag bo;have b5:=zh ai;have ar:Hid (Ω 115 #[θ s.V h,r] w7 λe w'=>((∃b,w7.heap.size<=b/\Fw κ s.V A N C b (Ap l i (Ae (upN s.N) s.rb s.rs)) (nx wr) o rt.news e w')\/(e=ϱ (.agg #[ϊ X.b,.int .u64 X.s])/\∃b,w7.heap.size<=b/\Dk κ s.V A N C b (laidAll (Ap l i (Ae (upN s.N) s.rb s.rs)) ws) [] (nk (nx wr) ws.length) w'))/\Kp [A,C] w7 w'):=by
  have h:=qA8 M (EF κ s.V A N C l wr).toEnv (λn b s t h=>by have:=Laid.at h;have:=ae.out;omega) rt h o r bv co q1 (λb hb=>(br b hb).2.1) (oW ae.out) b0;rw[<-m.out.2.2]at h;exact h
 have b9:Hid (ws.length=rt.news):=by
  have e:=m.out.2.2;show ws.length=rt.news
  cases rt with
  | none=>simp[Ao,Prod.mk.injEq]at e;rw[e.2];rfl
  | «at» n L=>simp[Ao,Prod.mk.injEq]at e;rw[e.2];exact Fd n L o
 clear ai M ag b0 bv hdW hKW bo y4 y5;rw[θ]at ar;go_wp2_with fail;apply(show Calls _ _ _ _ _ from ar).mono;rintro e w8 ⟨cs,aw⟩;have a4:=aw.heap b5 (by simp[a5,ca]);have az:=ah.trans aw (by simp +contextual);have bb:∀(c:Int)(k:Nat),nk (nx c) k=nk c (k+1):=λc k=>by induction k with | zero=>rfl | succ k ih=>simp[nk]at ih |-;rw[ih]
 rcases cs with⟨b8,hb8,⟨_,p,rfl⟩,ws8,hd8,hx8,hl8⟩|⟨rfl,b8,hb8,hd8⟩
 .go_wp2;exact⟨rfl,.inl ⟨⟨p,rfl⟩,f,rs,b8,_,ws8,ws8.length+1,⟨_,a4,rfl,rfl,rfl,rfl,rfl⟩,m.1,.inr (.inl ⟨rfl,by rw[<-m.out.2.1];exact hx8⟩),.inr ⟨oM,by rw[<-m.out.2.1];exact q1⟩,by rw[<-bb];exact hd8,oW ah.size,oW ae.out⟩,az⟩
 clear t a6 ar;go_wp2_with fail;apply(Ov (s:=s.led s.rb s.rs) a4 hd8 X.b X.s a1 q2 q3 q4 j be.2).mono;rintro e w9 ⟨ct,bj⟩;have a0:=az.tr bj;rcases ct with⟨⟨⟨_,p,rfl⟩,x⟩,H⟩|⟨rfl,H,x⟩
 .go_wp2;have bp:∀aq,(aq=[]\/aq=[(j,Ae (upN (upN s.N)) X.b X.s)])->Fv N l s.N s.rb s.rs rt nw rs i j (laidAll (Ap l i (Ae (upN s.N) s.rb s.rs)) ws) aq:=λaq h=>.inr (.inr ⟨o,m.2.1,q1,by rw[<-m.out.2.2],by rw[<-m.out.2.2];exact h⟩);have:=b9.out;refine⟨rfl,.inl ⟨⟨p,rfl⟩,f,rs,b8,laidAll (Ap l i (Ae (upN s.N) s.rb s.rs)) ws,?_⟩,a0⟩;rcases x with x|x
  .rw[bb]at x;exact⟨[],_,⟨_,H,rfl,rfl,rfl,rfl,rfl⟩,m.1,bp _ (.inl rfl),.inr ⟨oM,by rw[<-m.out.2.1];exact q1⟩,x,oW ah.size,sM⟩
  .rw[bb]at x;exact⟨_,ws.length+1+1,⟨_,H,rfl,rfl,rfl,rfl,rfl⟩,m.1,bp _ (.inr rfl),.inr ⟨oM,by rw[<-m.out.2.1];exact q1⟩,x,oW ah.size,sM⟩
 have HE:Hid (Ϙ w9 St (η 1 ((s.led s.rb s.rs).led X.b X.s))/\Dk κ s.V A N C b8 (Ap (laidAll (Ap l i (Ae (upN s.N) s.rb s.rs)) ws) j (Ae (upN (upN s.N)) X.b X.s)) [] (nx (nk (nx wr) ws.length)) w9/\Kp [St,A,C] w w9):=⟨H,x,a0⟩;have:=U H;have y6:=Y H 6;simp[η,Sto.led,zG,zH,zI]at y6;have cy:=ρ H 6;clear H x bj a4 hd8 aw az a0;go_wp2
 go_end0
 let⟨e1,e2,e3⟩:=HE.out;have bk:Kp [St] w9 (w9.setCell (ϰ St 6) (ϊ T)):=(Kp.refl _ _).sc _;refine⟨.inr (.inr ⟨rfl,f,rs,o,m.1,m.2.1,q1,?_,?_⟩),e3.tr bk⟩
 .rw[<-m.out.2.2,<-bh.out];exact ξ e1 6 _
 .rw[<-m.out.2.2];exact(e2.qM3 bk (λk F c t o e=>by rw[List.mem_singleton.1 F,e1]at e;cases e;decide)).q
open Go.Maps (Keyed)
def Tv(a x n V:Nat)(t)(s)(D)(w)(c:w.heap[a]?=some (ϲ #[ϖ x] 32))(b:w.heap[x]?=some (Ac t))(g:w.heap[t.St]?=some (η 1 s))(C:RM w s.V s.M n D)(z:0<=t.nr)(A:t.nr<=1000000000)(k:s.M≠t.St)(r:x≠t.St)(q:x≠s.M)(m:a≠s.M)(O:s.M<w.heap.size)(G:t.on=some (ϰ V 0))(I:t.wrt=false):
  Ω 68 #[ϖ a] w λe w'=>e=Al none/\w'.heap[x]?=some (Ac t.ended)/\w'.heap[t.St]?=some (η 1 (s.left t.nr))/\RM w' s.V s.M n (D.del (χ t.nr))/\Kp [t.St,x,s.M] w w':=by
 have:=U b;have:=U c;have:=U g;have p:a≠x:=HU c b dC;have o:a≠t.St:=HU c g dC;have:=ϻ c 0;have M:=ϻ b 4;have:=ϻ b 5;have:=ϻ b 6;have:=ϻ b 7;have:=ϻ b 8;rw[G]at M;have y:Hid (s.M≠t.St/\x≠t.St/\x≠s.M/\a≠s.M/\a≠x/\a≠t.St):=⟨k,r,q,m,p,o⟩;clear k r q m p o;go_enter func68,ntmps68;go_wp2_with fail;let⟨L,H,N,f,P⟩:=alB w (ϲ (ϟ V t.h) 89);rw[<-H];let⟨K,n2,n3,n4,n5,n6⟩:=y.out;refine mR (ER x n t s D L (f.hp b) (f.hp g) (C.kp f sM) z A K n2 n3) ?_;rintro d ⟨i,F,E,B⟩;have j:Kp [t.St,x,s.M] w d:=(f.mono sM).trans B (λ_ h _=>h);have l:=j.heap c (by simp;exact⟨n6,n5,n4⟩);have:=U l;have:=U i;have:=ϻ l 0;have u:=Y i 2;simp[Ac,Tx.ended,zG,zH,zI]at u;rw[I]at u;have v:Hid (Ϙ d x (Ac t.ended)/\Ϙ d t.St (η 1 (s.left t.nr))/\RM d s.V s.M n (D.del (χ t.nr))/\Kp [t.St,x,s.M] w d):=⟨i,F,E,j⟩;go_wp2
 go_end0
 exact⟨rfl,v⟩
def qG1(x n V:Nat)(t)(s)(D)(w)(g:w.heap[x]?=some (Ac t))(B:t.over=false)(j:w.heap[t.St]?=some (η 0 s))(E:s.po=false)(y:RM w s.V s.M n D)(q:0<=t.nr)(r:t.nr<=1000000000)(f:s.M≠t.St)(b:x≠t.St)(I:x≠s.M)(L:s.M<w.heap.size)(C:t.on=some (ϰ V 0))(H:t.wrt=false):
  Ω 31 #[ϖ x] w λe w'=>e=ϱ .nilIface/\w'.heap[x]?=some (Ac t.ended)/\w'.heap[t.St]?=some (η 0 (s.left t.nr))/\RM w' s.V s.M n (D.del (χ t.nr))/\Kp [t.St,x,s.M] w w':=by
 have:=zM;have:=U g;have:=U j;go_enter func31,ntmps31;go_wp2_with fail;obtain⟨K,G,u,a,M⟩:=alB w (ϲ #[ϖ x] 32);rw[<-G];refine(Hh none dC x t.St 68 t s (s.left t.nr) #[] #[ϖ w.heap.size] _ [x,s.M] (λW c=>Ϙ c x (Ac t.ended)/\RM c s.V s.M n (D.del (χ t.nr))) K (a.hp g) B rfl (a.hp j) E b (MD _) (by intro i hi;simp at hi;omega) ?_).mono ?_
 .intro W hK z;have d:=(a.mono sM).trans hK (λ_ h _=>h);have A:w.heap.size≠t.St:=oM
  refine mR (Tv w.heap.size x n V t s D W (hK.heap u (by simp;exact A)) (d.heap g (by simp;exact b)) z (y.kp d (by simp;exact f)) q r f b I oM (oW d.size) C H) ?_;rintro c ⟨l,m,o,p⟩;exact⟨rfl,⟨l,o⟩,p,m⟩
 rintro e N ⟨v,rfl,hv,hSt2,hK2,W,c,Bb,⟨ha,hb⟩,hKW,hB1,hB2,hB3,hKB⟩;have F:v=.nilIface:=hv;subst F;have k:=zh (n4 (hKB.heap ha (by simp;exact⟨b,oM⟩)) hSt2 (hb.kp hKB (by simp;exact⟨f,oM⟩)) ((a.mono sM).trans hK2 (λ_ h _=>h)));go_wp2;go_ret;exact⟨rfl,k⟩
def qG0(x:Nat)(t)(s)(w)(c:w.heap[x]?=some (Ac t))(j:s.po=true\/t.over=true)(g:w.heap[t.St]?=some (η 0 s))(m:x≠t.St):
  Ω 31 #[ϖ x] w λe w'=>∃v,e=ϱ v/\ErrV w' v (some (goK s))/\w'.heap[t.St]?=some (η 0 s)/\Kp [t.St] w w':=by
 have:=zM;have:=U c;go_enter func31,ntmps31;go_wp2_with fail;let⟨n,l,o,a,p⟩:=AZ w (ϲ #[ϖ x] 32);rw[<-l];refine(Eu x t.St 68 t s #[] #[ϖ w.heap.size] _ n (a.hp c) j rfl (a.hp g) m).mono ?_;rintro e b ⟨v,rfl,k,i,f⟩;have d:=hid (show ErrV b v (some (goK s))/\Ϙ b t.St (η 0 s)/\Kp [t.St] w b from⟨k,i,(a.mono sM).trans f (λ_ h _=>h)⟩);go_wp2;go_ret;exact⟨v,rfl,d⟩
end Go.Proofs.YtdohpenfkdckiaaGreatDoor
