import Derived.Test.YtdohpenfkdckiaaGreatDoorJ24
import Derived.Test.YtdohpenfkdckiaaGreatDoorJ33
set_option linter.all false
set_option maxRecDepth 100000
set_option maxHeartbeats 20000000
namespace Go.Proofs.YtdohpenfkdckiaaGreatDoor
open Go.Proofs.Tryz
open Go.RowKit
def qT8:ByteArray:=⟨#[255,255,255,255,255,255,255,255,255]⟩
theorem xJ0:∀ (a) (n:Nat),a.length<n->Op.bytesLess a (List.replicate n 255)=true
 | [],n,h=>by
  obtain⟨m,rfl⟩:∃ m,n=m+1:=⟨n-1,by simp at h;omega⟩;rfl
 | x::a,n,h=>by
  obtain⟨m,rfl⟩:∃ m,n=m+1:=⟨n-1,by simp at h;omega⟩;have c:=xJ0 a m (by simp at h;omega);rw[List.replicate_succ,Op.bytesLess,c];by_cases e:x=255
  .simp[e]
  .have d:x.toNat≠255:=λh=>e (UInt8.toNat_inj.1 h);have f:=x.toNat_lt;have b:x<255:=UInt8.lt_iff_toNat_lt.2 (by show x.toNat<255;omega);simp[b]
theorem kE5{ps}(h:∀ p∈ps,qC3 p)(c:ps.length<=1048576):qG8 ps ⟨#[]⟩ qT8 1048576=ps:=by
 unfold qG8;have e:ps.filter (inR ⟨#[]⟩ qT8)=ps:=List.filter_eq_self.2 λp d=>by
  have f:=(h p d).2.1;unfold inR;rw[qN2];have a:=xJ0 p.k.toList 9 (by rw[ByteArray.toList_eq,Array.length_toList];have e:p.k.data.size=p.k.size:=rfl;omega);have b:qT8.toList=List.replicate 9 255:=by rw[ByteArray.toList_eq];rfl
  simp only[kl,b,a];rfl
 rw[e];exact tL c
def zK8(B db St A C n kk:Nat)(xk:List Value)(s:Sto)(l:List UInt8)(wr:Int)(nw:Root)(k:KF)(w w':World):Prop:=Kp [B,St,s.M,A] w w'∧∃ s' D' v gm gw cw',Sh w' db St A C n 1 s' D' l wr nw∧Maps.size D'=0∧(∀ m,Maps.has D' (ι m)=false)∧s'=s.read.left (s.bg+1)∧SPR w' v nw.cont∧w'.heap[B]?=some (kob { k.only gm gw kk cw' with c:=v,com:=0,x:=some ⟨db,0,none⟩ })∧w'.ownsRow w.heap.size 126 1 (.slice (some ⟨gm,0,none⟩) 1 1) 1 [v]∧RowM w' w.heap.size (.slice (some ⟨gw,0,none⟩) (kk+1) cw') (kk+1) (xk++[v])
theorem jL4(B O St A C n:Nat)(s)(l)(wr:Int)(nw)(k:KF)(w)(L:w.heap[B]?=some (kob k))(dc:k.A=A)(G:Sh w O St A C n 0 s emp l wr nw)(bb:s.bg=0)
  (base m o a p:Nat) (pm pw) (y:List (List KV)) (S:List Value) (ci:k.may=.slice pm m o) (cu:k.were=.slice pw a p) (hm:RowC w base (.slice pm m o) y) (hk:RowM w base (.slice pw a p) a S) (ce:m=y.length) (cf:m<=5000000000) (ch:∀ q∈y,q.length<=100000) (cd:a<=100000) (ck:k.wild=true\/nw.cont∈y):
  Calls prog 131 #[.pointer (some ⟨B,0,none⟩),.pointer (some ⟨O,0,none⟩)] w λe w'=>e=.returned (.bool true)/\zK8 B O St A C n a S s l wr nw k w w':=by
 have dp:=ζ L;obtain⟨cA,hA⟩:=G.hA;have cj:=(zS9 G.good).2;have cl:=(qW5 G.lie G.good G.N4).2;have c4:=hid (show qG8 nw.cont ⟨#[]⟩ qT8 1048576=nw.cont from kE5 cj oM);have az:=hid cl;have HB:=hid L;have f:=hid (show k.may=.slice pm m o/\k.were=.slice pw a p/\RowC w base (.slice pm m o) y/\RowM w base (.slice pw a p) a S/\m=y.length/\a<=100000/\m<=5000000000/\(∀ q∈y,q.length<=100000) from⟨ci,cu,hm,hk,ce,cd,cf,ch⟩);have bv:=hid (zS9 G.good);have HA:=hid hA;subst dc;have b0:=ξ L 0;simp only[kob,zG,zH,zI] at b0;have bk:=hid (show Ω 29 #[ϖ O,.bool false] w _ from G.beginR dC dC (by rw[bb];decide));have Y:=hid (show B ∉ [St,s.M]/\B≠k.A from⟨by simp only[mC,lN,or_false,not_or];exact⟨qA1 L G.hSt dC,qD3 L G.hM⟩,qA1 L hA dC⟩);have c5:=hid ck;have bt:=hid G;have HZ:=hid bb;clear L hm hk ci cu cd hA cj cl ck G bb ce cf ch;go_enter func131,ntmps131;go_wp2_with fail;refine (qL8 k.A n C _ cA wr w HA).mono ?_;rintro e w ⟨rfl,rfl⟩;go_wp2_with fail;refine (show Calls _ _ _ _ _ from bk).mono ?_;rintro e w1 ⟨x,t,D1,rfl,cx,co,cp,df,dg,dh,a3,bz,a9,a6⟩;have c1:=hid a3;have cy:=hid (a3.heap HB Y.1);have F:=hid (show t.St=St/\t.nr=s.bg+1/\w.heap.size<=x/\D1=emp.put (ι (s.bg+1)) (qG2 ⟨⟨#[]⟩,s.rb,s.rs,none⟩) from⟨co,cp,cx,bz⟩);have ay:=hid (show Ω 71 #[ϖ x,.string ⟨#[]⟩,.string qT8,ϊ 1048576] w1 _ from xP9 a9.E x k.A n t s.read nw ⟨#[]⟩ qT8 1048576 w1 a6 dC dC);have bo:=hid a6;rw[c4.out,qT8] at ay;clear cx co cp df dg dh a3 bz a6 b0 bk
 go_wp2_with (go_at_call 24;refine (zU2 _).mono ?_;rintro e w1 ⟨rfl,rfl⟩)
 go_wp2_with (go_at_call 127;refine (qK1 _ _).mono ?_;rintro e w1 ⟨rfl,rfl⟩)
 refine (show Calls _ _ _ _ _ from ay).mono ?_;rintro e w2 ⟨v,rfl,hv,a2⟩;obtain⟨ao,a7⟩:=a9.again bo F.1 a2;have ai:Kp [t.St,k.A] w1 w2:=a2.kp;rw[F.out.1] at ai;have bi:=hid (ai.heap cy (by simp only[mC,lN,or_false,not_or];exact⟨λe=>Y.1 (by simp[e]),Y.2⟩));have c2:=hid ai;obtain⟨vb,dj,rfl⟩:=hv.form;obtain⟨vn,bf⟩:=eX nw.cont.length;have c6:=hid bf;have bs:=hid hv;have bh:=hid (show Ω 36 #[ϖ x] w2 _ from ao.abort a7 F.1 (by rw[F.out.2.1,HZ.out];decide) (by rw[F.out.2.1,HZ.out];decide));have bw:=hid a7.hx;rw[<-bf];clear a2 ai bf a7 ay bo
 go_wp2_with (go_at_call 24;refine (zU2 _).mono ?_;rintro e w2 ⟨rfl,rfl⟩)
 go_wp2_with (go_at_call 127;refine (qK1 _ _).mono ?_;rintro e w2 ⟨rfl,rfl⟩)
 refine (show Calls _ _ _ _ _ from bh).mono ?_;rintro e Q ⟨rfl,di,ca,aj⟩;have an:s.read.M=s.M:=rfl;have bx:=qA1 bi bw dC;have T:=hid (aj.heap bi (by rw[an];simp only[mC,lN,or_false,not_or];exact⟨λe=>Y.1 (by simp[e]),bx,λe=>Y.1 (by simp[e])⟩));have af:=hid (show Kp [St,s.M,k.A] w Q from ((c1.mono (by simp +contextual)).trans c2 (by simp +contextual)).trans aj (by
  intro i hi ds;have:=F.out.2.2.1;rw[an] at hi;simp only[mC,lN,or_false] at hi |-;omega))
 have bd:=bs.out.keep aj (λq d c u e=>by
  rw[an] at d;simp only[mC,lN,or_false] at d;rcases d with rfl|rfl|rfl
  .rw[ao.hSt] at e;cases e
  .rw[bw.out] at e;cases e
  .exact absurd rfl (qD3 e ao.hM))
 rw[<-c6.out] at bd;have M:∀ q c t u,w.heap[q]?=some (.cells c t u)->q∈[St,s.M,k.A]->t≠126/\t≠284:=λq c t u e d=>by
  simp only[mC,lN,or_false] at d;rcases d with rfl|rfl|rfl
  .rw[bt.out.hSt] at e;cases e;decide
  .exact absurd rfl (qD3 e bt.hM)
  .rw[HA.out] at e;cases e;decide
 have bp:=hid (show RowC Q base (.slice pm m o) y/\RowM Q base (.slice pw a p) a S from⟨f.2.2.1.kp af M,f.2.2.2.1.kp af λq c t u e d=>(M q c t u e d).1⟩);have j:=hid ca;have ba:=T.out;have c8:=ζ ba;clear aj M di ao a9 bh ca an bx bs;go_wp2_with fail;refine (show Calls _ _ _ _ _ from (by have h:=xN2 (.slice vb vn dj) nw.cont Q bd.sp (by have:=az.out;omega);exact h)).mono ?_;rintro e H ⟨v4,rfl,a8,ac⟩;obtain⟨E,z,rfl⟩:=a8.form;obtain⟨D,be⟩:=eX nw.cont.length;rw[<-be];have I:=ac.hp ba;have ar:=hid I;have dq:=ζ I;have a0:=hid (show SPR H (.slice E D z) nw.cont from by rw[be];exact a8.sp);have aw:=hid (show RowC H base (.slice pm m o) y/\RowM H base (.slice pw a p) a S from⟨bp.1.keep0 ac,bp.2.keep ac (by intro q d;cases d)⟩);have bl:=hid (show Kp [] Q H from ac);have Z:=ξ I 1;have b2:=ξ I 2;have b3:=ξ I 3;have b4:=ξ I 4;have J:=ξ I 5;have b6:=ξ I 6;simp only[kob,zG,zH,zI] at Z b2 b3 b4 J b6;rw[f.out.1] at b2;rw[f.out.2.1] at b4;have au:=hid (show Ω 190 #[.agg #[ϊ k.n,.slice pm m o,.bool k.emp,.slice pw a p,.bool k.wild,.bool k.bit],.slice E D z] H λr w'=>r=ϱ (.bool (decide (nw.cont∈y)))/\Kp [] H w' from by
  have h:=jN5 base pm o (.slice pw a p) (.slice E D z) k.n k.emp k.wild k.bit y nw.cont H (by have h:=aw.out.1;rw[f.out.2.2.2.2.1] at h;exact h) a0 (by have:=az.out;omega) f.2.2.2.2.2.2.2 (by have h:=f.out.2.2.2.2.2.2.1;rw[f.out.2.2.2.2.1] at h;exact h);rw[<-f.out.2.2.2.2.1] at h;exact h)
 obtain⟨de,bc⟩:∃ b,b=decide (nw.cont∈y):=⟨_,rfl⟩;rw[<-bc] at au;have c0:=hid bc;clear a8 be I ac ba bd c8 bc;go_wp2_with fail;refine (show Calls _ _ _ _ _ from au).mono ?_;rintro e w5 ⟨rfl,ak⟩;have P:=ak.hp ar.out;have cc:=ζ P;clear Z b2 b3 b4 J b6 au;have J:=ξ P 5;have N:=ξ P 8;simp only[kob,zG,zH,zI] at J N;have ah:=ψ P 8;have U:=hid P;have W:=hid ak;have ax:=hid (kC5 (.slice E D z) nw.cont w5 (a0.keep0 ak) bv.1 bv.2 (by have:=az.out;omega));clear P ak;obtain⟨wl,ap⟩:∃ b,b=k.wild:=⟨_,rfl⟩;rw[<-ap] at J;cases wl
 case' true=>
  clear ap;go_wp2_with fail;refine (show Calls _ _ _ _ _ from ax).mono ?_;rintro e bg ⟨rfl,a4⟩;have ae:=a4.hp U.out;have dr:=ζ ae;clear J N ah;have N:=ξ ae 8;simp only[kob,zG,zH,zI] at N;have ah:=ψ ae 8;have bj:=hid ae;have bm:=hid (show Kp [] H bg from W.tr a4);clear ae a4 U W ax cc;go_wp2_with fail
 case' false=>
  have hh:de=true:=by
   rw[c0.out];exact decide_eq_true (c5.resolve_left (by rw[<-ap];simp))
  subst hh;clear ap;obtain⟨bg,cq⟩:=eX w5;rw[<-cq] at U W J N ah cc |-;have bj:=hid U.out;have bm:=hid W.out;clear cq ax U W;go_wp2_with fail
 all_goals
  obtain⟨g,cr,a1,al⟩:∃ g,g=bg.setCell ⟨B,8,none⟩ (.slice E D z)/\g.heap[B]?=some (kob { k with c:=.slice E D z })/\Kp [B] H g:=⟨_,rfl,μ bj 8 _,(bm.mono sM).sc _⟩;rw[<-cr];clear cr N ah;have V:=hid a1;have av:=hid al;have M:∀ q c t u,H.heap[q]?=some (.cells c t u)->q∈[B]->t≠126:=λq c t u e d=>by
   rw[mS d,ar.out] at e;cases e;decide
  have bq:=hid (show (∃ xm,RowM g.drew base (.slice pm m o) m xm)/\RowM g.drew base (.slice pw a p) a S from⟨by obtain⟨xm,aq,_⟩:=aw.out.1;rw[<-f.out.2.2.2.2.1] at aq;exact⟨xm,(aq.kp al M).keep ((Kp.refl [] _).drew) (by intro q d;cases d)⟩,(aw.2.kp al M).keep ((Kp.refl [] _).drew) (by intro q d;cases d)⟩);have dl:B<g.drew.heap.size:=ζ a1;clear a1 al M;refine shr (α:=Prop) (R:=λX=>X) ?_;apply Exists.intro;apply And.intro
  rotate_left
  .intro HREST;refine wp_region_any kR ?_;change wpAny _ _ _ _ _ _ _ (World.drew _);refine zu 0 (ϖ B) ?_;refine zu 1 (ϖ B) ?_;refine zu 2 (ϖ B) ?_;refine zu 3 (.pointer (some ⟨B,1,none⟩)) ?_;refine zu 5 (ϖ B) ?_;refine zu 6 (ϖ B) ?_;refine zu 7 (.pointer (some ⟨B,8,none⟩)) ?_;refine wpAny_ready (rs:=[4,8]) kR sM ?_;refine AllReady.cons rfl (λK hK=>?_) (AllReady.cons rfl (λK hK=>?_) AllReady.nil)
   .refine qF2 rfl (qO4 (t:=123) rfl kR 6 kR B 1 rfl (show g.drew.heap[B]?=_ from V) (by simp[kob]) (show _=#[ϊ k.n,.slice pm m o,.bool k.emp,.slice pw a p,.bool k.wild,.bool k.bit] from by simp only[kob];rw[f.out.1,f.out.2.1];rfl)) ?_;refine hK _ _ ?_
    try simp only[zZ]
    refine zQ 8 λK hK=>?_;refine qF2 rfl (qO4 (t:=126) rfl kR 1 kR B 8 rfl (show g.drew.heap[B]?=_ from V) (by simp[kob]) (show _=#[.slice E D z] from rfl)) ?_;refine hK _ _ ?_
    try simp only[zZ]
    exact HREST
   .refine qF2 rfl (qO4 (t:=126) rfl kR 1 kR B 8 rfl (show g.drew.heap[B]?=_ from V) (by simp[kob]) (show _=#[.slice E D z] from rfl)) ?_;refine hK _ _ ?_
    try simp only[zZ]
    refine zQ 4 λK hK=>?_;refine qF2 rfl (qO4 (t:=123) rfl kR 6 kR B 1 rfl (show g.drew.heap[B]?=_ from V) (by simp[kob]) (show _=#[ϊ k.n,.slice pm m o,.bool k.emp,.slice pw a p,.bool k.wild,.bool k.bit] from by simp only[kob];rw[f.out.1,f.out.2.1];rfl)) ?_;refine hK _ _ ?_
    try simp only[zZ]
    exact HREST
  refine zQ 9 λK hK=>?_;go_simp;obtain⟨xm,aq⟩:=bq.out.1;refine (zR8 base m o a p pm pw k.n k.emp k.wild k.bit E D z g.drew aq bq.2 f.2.2.2.2.2.2.1 f.2.2.2.2.2.1).mono ?_;rintro e w7 ⟨gm,gw,ag,rfl,cg,cv,a5⟩;have ad:=a5.heap (k:=B) V sM;have bu:=hid ad;have bn:=hid a5;have br:=hid (And.intro cg cv);have dm:=ζ ad;refine hK _ _ ?_;clear hK K a5 cg cv
  try simp only[zZ]
  refine zu 10 (ϖ B) ?_;refine zu 11 (.pointer (some ⟨B,1,none⟩)) ?_;have Z:=ξ ad;simp only[kob,zG,zH,zI] at Z;have c7:=ψ ad;clear ad;refine zQ 12 λK hK=>?_;go_simp;refine hK _ _ ?_;refine wpAny_done kR ?_ _;obtain⟨w8,cs,aa,b9⟩:∃ w8,w8=(((((w7.setCell ⟨B,1,none⟩ (ϊ k.n)).setCell ⟨B,2,none⟩ (.slice (some ⟨gm,0,none⟩) 1 1)).setCell ⟨B,3,none⟩ (.bool false)).setCell ⟨B,4,none⟩ (.slice (some ⟨gw,0,none⟩) (a+1) ag)).setCell ⟨B,5,none⟩ (.bool k.wild)).setCell ⟨B,6,none⟩ (.bool k.bit)/\w8.heap[B]?=some (kob { k.only gm gw a ag with c:=.slice E D z })/\Kp [B] w7 w8:=
   ⟨_,rfl,μ (μ (μ (μ (μ (μ bu 1 _) 2 _) 3 _) 4 _) 5 _) 6 _,(((((((Kp.refl [B] w7).sc _).sc _).sc _).sc _).sc _).sc _)⟩
  rw[<-cs];clear cs Z c7;have dn:=ζ aa;have b7:=ξ aa;simp only[kob,zG,zH,zI] at b7;have dk:=ψ aa;have cz:=hid aa;have c3:=hid b9;clear aa b9;go_wp2;go_ret;obtain⟨w9,ct,c9,am⟩:∃ w9,w9=(w8.setCell ⟨B,7,none⟩ (ϖ O)).setCell ⟨B,9,none⟩ (ϊ 0)/\w9.heap[B]?=some (kob { k.only gm gw a ag with c:=.slice E D z,com:=0,x:=some ⟨O,0,none⟩ })/\Kp [B] w7 w9:=⟨_,rfl,μ (μ cz 7 _) 9 _,(c3.sc _).sc _⟩;rw[<-ct];clear ct;have ab:Kp [B] Q w9:=(((bl.mono sM).tr av).trans (((Kp.refl [] _).drew).tr bn) sM).tr am;have da:=(av.trans (((Kp.refl [] _).drew).tr bn) sM).tr am;have cb:∀ q c t u,w7.heap[q]?=some (.cells c t u)->q∈[B]->t≠126:=λq c t u e d=>by
   rw[mS d,bu.out] at e;cases e;decide
  have cn:w.heap.size<=g.drew.heap.size:=by
   have h1:=af.out.size;have h2:=bl.out.size;have h3:=av.out.size;show w.heap.size<=g.heap.size;omega
  have dd:=OffD.one T dC;obtain⟨m1,m2,m3,m4⟩:=j.out.neDb;refine⟨rfl,(af.mono (by simp +contextual)).trans ab (by simp +contextual),_,_,.slice E D z,gm,gw,ag,j.turn ab (by simpa using qA1 j.hDb T dC) (qD0 j.dev ab dd) ⟨rfl,rfl,rfl,rfl,rfl,rfl⟩ (ab.heap j.hSt (by simpa using qA1 j.hSt T dC)) (j.hM.kp ab (by simpa using (qD3 T j.hM).symm)) j.m4 j.n1 j.bg0 j.kb j.rd,?_,?_,by rw[F.out.2.1],a0.keep da (λq d c t u e hm=>by rw[mS d,ar.out] at e;cases e;revert hm;decide),c9,qG7 (qL0 br.1 cn) am cb,(br.2.le cn).kp am cb⟩
  .rw[F.out.2.1,F.out.2.2.2,HZ.out];rfl
  .intro m;rw[F.out.2.1,F.out.2.2.2,HZ.out];rfl
end Go.Proofs.YtdohpenfkdckiaaGreatDoor
