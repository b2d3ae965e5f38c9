import Derived.Test.YtdohpenfkdckiaaGreatDoorJ08
set_option linter.all false
set_option maxRecDepth 100000
set_option maxHeartbeats 0
namespace Go.Proofs.YtdohpenfkdckiaaGreatDoor
open Go.Proofs.Tryz Go.RowKit
def NQ{p:Ϧ}(h:1<=p.size):p.toList.isEmpty=false:=by
 rw[ByteArray.toList_eq]
 cases h2:p.data.toList with
 | nil=>
  have:p.data.toList.length=0:=by rw[h2];rfl
  have:p.size=p.data.toList.length:=Array.length_toList.symm;omega
 | cons a l=>rfl
def ProgS.more{w w'}{S}(h:ProgS w S)(hK:Kp [] w w')(a:∀k∈S,k<w.heap.size):ProgS w' S:=λk hk=>⟨(h k hk).1,λc t fr e=>(h k hk).2 c t fr (by
 have:=hK.block k (a k hk) sM;rw[<-this];exact e)⟩
def Ra(b c B:Nat)(k:KF)(d:Int)(R:ϩ->Option KV->ϯ)(S:Ϥ)(w w':Ϣ):Prop:=
 ∃Jj o W a N,Kp [] w W/\R Jj o a/\Kp S W a/\w.heap.size<=N/\((Jj=none/\w'.heap[b]?=some (Cz c (pkv o).k o.isSome d)/\Kp [N,b] a w')\/(Jj≠none/\ioK Jj=false/\Kp [N] a w')\/(ioK Jj=true/\Kp [N,B] a w'/\w'.heap[B]?=some (kob { k with po:=true })))
def Fg(ps:List KV)(key sk:ByteArray):Nat→Int
 | 0=>0
 | 1=>(ps.length:Int)-1
 | 2=>(Ah ps sk:Nat)
 | 3=>(Ah ps key:Nat)+1
 | _=>(Ah ps key:Nat)-1
def mvE(z:Int→Int)(ps:List KV)(key sk:ByteArray)(m:Nat):Nat→Int
 | 0=>0
 | 1=>z ((m:Int)-1)
 | 2=>(Ah ps sk:Nat)
 | 3=>z (((Ah ps key:Nat):Int)+1)
 | _=>z (((Ah ps key:Nat):Int)-1)
def Rb(k:KF)(d:Int)(f:TF)(ps:List KV)(key sk:Ϧ)(b:Bool)(c:Int)(a:Nat)(Jj:ϩ)(o:Option KV)(w':Ϣ):Prop:=
 (k.po=true/\Jj=some 7/\o=none)\/(k.po=false/\Jj=some 5/\f.dn=true/\o=none)\/(k.po=false/\Jj=some 11/\f.dn=false/\3<=a/\(b=false\/c≠f.stp)/\o=none)\/(k.po=false/\ioK Jj=true/\f.dn=false/\(3<=a->b=true/\c=f.stp)/\o=none/\More w' k.A d)\/(k.po=false/\Jj=none/\f.dn=false/\(3<=a->b=true/\c=f.stp)/\(∀q∈ps,AD q)/\o=if Fg ps key sk a<0 then none else ps[(Fg ps key sk a).toNat]?)
def DU(a:Nat)(d:Int):Prop:=∀(B tb c b:Nat)(td:Int)(k:KF)(f:TF)(ps:List KV)(ckey:Ϧ)(con:Bool)(cstp:Int)(key:Ϧ)(S:Ϥ)(R:ϩ->Option KV->ϯ)(w:Ϣ)(to:Int)(hI:LkIn w B tb td k f ps)(hP:ProgS w S)(hlt:∀k∈S,k<w.heap.size) (hC:w.heap[c]?=some (Cz b ckey con cstp)) (hto:Fg ps ckey key a=to) (hE:mvE wrap64 ps ckey key ps.length a=to)
  (hcall:∀W,Kp [] w W->Ω (mvF a) (mvA b key a) W λe w'=>∃v Jj o,e=mvv (pkv o).k (pkv o).v o.isSome v/\ErrV w' v Jj/\Rb k td f ps ckey key con cstp a Jj o w'/\R Jj o w'/\Kp S W w'),
  Ω 137 #[ϖ B,ϖ tb,ϖ c,ϊ d,ϕ key] w λe w'=>e=ϱ (ϐ true)/\Ra c b B k f.stp R S w w'
def Yt{z:Int->Int}{ps}{key sk}{m:Nat}{a:Int}(h:mvE z ps key sk m 1=a):z ((m:Int)-1)=a:=h
def Yu{z:Int->Int}{ps}{key sk}{m:Nat}{a:Int}(h:mvE z ps key sk m 3=a):z (((Ah ps key:Nat):Int)+1)=a:=h
def Yv{z:Int->Int}{ps}{key sk}{m:Nat}{a:Int}(h:mvE z ps key sk m 4=a):z (((Ah ps key:Nat):Int)-1)=a:=h
def Yw{z:Int->Int}{ps}{key sk}{a:Nat}(c:Hw a)(b:∀x:Int,-2<=x->x<=ps.length+1->z x=x):mvE z ps key sk ps.length a=Fg ps key sk a:=by
 have:=Gu ps key;rcases c with rfl|rfl|rfl|rfl|rfl
 .rfl
 .exact b _ oM oM
 .rfl
 .exact b _ oM oM
 .exact b _ oM oM
def Yx{ps}{key sk}{a:Nat}(b:Hw a)(e:ps.length<=1000000):mvE wrap64 ps key sk ps.length a=Fg ps key sk a:=Yw b λx c d=>by simp only[wrap64];omega
def Gh{bw:Nat}{hw:Int}(h:DU bw hw:=by
 intro B tb d Cb td k f ps H X am key S R w x I hP bt hC b3 hE bp;have cg:=hid b3;have HE:=hid hE;clear b3 hE;have cc:=zh bt;clear bt;have ct:=U I.hB;have c6:=U I.hT;have cr:=I.hA.lt;have cw:=U hC;have q:=zh I;have HP:=zh hP;have HC:=zh hC;have hB:=I.hB;have hT:=I.hT;let⟨vb,vc,a8⟩:=I.sp.form;let⟨m,hm⟩:=eY ps.length;rw[hm]at a8;have HM:=zh hm;have N:=zh a8;have b0:=Y hB 0;simp only[kob,zG,zH,zI]at b0;have ca:=bp;clear I hP hC hB hT bp a8 hm;go_enter func137,ntmps137;go_wp2_with fail;refine q.out.hA.call.mono ?_;rintro e b ⟨rfl,rfl⟩;have bm:=ν (ϲ #[.string ⟨#[]⟩,.string ⟨#[]⟩] 42) q.out.hT;have D:=Y bm 1;simp only[tob,zG,zH,zI]at D;rw[N.out]at D;clear b0;go_wp2_with fail;clear D bm;let⟨wa,b7,bj,af,df⟩:=Pl b (ϲ #[.string ⟨#[]⟩,.string ⟨#[]⟩] 42);rw[<-b7];clear b7;have bn:=af.hp q.out.hT;have bh:=af.hp HC.out;have r:wa.drew.heap[tb]?=some (tob f)/\wa.drew.heap[d]?=some (Cz Cb H X am):=⟨bn,bh⟩;refine wp_region_held_drew (S:=λW=>W.heap[tb]?=some (tob f)/\W.heap[d]?=some (Cz Cb H X am)) kR r (λ_=>?_);refine zP 0 tb 0 r ?_;refine zP 1 tb 0 r ?_;refine zP 2 tb 1 r ?_;refine zP 3 tb 1 r ?_;refine zV 4 (.agg #[.slice vb m vc]) rfl (λW hS=>by have c:=Y hS.1 1;simp only[tob,zG,zH,zI]at c;rw[N.out]at c;clear hS;go_simp) r ?_;refine zP 5 d 0 r ?_;refine zP 6 d 0 r ?_;refine zP 7 d 1 r ?_;refine zP 8 d 1 r ?_;refine zV 9 (.string H) rfl (λW hS=>by have c:=Y hS.2 1;simp only[Cz,zG,zH,zI]at c;clear hS;go_simp) r ?_;refine zq 10 λK hK=>?_;go_simp;have b2:SPR wa.drew (.slice vb m vc) ps:=by rw[<-N.out];exact q.out.sp.qM4 (af.drew)
 refine(PJ (.slice vb m vc) ps H wa.drew b2 (by have:=q.out.sz;omega)).mono ?_;rintro e n ⟨rfl,a2⟩;have ar:Kp [] b n:=(af.drew).tr a2;have bk:n.heap[b.heap.size]?=some (ϲ #[.string ⟨#[]⟩,.string ⟨#[]⟩] 42):=a2.heap (w:=wa.drew) bj sM;have a4:=ar.hp q.out.hT;have ap:=ar.hp HC.out;have a3:n.heap[tb]?=some (tob f)/\n.heap[d]?=some (Cz Cb H X am):=⟨a4,ap⟩;refine hK.out _ _ a3 (λ_=>?_);clear hK K r b2
 try simp only[zZ]
 refine zU 11 (.int .i64 (Ah ps H:Nat)) a3 ?_;refine zd ?_;have j:=zh ar;have bb:=zh bk;have cu:=U ap;have c4:=U a4;have c0:=Y ap 0;simp only[Cz,zG,zH,zI]at c0;clear a3 a2 ar bk bn bh af bj a4 ap;have hE:=HE.out;rw[HM.out]at hE;have O:=hid hE;clear hE HE;go_wp2_with fail;refine(ca n j.out).mono ?_;rintro e g ⟨v,Jj,o,he,hv,hj,hR,L⟩;have HJ:=hid hj;let⟨fk,A⟩:=eY ((pkv o).k);let⟨fv,C⟩:=eY ((pkv o).v);let⟨fb,z⟩:=eY o.isSome;rw[A,C,z]at he;subst he;have HF:Hid ((pkv o).k=fk/\(pkv o).v=fv/\o.isSome=fb):=⟨A,C,z⟩;clear hj A C z;have cx:=U bb.out;have T:=HP.out.more j.out cc.out;have aw:=T.stay L (j.out.hp q.out.hT) dC;have be:=T.stay L (j.out.hp q.out.hB) dC;have bg:=T.stay L (j.out.hp HC.out) dC;have ag:=T.stay L bb.out dC;have bz:=(q.out.sp.qM4 j.out).qM3 L (T.apt dC);have br:=T.g0 L ((j.out.cell (a:=(ϰ 0 0)) (by show 0<b.heap.size;omega) sM).trans q.out.g0) oM;have l:Hid (R Jj o g/\Kp S n g):=⟨hR,L⟩;have cy:=U ag;have F:=Y ag;have ch:=ρ ag;have az:=zh ag;have HV:=zh hv;have ci:=U aw;have D:=Y aw 1;simp only[tob,zG,zH,zI]at D;rw[N.out]at D;have cn:b.heap.size≠tb:=oM
 clear hR L ag c0 T hv;go_wp2_with fail;have b4:=BO (.string fk) (.string fv) az.out;let⟨M,b6,au,u⟩:=gE b4;rw[<-b6];clear b6 b4 F ch D cn;have ax:=u.ho aw;have an:=u.ho be;have aq:=u.ho bg;have al:=bz.qM3 u (λk hk c t fr e=>by rw[mS hk,az.out]at e;cases e;decide);have ay:M.cell? (ϰ 0 0)=some Bd:=(u.cell (a:=(ϰ 0 0)) (by show 0<g.heap.size;omega) sO).trans br;have ae:Hid (ErrV M v Jj):=HV.out.qM3 u (λi hi c fr e=>by rw[mS hi,az.out]at e;cases e);clear aw be bg bz br ci
 try
  have bl:SPR M (.slice vb m vc) ps:=by rw[<-N.out];exact al
  refine(PJ (.slice vb m vc) ps key M bl (by have:=q.out.sz;omega)).mono ?_;rintro e M ⟨rfl,E⟩
  replace ax:=E.hp ax
  replace an:=E.hp an
  replace aq:=E.hp aq
  replace au:=E.hp au
  replace al:=al.qM4 E
  replace ay:M.cell? (ϰ 0 0)=some Bd:=(E.cell (a:=(ϰ 0 0)) (by show 0<_;have:=u.size;omega) sM).trans ay
  replace u:Kp [b.heap.size] g M:=u.tr E
  have bo:=ae.out.qM3 E sM;clear bl E ae;have ae:=hid bo;clear bo;go_wp2_with fail
 try first | rw[show wrap64 ((m:Int)-1)=x from Yt O.out] | rw[show((Ah ps key:Nat):Int)=x from O.out] | rw[show wrap64 (((Ah ps H:Nat):Int)+1)=x from Yu O.out] | rw[show wrap64 (((Ah ps H:Nat):Int)-1)=x from Yv O.out]
 let⟨tk,a7⟩:=eY (Ce Jj);refine(Dh v Jj M ay ae.out).mono ?_;rintro e s ⟨he,Q⟩;rw[a7]at he;subst he;have y:=hid a7;clear a7;have aa:=Q.hp ax;have ao:=Q.hp an;have P:=Q.hp aq;have av:=Q.hp au;have b1:=al.qM4 Q;have G:Hid (Kp [b.heap.size] g s):=u.tr Q;have c5:=U aa;have cs:=U ao;have cv:=U P;have cz:=U av;have ad:=zh P;have bc:=zh aa;have bd:=Y ao 10;simp only[kob,zG,zH,zI]at bd;have b9:=hid ao;have D:=Y aa 1;have t3:=Y aa 3;have t7:=Y aa 7;simp only[tob,zG,zH,zI]at D t3 t7;rw[N.out]at D;have F:=Y av 0;have V:=Y av 1;simp only[zG,zH,zI]at F V;have c1:=Y P 1;have c2:=Y P 2;have c3:=Y P 3;simp only[Cz,zG,zH,zI]at c1 c2 c3;have cq:=ρ P;have cf:Hid (SPR s (.slice vb m vc) ps):=by rw[<-N.out];exact b1
 clear ax an aq al ay au u aa ao P av b1 Q ae;let⟨A,C,z⟩:=HF.out;rcases HJ.out with⟨ac,rfl,rfl⟩|⟨ac,rfl,ah,rfl⟩|⟨ac,rfl,ah,h3,bs,rfl⟩|⟨ac,a5,ah,ak,rfl,bu⟩|⟨ac,rfl,ah,ak,bv,ho⟩
 all_goals rw[ac]at bd
 all_goals clear ac
 .obtain rfl:(7:Int)=tk:=y.out;clear y;subst A C z;simp only[pkv,Option.isSome_none]at F V |-;cases X
  all_goals
   go_wp2_with (go_at_call 127;refine(BN _ _).mono ?_;rintro e s ⟨rfl,rfl⟩)
   go_quiet (fail)
   go_wp2;go_ret;exact⟨rfl,_,_,n,g,b.heap.size,j.out,l.out.1,l.out.2,lR,.inr (.inl ⟨sM,rfl,G.out.drewN _⟩)⟩
 all_goals rw[ah]at t3
 all_goals clear ah
 .obtain rfl:(5:Int)=tk:=y.out;clear y;subst A C z;simp only[pkv,Option.isSome_none]at F V |-;cases X
  all_goals
   go_wp2_with (go_at_call 127;refine(BN _ _).mono ?_;rintro e s ⟨rfl,rfl⟩)
   go_quiet (fail)
   go_wp2;go_ret;exact⟨rfl,_,_,n,g,b.heap.size,j.out,l.out.1,l.out.2,lR,.inr (.inl ⟨sM,rfl,G.out.drewN _⟩)⟩
 .first
  | (exfalso;omega)
  | skip
  all_goals
   obtain rfl:(11:Int)=tk:=y.out;clear y;subst A C z;clear h3;simp only[pkv,Option.isSome_none]at F V |-;cases X
   all_goals
    try have dc:¬am=f.stp:=by simpa using bs
    clear bs
    go_wp2_with (go_at_call 127;refine(BN _ _).mono ?_;rintro e s ⟨rfl,rfl⟩)
    go_quiet (fail)
    go_wp2;go_ret;exact⟨rfl,_,_,n,g,b.heap.size,j.out,l.out.1,l.out.2,lR,.inr (.inl ⟨sM,rfl,G.out.drewN _⟩)⟩
 .obtain rfl:(8:Int)=tk:=(Ci a5).1.symm.trans y.out;have ba:=hid (And.intro a5 bu);clear y a5 bu;subst A C z;simp only[pkv,Option.isSome_none]at F V |-
  try (let⟨h1,Z⟩:=ak (Nat.le_of_ble_eq_true rfl);rw[h1]at c2;rw[Z]at c3;clear h1 Z)
  clear ak
  go_wp2_with (go_at_call 127;refine(BN _ _).mono ?_;rintro e s ⟨rfl,rfl⟩)
  go_quiet (fail)
  go_wp2_with fail;refine(ES B k td (s.drewN nq) b9.out ((ba.out.2.qM3 G.out (by have:=q.out.hA.lt;simp;omega)).qM4 ((Kp.refl [] s).drewN nq))).mono ?_;rintro e w6 ⟨rfl,bf,bi⟩;have a9:=hid (And.intro bf (((G.out.drewN _).mono (S':=[b.heap.size,B]) (by simp +contextual)).trans bi (by simp +contextual):Kp [b.heap.size,B] g w6));clear bf bi;go_wp2;go_ret;exact⟨rfl,_,_,n,g,b.heap.size,j.out,l.out.1,l.out.2,lR,.inr (.inr ⟨ba.out.1,a9.out.2,a9.out.1⟩)⟩
 .obtain rfl:(0:Int)=tk:=y.out;clear y
  try (let⟨h1,Z⟩:=ak (Nat.le_of_ble_eq_true rfl);rw[h1]at c2;rw[Z]at c3;clear h1 Z)
  clear ak;rw[cg.out]at ho;have HO:=hid ho;have cd:=hid bv;clear ho bv
  cases o with
  | none=>
   subst A C z;simp only[pkv,Option.isSome_none]at F V |-
   go_wp2_with (go_at_call 127;refine(BN _ _).mono ?_;rintro e s ⟨rfl,rfl⟩)
   go_quiet (fail)
   by_cases aj:x<0
   .try (have h0:(0:Int)=x:=O.out;omega)
    all_goals
     go_wp2;go_ret;have ai:=ad.out;have hK:Kp [b.heap.size,d] g (((s.setCell (ϰ d 1) (.string ⟨#[]⟩)).setCell (ϰ d 2) (.bool false)).setCell (ϰ d 3) (.int .i64 f.stp)):=((((G.out.mono (S':=[b.heap.size,d]) (by simp +contextual)).sc _).sc _).sc _);exact⟨rfl,none,none,n,g,b.heap.size,j.out,l.out.1,l.out.2,lR,.inl ⟨rfl,ξ (ξ (ξ ai 1 _) 2 _) 3 _,by first | exact hK | exact hK.drewN _ | exact hK.drew⟩⟩
   .have cj:(m:Int)<=x:=by
     have h:=HO.out;rw[if_neg aj]at h;have Z:=List.getElem?_eq_none_iff.1 h.symm;have h3:=HM.out;omega
    try (have h0:(0:Int)=x:=O.out;rw[<-h0]at cj aj;clear h0)
    go_wp2;go_ret;have ai:=ad.out;have hK:Kp [b.heap.size,d] g (((s.setCell (ϰ d 1) (.string ⟨#[]⟩)).setCell (ϰ d 2) (.bool false)).setCell (ϰ d 3) (.int .i64 f.stp)):=((((G.out.mono (S':=[b.heap.size,d]) (by simp +contextual)).sc _).sc _).sc _);exact⟨rfl,none,none,n,g,b.heap.size,j.out,l.out.1,l.out.2,lR,.inl ⟨rfl,ξ (ξ (ξ ai 1 _) 2 _) 3 _,by first | exact hK | exact hK.drewN _ | exact hK.drew⟩⟩
  | some p=>
   subst A C z;simp only[pkv,Option.isSome_some]at F V |-;obtain⟨i,hi,a6⟩:∃i:Nat,x=(i:Int)/\ps[i]?=some p:=by
    have h:=HO.out;by_cases aj:x<0
    .rw[if_pos aj]at h;cases h
    .rw[if_neg aj]at h;exact⟨x.toNat,oM,h.symm⟩
   subst hi;have ce:Hid (p.k.toList.isEmpty=false):=NQ (cd.out p (mO a6)).1;have de:=ce.out;let⟨ck,bx⟩:=gS a6;have cl:(i:Int)<(m:Int):=by have:=HM.out;omega
   have co:¬(i:Int)<0:=oM
   have cp:¬(m:Int)<=(i:Int):=oM
   let⟨gp,b8,cap,cur,fr,b5,c7,ab,bq⟩:=cf.out.at oM;simp only[vJ]at b5;obtain⟨rfl,cm,rfl⟩:=b5;clear cm;let⟨a0,a1⟩:=bq i ck;rw[bx]at a0 a1;have q0:=Y ab (b8+i*2);rw[a0]at q0;have q1:=Y ab (b8+i*2+1);rw[a1]at q1;have c9:=U ab;have c8:gp≠d:=υ ab ad.out dC;have da:gp≠tb:=υ ab bc.out dC;have dg:tb≠d:=υ bc.out ad.out dC;have dd:b.heap.size≠d:=oM
   clear ab bq a0 a1 a6 bx
   try
    have h0:(0:Int)=(i:Int):=O.out;obtain rfl:i=0:=oM
    clear h0;clear co cp;have db:¬m=0:=oM
    replace cl:(0:Int)<(m:Int):=oM
    simp only[Nat.zero_mul,Nat.add_zero]at q0 q1
   go_wp2_with (go_at_call 127;refine(BN _ _).mono ?_;rintro e s ⟨rfl,rfl⟩)
   go_quiet (fail)
   go_wp2_with fail
   go_quiet (fail)
   go_wp2;go_ret;have ai:=ad.out;refine⟨sM,none,some p,n,g,b.heap.size,j.out,l.out.1,l.out.2,lR,.inl ⟨rfl,ξ (ξ (ξ (ξ (ξ ai 1 _) 2 _) 3 _) 2 _) 1 _,?_⟩⟩;exact((((((G.out.mono (S':=[b.heap.size,d]) (by simp +contextual)).drewN _).sc _).sc _).sc _).sc _ |>.sc _ |>.drewN _)):DU bw hw:=h
def Yn:DU 0 0:=Gh
end Go.Proofs.YtdohpenfkdckiaaGreatDoor
