import Derived.Test.YtdohpenfkdckiaaGreatDoorJ10
set_option linter.all false
set_option maxRecDepth 100000
set_option maxHeartbeats 0
namespace Go.Proofs.YtdohpenfkdckiaaGreatDoor
open Go.Proofs.Tryz Go.RowKit
def Ph{p:Ϧ}(h:1<=p.size):p.toList.isEmpty=false:=by
 rw[ByteArray.toList_eq]
 cases h2:p.data.toList with
 | nil=>
  have:p.data.toList.length=0:=by rw[h2];rfl
  have:p.size=p.data.toList.length:=Array.length_toList.symm;omega
 | cons a l=>rfl
def BO.more{w w'}{S}(h:BO w S)(hK:Kp [] w w')(a:∀k∈S,k<w.heap.size):BO w' S:=λk hk=>⟨(h k hk).1,λc t fr e=>(h k hk).2 c t fr (by
 have:=hK.block k (a k hk) sM;rw[<-this];exact e)⟩
def Sa(c d B:Nat)(k:KF)(e:Int)(R:ϩ->Option KV->ϯ)(S:Ϥ)(w a:Ϣ):Prop:=
 ∃Jj o W b N,Kp [] w W/\R Jj o b/\Kp S W b/\w.heap.size<=N/\((Jj=none/\a.heap[c]?=some (DR d (A3 o).k o.isSome e)/\Kp [N,c] b a)\/(Jj≠none/\AR Jj=false/\Kp [N] b a)\/(AR Jj=true/\Kp [N,B] b a/\a.heap[B]?=some (Ae { k with po:=true })))
def G3(ps:List KV)(key sk:ByteArray):Nat→Int
 | 0=>0
 | 1=>(ps.length:Int)-1
 | 2=>(Aw ps sk:Nat)
 | 3=>(Aw ps key:Nat)+1
 | _=>(Aw ps key:Nat)-1
def G0(z:Int→Int)(ps:List KV)(key sk:ByteArray)(m:Nat):Nat→Int
 | 0=>0
 | 1=>z ((m:Int)-1)
 | 2=>(Aw ps sk:Nat)
 | 3=>z (((Aw ps key:Nat):Int)+1)
 | _=>z (((Aw ps key:Nat):Int)-1)
def Sb(k:KF)(h:Int)(f:TF)(b:List KV)(e g:Ϧ)(c:Bool)(d:Int)(a:Nat)(Jj:ϩ)(o:Option KV)(i:Ϣ):Prop:=
 (k.po=true/\Jj=some 7/\o=none)\/(k.po=false/\Jj=some 5/\f.dn=true/\o=none)\/(k.po=false/\Jj=some 11/\f.dn=false/\3<=a/\(c=false\/d≠f.stp)/\o=none)\/(k.po=false/\AR Jj=true/\f.dn=false/\(3<=a->c=true/\d=f.stp)/\o=none/\DD i k.A h)\/(k.po=false/\Jj=none/\f.dn=false/\(3<=a->c=true/\d=f.stp)/\(∀q∈b,A2 q)/\o=if G3 b e g a<0 then none else b[(G3 b e g a).toNat]?)
def Fz(b:Nat)(h:Int):Prop:=∀(B g d c:Nat)(td:Int)(k:KF)(f:TF)(ps:List KV)(ckey:Ϧ)(con:Bool)(cstp:Int)(key:Ϧ)(S:Ϥ)(R:ϩ->Option KV->ϯ)(w:Ϣ)(to:Int)(hI:F1 w B g td k f ps)(hP:BO w S)(hlt:∀k∈S,k<w.heap.size) (hC:w.heap[d]?=some (DR c ckey con cstp)) (hto:G3 ps ckey key b=to) (hE:G0 wrap64 ps ckey key ps.length b=to)
  (hcall:∀W,Kp [] w W->Ω (G1 b) (GZ c key b) W λe a=>∃v Jj o,e=IC (A3 o).k (A3 o).v o.isSome v/\AD a v Jj/\Sb k td f ps ckey key con cstp b Jj o a/\R Jj o a/\Kp S W a),
  Ω 137 #[ϖ B,ϖ g,ϖ d,ϊ h,ϕ key] w λe a=>e=ϱ (ϐ true)/\Sa d c B k f.stp R S w a
def Yt{z:Int->Int}{ps}{key sk}{m:Nat}{a:Int}(h:G0 z ps key sk m 1=a):z ((m:Int)-1)=a:=h
def Yu{z:Int->Int}{b}{a sk}{m:Nat}{c:Int}(h:G0 z b a sk m 3=c):z (((Aw b a:Nat):Int)+1)=c:=h
def Yv{z:Int->Int}{b}{a sk}{m:Nat}{c:Int}(h:G0 z b a sk m 4=c):z (((Aw b a:Nat):Int)-1)=c:=h
def Yw{z:Int->Int}{ps}{key sk}{a:Nat}(c:Hw a)(b:∀x:Int,-2<=x->x<=ps.length+1->z x=x):G0 z ps key sk ps.length a=G3 ps key sk a:=by
 have:=IP ps key;rcases c with rfl|rfl|rfl|rfl|rfl
 .rfl
 .exact b _ oM oM
 .rfl
 .exact b _ oM oM
 .exact b _ oM oM
def Yx{ps}{key sk}{a:Nat}(b:Hw a)(e:ps.length<=1000000):G0 wrap64 ps key sk ps.length a=G3 ps key sk a:=Yw b λx c d=>by simp only[wrap64];omega
def IB{bx:Nat}{hw:Int}(h:Fz bx hw:=by
 intro B F d Cb td k f x L aa an b9 S R w y M hP bu hC b4 hE bq;have ci:=ξ b4;have HE:=ξ hE;clear b4 hE;have ce:=zh bu;clear bu;have cx:=U M.hB;have da:=U M.hT;have cv:=M.hA.lt;have c4:=U hC;have q:=zh M;have HP:=zh hP;have HC:=zh hC;have hB:=M.hB;have hT:=M.hT;let⟨vb,vc,a9⟩:=M.sp.form;let⟨m,hm⟩:=eY x.length;rw[hm]at a9;have HM:=zh hm;have P:=zh a9;have b0:=Y hB 0;simp only[Ae,zG,zH,zI]at b0;have cd:=bq;clear M hP hC hB hT bq a9 hm;go_enter func137,ntmps137;go_wp2_with fail;refine q.out.hA.call.mono ?_;rintro e b ⟨rfl,rfl⟩;have bn:=ψ (ϲ #[.string ⟨#[]⟩,.string ⟨#[]⟩] 42) q.out.hT;have E:=Y bn 1;simp only[Bc,zG,zH,zI]at E;rw[P.out]at E;clear b0;go_wp2_with fail;clear E bn;let⟨wa,b8,bk,ag,dj⟩:=Qq b (ϲ #[.string ⟨#[]⟩,.string ⟨#[]⟩] 42);rw[<-b8];clear b8;have bo:=ag.hp q.out.hT;have bi:=ag.hp HC.out;have r:wa.drew.heap[F]?=some (Bc f)/\wa.drew.heap[d]?=some (DR Cb L aa an):=⟨bo,bi⟩;refine wp_region_held_drew (S:=λW=>W.heap[F]?=some (Bc f)/\W.heap[d]?=some (DR Cb L aa an)) kR r (λ_=>?_);refine zP 0 F 0 r ?_;refine zP 1 F 0 r ?_;refine zP 2 F 1 r ?_;refine zP 3 F 1 r ?_;refine zV 4 (.agg #[.slice vb m vc]) rfl (λW hS=>by have c:=Y hS.1 1;simp only[Bc,zG,zH,zI]at c;rw[P.out]at c;clear hS;go_simp) r ?_;refine zP 5 d 0 r ?_;refine zP 6 d 0 r ?_;refine zP 7 d 1 r ?_;refine zP 8 d 1 r ?_;refine zV 9 (.string L) rfl (λW hS=>by have c:=Y hS.2 1;simp only[DR,zG,zH,zI]at c;clear hS;go_simp) r ?_;refine zq 10 λK hK=>?_;go_simp;have b3:AS wa.drew (.slice vb m vc) x:=by rw[<-P.out];exact q.out.sp.qK5 (ag.drew)
 refine(QK (.slice vb m vc) x L wa.drew b3 (by have:=q.out.sz;omega)).mono ?_;rintro e n ⟨rfl,a3⟩;have au:Kp [] b n:=(ag.drew).tr a3;have bl:n.heap[b.heap.size]?=some (ϲ #[.string ⟨#[]⟩,.string ⟨#[]⟩] 42):=a3.heap (w:=wa.drew) bk sM;have a5:=au.hp q.out.hT;have aq:=au.hp HC.out;have a4:n.heap[F]?=some (Bc f)/\n.heap[d]?=some (DR Cb L aa an):=⟨a5,aq⟩;refine hK.out _ _ a4 (λ_=>?_);clear hK K r b3
 try simp only[zZ]
 refine zU 11 (.int .i64 (Aw x L:Nat)) a4 ?_;refine zd ?_;have j:=zh au;have bc:=zh bl;have cy:=U aq;have c8:=U a5;have c0:=Y aq 0;simp only[DR,zG,zH,zI]at c0;clear a4 a3 au bl bo bi ag bk a5 aq;have hE:=HE.out;rw[HM.out]at hE;have Q:=ξ hE;clear hE HE;go_wp2_with fail;refine(cd n j.out).mono ?_;rintro e g ⟨v,Jj,o,he,hv,hj,hR,N⟩;have HJ:=ξ hj;let⟨fk,C⟩:=eY ((A3 o).k);let⟨fv,D⟩:=eY ((A3 o).v);let⟨fb,A⟩:=eY o.isSome;rw[C,D,A]at he;subst he;have HF:Hid ((A3 o).k=fk/\(A3 o).v=fv/\o.isSome=fb):=⟨C,D,A⟩;clear hj C D A;have c5:=U bc.out;have X:=HP.out.more j.out ce.out;have ax:=X.stay N (j.out.hp q.out.hT) dC;have bf:=X.stay N (j.out.hp q.out.hB) dC;have bh:=X.stay N (j.out.hp HC.out) dC;have ah:=X.stay N bc.out dC;have b1:=(q.out.sp.qK5 j.out).qK4 N (X.apt dC);have bs:=X.g0 N ((j.out.cell (a:=(ϰ 0 0)) (by show 0<b.heap.size;omega) sM).trans q.out.g0) oM;have l:Hid (R Jj o g/\Kp S n g):=⟨hR,N⟩;have c6:=U ah;have H:=Y ah;have cj:=ω ah;have a2:=zh ah;have HV:=zh hv;have ck:=U ax;have E:=Y ax 1;simp only[Bc,zG,zH,zI]at E;rw[P.out]at E;have cp:b.heap.size≠F:=oM
 clear hR N ah c0 X hv;go_wp2_with fail;have b5:=CQ (.string fk) (.string fv) a2.out;let⟨O,b7,av,u⟩:=gE b5;rw[<-b7];clear b7 b5 H cj E cp;have ay:=u.ho ax;have ao:=u.ho bf;have ar:=u.ho bh;have am:=b1.qK4 u (λk hk c t fr e=>by rw[mS hk,a2.out]at e;cases e;decide);have az:O.cell? (ϰ 0 0)=some BW:=(u.cell (a:=(ϰ 0 0)) (by show 0<g.heap.size;omega) sO).trans bs;have af:Hid (AD O v Jj):=HV.out.qK4 u (λi hi c fr e=>by rw[mS hi,a2.out]at e;cases e);clear ax bf bh b1 bs ck
 try
  have bm:AS O (.slice vb m vc) x:=by rw[<-P.out];exact am
  refine(QK (.slice vb m vc) x b9 O bm (by have:=q.out.sz;omega)).mono ?_;rintro e O ⟨rfl,G⟩
  replace ay:=G.hp ay
  replace ao:=G.hp ao
  replace ar:=G.hp ar
  replace av:=G.hp av
  replace am:=am.qK5 G
  replace az:O.cell? (ϰ 0 0)=some BW:=(G.cell (a:=(ϰ 0 0)) (by show 0<_;have:=u.size;omega) sM).trans az
  replace u:Kp [b.heap.size] g O:=u.tr G
  have bp:=af.out.qK4 G sM;clear bm G af;have af:=ξ bp;clear bp;go_wp2_with fail
 try first | rw[show wrap64 ((m:Int)-1)=y from Yt Q.out] | rw[show((Aw x b9:Nat):Int)=y from Q.out] | rw[show wrap64 (((Aw x L:Nat):Int)+1)=y from Yu Q.out] | rw[show wrap64 (((Aw x L:Nat):Int)-1)=y from Yv Q.out]
 let⟨tk,a8⟩:=eY (Dg Jj);refine(EC v Jj O az af.out).mono ?_;rintro e s ⟨he,V⟩;rw[a8]at he;subst he;have z:=ξ a8;clear a8;have ab:=V.hp ay;have ap:=V.hp ao;have T:=V.hp ar;have aw:=V.hp av;have b2:=am.qK5 V;have I:Hid (Kp [b.heap.size] g s):=u.tr V;have c9:=U ab;have cw:=U ap;have cz:=U T;have c7:=U aw;have ae:=zh T;have bd:=zh ab;have be:=Y ap 10;simp only[Ae,zG,zH,zI]at be;have cc:=ξ ap;have E:=Y ab 1;have t3:=Y ab 3;have t7:=Y ab 7;simp only[Bc,zG,zH,zI]at E t3 t7;rw[P.out]at E;have H:=Y aw 0;have Z:=Y aw 1;simp only[zG,zH,zI]at H Z;have c1:=Y T 1;have c2:=Y T 2;have c3:=Y T 3;simp only[DR,zG,zH,zI]at c1 c2 c3;have cu:=ω T;have ch:Hid (AS s (.slice vb m vc) x):=by rw[<-P.out];exact b2
 clear ay ao ar am az av u ab ap T aw b2 V af;let⟨C,D,A⟩:=HF.out;rcases HJ.out with⟨ad,rfl,rfl⟩|⟨ad,rfl,ai,rfl⟩|⟨ad,rfl,ai,h3,bt,rfl⟩|⟨ad,a6,ai,al,rfl,bv⟩|⟨ad,rfl,ai,al,bw,ho⟩
 all_goals rw[ad]at be
 all_goals clear ad
 .obtain rfl:(7:Int)=tk:=z.out;clear z;subst C D A;simp only[A3,Option.isSome_none]at H Z |-;cases aa
  all_goals
   go_wp2_with (go_at_call 127;refine(CP _ _).mono ?_;rintro e s ⟨rfl,rfl⟩)
   go_quiet (fail)
   go_wp2;go_ret;exact⟨rfl,_,_,n,g,b.heap.size,j.out,l.out.1,l.out.2,lR,.inr (.inl ⟨sM,rfl,I.out.drewN _⟩)⟩
 all_goals rw[ai]at t3
 all_goals clear ai
 .obtain rfl:(5:Int)=tk:=z.out;clear z;subst C D A;simp only[A3,Option.isSome_none]at H Z |-;cases aa
  all_goals
   go_wp2_with (go_at_call 127;refine(CP _ _).mono ?_;rintro e s ⟨rfl,rfl⟩)
   go_quiet (fail)
   go_wp2;go_ret;exact⟨rfl,_,_,n,g,b.heap.size,j.out,l.out.1,l.out.2,lR,.inr (.inl ⟨sM,rfl,I.out.drewN _⟩)⟩
 .first
  | (exfalso;omega)
  | skip
  all_goals
   obtain rfl:(11:Int)=tk:=z.out;clear z;subst C D A;clear h3;simp only[A3,Option.isSome_none]at H Z |-;cases aa
   all_goals
    try have dg:¬an=f.stp:=by simpa using bt
    clear bt
    go_wp2_with (go_at_call 127;refine(CP _ _).mono ?_;rintro e s ⟨rfl,rfl⟩)
    go_quiet (fail)
    go_wp2;go_ret;exact⟨rfl,_,_,n,g,b.heap.size,j.out,l.out.1,l.out.2,lR,.inr (.inl ⟨sM,rfl,I.out.drewN _⟩)⟩
 .obtain rfl:(8:Int)=tk:=(Dx a6).1.symm.trans z.out;have bb:=ξ (And.intro a6 bv);clear z a6 bv;subst C D A;simp only[A3,Option.isSome_none]at H Z |-
  try (let⟨h1,h2⟩:=al (Nat.le_of_ble_eq_true rfl);rw[h1]at c2;rw[h2]at c3;clear h1 h2)
  clear al
  go_wp2_with (go_at_call 127;refine(CP _ _).mono ?_;rintro e s ⟨rfl,rfl⟩)
  go_quiet (fail)
  go_wp2_with fail;refine(GM B k td (s.drewN nq) cc.out ((bb.out.2.qK4 I.out (by have:=q.out.hA.lt;simp;omega)).qK5 ((Kp.refl [] s).drewN nq))).mono ?_;rintro e w6 ⟨rfl,bg,bj⟩;have ba:=ξ (And.intro bg (((I.out.drewN _).mono (S':=[b.heap.size,B]) (by simp +contextual)).trans bj (by simp +contextual):Kp [b.heap.size,B] g w6));clear bg bj;go_wp2;go_ret;exact⟨rfl,_,_,n,g,b.heap.size,j.out,l.out.1,l.out.2,lR,.inr (.inr ⟨bb.out.1,ba.out.2,ba.out.1⟩)⟩
 .obtain rfl:(0:Int)=tk:=z.out;clear z
  try (let⟨h1,h2⟩:=al (Nat.le_of_ble_eq_true rfl);rw[h1]at c2;rw[h2]at c3;clear h1 h2)
  clear al;rw[ci.out]at ho;have HO:=ξ ho;have cf:=ξ bw;clear ho bw
  cases o with
  | none=>
   subst C D A;simp only[A3,Option.isSome_none]at H Z |-
   go_wp2_with (go_at_call 127;refine(CP _ _).mono ?_;rintro e s ⟨rfl,rfl⟩)
   go_quiet (fail)
   by_cases ak:y<0
   .try (have h0:(0:Int)=y:=Q.out;omega)
    all_goals
     go_wp2;go_ret;have aj:=ae.out;have hK:Kp [b.heap.size,d] g (((s.setCell (ϰ d 1) (.string ⟨#[]⟩)).setCell (ϰ d 2) (.bool false)).setCell (ϰ d 3) (.int .i64 f.stp)):=((((I.out.mono (S':=[b.heap.size,d]) (by simp +contextual)).sc _).sc _).sc _);exact⟨rfl,none,none,n,g,b.heap.size,j.out,l.out.1,l.out.2,lR,.inl ⟨rfl,η (η (η aj 1 _) 2 _) 3 _,by first | exact hK | exact hK.drewN _ | exact hK.drew⟩⟩
   .have cl:(m:Int)<=y:=by
     have h:=HO.out;rw[if_neg ak]at h;have h2:=List.getElem?_eq_none_iff.1 h.symm;have h3:=HM.out;omega
    try (have h0:(0:Int)=y:=Q.out;rw[<-h0]at cl ak;clear h0)
    go_wp2;go_ret;have aj:=ae.out;have hK:Kp [b.heap.size,d] g (((s.setCell (ϰ d 1) (.string ⟨#[]⟩)).setCell (ϰ d 2) (.bool false)).setCell (ϰ d 3) (.int .i64 f.stp)):=((((I.out.mono (S':=[b.heap.size,d]) (by simp +contextual)).sc _).sc _).sc _);exact⟨rfl,none,none,n,g,b.heap.size,j.out,l.out.1,l.out.2,lR,.inl ⟨rfl,η (η (η aj 1 _) 2 _) 3 _,by first | exact hK | exact hK.drewN _ | exact hK.drew⟩⟩
  | some p=>
   subst C D A;simp only[A3,Option.isSome_some]at H Z |-;obtain⟨i,hi,a7⟩:∃i:Nat,y=(i:Int)/\x[i]?=some p:=by
    have h:=HO.out;by_cases ak:y<0
    .rw[if_pos ak]at h;cases h
    .rw[if_neg ak]at h;exact⟨y.toNat,oM,h.symm⟩
   subst hi;have cg:Hid (p.k.toList.isEmpty=false):=Ph (cf.out p (mO a7)).1;have di:=cg.out;let⟨cm,bz⟩:=gS a7;have cn:(i:Int)<(m:Int):=by have:=HM.out;omega
   have cq:¬(i:Int)<0:=oM
   have cr:¬(m:Int)<=(i:Int):=oM
   let⟨gp,ca,cs,ct,fr,b6,db,ac,br⟩:=ch.out.at oM;simp only[vJ]at b6;obtain⟨rfl,co,rfl⟩:=b6;clear co;let⟨a0,a1⟩:=br i cm;rw[bz]at a0 a1;have q0:=Y ac (ca+i*2);rw[a0]at q0;have q1:=Y ac (ca+i*2+1);rw[a1]at q1;have dd:=U ac;have dc:gp≠d:=Aa ac ae.out dC;have de:gp≠F:=Aa ac bd.out dC;have dk:F≠d:=Aa bd.out ae.out dC;have dh:b.heap.size≠d:=oM
   clear ac br a0 a1 a7 bz
   try
    have h0:(0:Int)=(i:Int):=Q.out;obtain rfl:i=0:=oM
    clear h0;clear cq cr;have df:¬m=0:=oM
    replace cn:(0:Int)<(m:Int):=oM
    simp only[Nat.zero_mul,Nat.add_zero]at q0 q1
   go_wp2_with (go_at_call 127;refine(CP _ _).mono ?_;rintro e s ⟨rfl,rfl⟩)
   go_quiet (fail)
   go_wp2_with fail
   go_quiet (fail)
   go_wp2;go_ret;have aj:=ae.out;refine⟨sM,none,some p,n,g,b.heap.size,j.out,l.out.1,l.out.2,lR,.inl ⟨rfl,η (η (η (η (η aj 1 _) 2 _) 3 _) 2 _) 1 _,?_⟩⟩;exact((((((I.out.mono (S':=[b.heap.size,d]) (by simp +contextual)).drewN _).sc _).sc _).sc _).sc _ |>.sc _ |>.drewN _)):Fz bx hw:=h
def Yn:Fz 0 0:=IB
