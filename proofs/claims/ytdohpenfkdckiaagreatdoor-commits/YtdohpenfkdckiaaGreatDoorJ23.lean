import Derived.Test.YtdohpenfkdckiaaGreatDoorJ18
import Derived.Test.YtdohpenfkdckiaaGreatDoorJ21
import Derived.Test.YtdohpenfkdckiaaGreatDoorJ22
import Derived.Test.YtdohpenfkdckiaaGreatDoorRows
import Derived.ChangeSame
import Derived.ChangeVars
import Derived.JoinedOf
import Derived.RowKit
import Derived.LaidLaws
import Derived.LaidHandle
import Derived.Deep.Slices
import Derived.Stop.Joined
import Derived.Lay
set_option linter.all false
set_option maxRecDepth 100000
set_option maxHeartbeats 20000000
namespace Go.Proofs.YtdohpenfkdckiaaGreatDoor.Gw
open Go.Proofs.Tryz
open Go.ChangeShapes Go.WideShapes Go.RowKit Go.Deep
theorem zX8:prog.cellsOf 66=7:=kR
theorem jA0:prog.cellsOf 3=1:=kR
theorem jA1:prog.cellsOf 9=1:=kR
section
variable {H:Type} {enc:TypeId × Value→H}
theorem zI8{n:Int}(h:(Lit.int .i64 n).wf=true):-9223372036854775808<=n/\n<=9223372036854775807:=by
 simp[Lit.wf,IntKind.min,IntKind.max,IntKind.bits,IntKind.signed] at h;omega
theorem kE9{W}{J:Nat->Bool}{z:Bool}{n:Nat}{cs:List Value}{x:DataW H × List MemPlace}(h:DataW.trod enc prog W 0 J z n 66 cs=some x):∃ o:SOp,SFits o/\cs=o.cells:=by
 obtain⟨xs,k,L,M,t,A,a⟩:=DataW.trod_struct underlying66 h;rw[zX8] at t
 match xs,A,cs,t with
 | [y0,y1,y2,y3,y4,y5,y6],_,[v0,v1,v2,v3,v4,v5,v6],_=>
  have j:=a 0 _ rfl;have l:=a 1 _ rfl;have m:=a 2 _ rfl;have p:=a 3 _ rfl;have q:=a 4 _ rfl;have r:=a 5 _ rfl;have s:=a 6 _ rfl;simp[jA0,jA1] at j l m p q r s;obtain⟨B,b,_,K⟩:=DataW.trod_int underlying3 j;obtain⟨C,c,_,u⟩:=DataW.trod_int underlying3 l;obtain⟨D,d,_,v⟩:=DataW.trod_int underlying3 m;obtain⟨E,e,_,w⟩:=DataW.trod_int underlying3 p;obtain⟨F,f,_,y⟩:=DataW.trod_int underlying3 q;obtain⟨G,g,_⟩:=DataW.trod_string underlying9 r;obtain⟨I,i,_⟩:=DataW.trod_string underlying9 s;simp only[List.cons.injEq,and_true] at b c d e f g i;subst b c d e f g i;exact⟨⟨B,C,D,E,F,G,I⟩,⟨zI8 u,zI8 v,zI8 w,zI8 y⟩,rfl⟩
theorem kF0{W}{fuel:Nat}{c0}{x:DataW H × List MemPlace}(h:DataW.trod enc prog W 0 (λ_=>true) true fuel 22 [c0]=some x):
  ∃ p n cap f,c0=.slice p n cap/\Script W p n f/\∀ i,i<n->SFits (f i):=by
 rcases open_slice underlying22 h with⟨d,_⟩|⟨a,s,cap,m,k,D,E,d,_,G,_,y,_,r⟩
 .simp only[List.cons.injEq,and_true] at d;exact⟨none,0,0,λ_=>⟨0,0,0,0,0,⟨#[]⟩,⟨#[]⟩⟩,d,λh=>absurd h oM,λi g=>absurd g oM⟩
 .simp only[List.cons.injEq,and_true] at d;simp only[if_true] at y;rw[zX8] at r
  haveI:Inhabited SOp:=⟨⟨0,0,0,0,0,⟨#[]⟩,⟨#[]⟩⟩⟩
  obtain⟨f,q⟩:=choose_lt (n:=s) (p:=λi (o:SOp)=>SFits o/\∀ c,c<7->W.cell? ((a.add (i*7)).add c)=o.cells[c]?) (λi g=>by
   obtain⟨F,j,u⟩:=r i oM;obtain⟨_,I,w⟩:=World.cells?_some j;obtain⟨o,A,rfl⟩:=kE9 u;exact⟨o,A,w⟩)
  refine⟨some a,s,cap,f,d,λz=>?_,λi g=>(q i g).1⟩;obtain⟨b,t,C⟩:=a;have l:=(q 0 z).2 0 dC;have B:C=none:=by simpa [Addr.add] using World.cell?_spot (v:=.int .i64 (f 0).k) l
  subst B;refine⟨b,t,rfl,?_,λi g c d=>?_⟩
  .have j:W.cell? ⟨b,t,none⟩=some (ϊ (f 0).k)  :=by
    have e:(f 0).cells[0]?=some (ϊ (f 0).k):=rfl;rw[e] at l;simpa [Addr.add] using l
   unfold World.cell? at j
   cases hb:W.heap[b]? with
   | none=>simp[hb] at j
   | some o=>exact ζ hb
  .have:=(q i g).2 c d;rw[qG4,qG4] at this;exact this
end
theorem xE9:laidOutB prog=true:=kR
theorem kK2:ownKnob prog.godebug=none:=kR
theorem kJ9:prog.globalNamed "errors.errorType"=some 0:=kR
theorem kK3:(prog.cutTypes.find? (·.1 == "internal/reflectlite.rtype")).map (·.2)=some 220:=kR
theorem kK1:((List.range 413).filter λt=>prog.rowNamed t [101,114,114,111,114])=[38]:=kR
theorem kK4:prog.types.size=413:=kR
end Go.Proofs.YtdohpenfkdckiaaGreatDoor.Gw
namespace Go.Proofs.YtdohpenfkdckiaaGreatDoor
open Go.Proofs.Tryz
open Go.RowKit
theorem xA6(p:Bool)(B tb A n C:Nat)(cache)(o i:Int)(k:KF)(f:TF)(ps)(r:Option Int)(S)(R:World->Prop)(w)(b:LkIn w B tb A n C cache o i k f ps)(I:ProgS w S)(F:A ∉ S)(N:(f.dn=true/\r=some 5)\/(f.dn=false/\r=none/\(p=false\/f.wr=false)))(M:Calls prog (if p then 31 else 36) #[.pointer (some ⟨f.x,0,none⟩)] w λe h=>∃ v,e=.returned v/\ErrV h v r/\R h/\Kp S w h):
  Calls prog 135 #[.pointer (some ⟨B,0,none⟩),.pointer (some ⟨tb,0,none⟩),.bool p] w λe h=>e=.returned (.bool true)/\((f.dn=true/\qS6 R S w h)\/(f.dn=false/\zU6 f tb R S w h)):=by
 have ac:=ζ b.hB;have ae:=ζ b.hT;have aa:=ζ b.hA;have a:=hid b;have s:=hid I;have W:=hid F;have G:=b.hB;have K:=b.hT;have P:=b.kA;have x:=hid M;have X:=hid N;have c:=ξ G 0;simp only[kob,zG,zH,zI] at c;have T:=ξ K 0;simp only[tob,zG,zH,zI] at T;rw[P] at c;clear b I G K P M F N;cases p<;>(
  simp only[Bool.false_eq_true,if_true,if_false] at x;go_enter func135,ntmps135;go_wp2_with fail;refine (qK6 A n C cache o i w a.hA).mono ?_;rintro e V ⟨rfl,rfl⟩;go_wp2_with fail;refine (zD6 A n C cache o i V a.hA).mono ?_;rintro e V ⟨rfl,rfl⟩;go_wp2_with fail;refine (show Calls _ _ _ _ _ from x).mono ?_;rintro e w1 ⟨v,rfl,Q,J,d⟩;have H:=s.out.stay d a.hB dC;have L:=s.out.stay d a.hT dC;have D:=d.heap a.hA W.out;have O:=s.out.g0 d a.g0 oM;have m:=hid (And.intro J d);clear c T J;go_wp2_with fail;refine (qJ7 v r w1 O Q).mono ?_;rintro e u ⟨rfl,j⟩;have q:=j.hp H;have g:=j.hp L;have E:=j.hp D;have ad:=ζ g;have ab:=ζ q;have c:=ξ q 0;have z:=ξ q 10;have U:=ξ g 2;have t:=ξ g 3;have f3:=φ g 3;simp only[kob,tob,zG,zH,zI] at c z U t;rw[a.out.po] at z;rw[a.out.kA] at c;have Y:=hid g;have y:=hid j;clear H L O d j q Q D g
  go_wp2_with (go_at_call 127;refine (qH6 _ _).mono ?_;rintro e u ⟨rfl,rfl⟩)
  refine (zD6 A n C cache o i u E).mono ?_;rintro e u ⟨rfl,rfl⟩;clear E;have af:wrap64 (i-i)=0:=by rw[Int.sub_self];simp only[wrap64];omega
  rcases X with⟨l,rfl⟩|⟨l,rfl,Z⟩
  .rw[l] at t;go_wp2;go_ret;exact⟨sM,.inl ⟨l,w1,m.1,m.2,y⟩⟩
  .rw[l] at t
   try rw[show f.wr=false by simpa using Z] at U
   go_wp2;go_ret;exact⟨sM,.inr ⟨l,w1,m.1,m.2,(y.mono sM).sc _,μ Y 3 _⟩⟩)
theorem jK5(B tb A n C:Nat)(cache)(ag o:Int)(k:KF)(f:TF)(tbs)(H:List (TF × Nat))(ps)(S)(R:Option Int->World->Prop)(w)(g:ChIn w B tb A n C cache ag o k f tbs H ps)(hP:ProgS w S)(ba:f.dn=false)(bq:f.wr=true)(bp:k.wild=false)(cs:0<=o)(ct:o<=1000000000)(co:0<=k.com)(cp:k.com<=1000000)
  (a5:TFs w k tbs H) (hn:tbs.length<=100000) (hl:∀ x∈H,x.2<=100000) (cb) (J cc:Nat) (hc:k.c=.slice cb J cc) (a9:J<=100000) (be:k.n<=100000)
  (base m u a cw:Nat) (pm pw) (bi:k.may=.slice pm m u) (bn:k.were=.slice pw a cw) (hm:RowM w base (.slice pm m u) m) (hk:RowM w base (.slice pw a cw) a) (bg:m<=100000) (bc:a<=100000)
  (a8:Calls prog 31 #[.pointer (some ⟨f.x,0,none⟩)] w λe j=>∃ v l ah E,e=.returned v/\ErrV j v l/\R l j/\Kp S w j/\j.heap[A]?=some (qG6 n C cache ah E)/\o<=E/\E-o<=12*f.chg+2/\(l=none\/(l=some 3/\qR8 k J f.most 0 (qG5 k.com H)=false))):
  Calls prog 135 #[.pointer (some ⟨B,0,none⟩),.pointer (some ⟨tb,0,none⟩),.bool true] w λe j=>e=.returned (.bool true)/\∃ l w1,R l w1/\Kp S w w1/\j.heap[tb]?=some (tob { f with dn:=true })/\
   ((l=some 3/\Kp [tb] w1 j)\/(l=none/\Kp [tb,B] w1 j/\∃ z D y,j.heap[B]?=some (kob { k with may:=.slice (some ⟨z,0,none⟩) 1 1,emp:=false,were:=.slice (some ⟨D,0,none⟩) (a+1) y,c:=f.v,com:=k.com+1 })/\j.ownsRow w1.heap.size 126 1 (.slice (some ⟨z,0,none⟩) 1 1) 1 [f.v]/\RowM j w1.heap.size (.slice (some ⟨D,0,none⟩) (a+1) y) (a+1))):=by
 have ch:=ζ g.hB;have ck:=ζ g.hT;have ca:=ζ g.hA;have d:=hid g;have F:=hid hP;have hB:=g.hB;have hT:=g.hT;have bd:=g.kA;have an:=hid a8;have I:=hid (show TFs w k tbs H/\tbs.length<=100000/\(∀ x∈H,x.2<=100000)/\k.c=.slice cb J cc/\J<=100000/\k.n<=100000 from⟨a5,hn,hl,hc,a9,be⟩);have r:=hid (show k.may=.slice pm m u/\k.were=.slice pw a cw/\RowM w base (.slice pm m u) m/\RowM w base (.slice pw a cw) a/\m<=100000/\a<=100000 from⟨bi,bn,hm,hk,bg,bc⟩);obtain⟨U,Q,al⟩:=g.sp.form;obtain⟨T,bk⟩:=eX ps.length;rw[<-bk] at al;have HV:=hid al;have W:=hid (show B≠tb from ω hB hT dC);have cq:=g.c0;have cr:=g.c1;have G:=ξ hB 0;simp only[kob,zG,zH,zI] at G;have t0:=ξ hT 0;simp only[tob,zG,zH,zI] at t0;rw[bd] at G;clear g hP hB hT bd a8 a5 hn hl hc a9 be hm hk bi bn bg bc al bk;go_enter func135,ntmps135;go_wp2_with fail;refine (qK6 A n C cache ag o w d.hA).mono ?_;rintro e w0 ⟨rfl,rfl⟩;go_wp2_with fail;refine (zD6 A n C cache ag o w0 d.hA).mono ?_;rintro e w0 ⟨rfl,rfl⟩;go_wp2_with fail;refine (show Calls _ _ _ _ _ from an).mono ?_;rintro e w1 ⟨v,l,ah,E,rfl,hv,hR,Z,ax,b6,b7,bf⟩;have az:=F.out.stay Z d.hB dC;have a3:=F.out.stay Z d.hT dC;have bb:=F.out.g0 Z d.g0 oM;have s:=hid (And.intro hR Z);have bu:=hid bf;clear G t0 hR bf an;go_wp2_with fail;refine (qJ7 v l w1 bb hv).mono ?_;rintro e w2 ⟨rfl,M⟩;have L:=M.hp az;have N:=M.hp a3;have ay:=M.hp ax;have a6:=(F.tfs s.2 I.1).keep0 M;have ci:=ζ N;have cd:=ζ L;have G:=ξ L 0;have b5:=ξ L 5;have af:=ξ L 10;simp only[kob,zG,zH,zI] at G b5 af;have t2:=ξ N 2;have P:=ξ N 3;have t4:=ξ N 4;simp only[tob,zG,zH,zI] at t2 P t4;rw[d.out.po] at af;rw[bp] at b5;rw[d.out.kA] at G;rw[ba] at P;rw[bq] at t2;clear ba bq bp;have av:=hid N;have am:=hid L;have bt:=hid M;have bx:=hid a6;clear az a3 bb Z M L hv ax N a6
 go_wp2_with (go_at_call 127;refine (qH6 _ _).mono ?_;rintro e w2 ⟨rfl,rfl⟩)
 refine (zD6 A n C cache ah E w2 ay).mono ?_;rintro e w2 ⟨rfl,rfl⟩;clear ay;have b9:wrap64 (E-o)=E-o:=by simp only[wrap64];omega
 have b3:¬12*f.chg+2<E-o:=oM
 go_wp2_with fail;refine (xI4 B tb k f tbs H 0 w2 am av bx I.2.1 I.2.2.1 cb J cc I.2.2.2.1 I.2.2.2.2.1 d.m0 d.m1 oM oM I.2.2.2.2.2).mono ?_;rintro e w3 ⟨rfl,ac⟩;have O:=ac.hp av.out;have Y:=ac.hp am.out;have cj:=ζ O;have ce:=ζ Y;have a2:=bt.out.tr ac;clear b9 b3 b6 b7 G b5 af t2 P t4;have t1:=ξ O 1;have P:=ξ O 3;simp only[tob,zG,zH,zI] at t1 P;have f3:=φ O 3;have b8:=ξ Y;simp only[kob,zG,zH,zI] at b8;have b2:=φ Y;rw[HV.out] at t1;have cn:=W.out;have aw:=hid O;have bs:=hid Y;have ao:=hid a2;clear O Y a2 ac;rcases bu with rfl|⟨rfl,b4⟩
 .simp only[Option.getD_none];go_wp2_with fail;obtain⟨b,bl,a4,ai,a1⟩:∃ b,b=((w3.setCell ⟨tb,3,none⟩ (.bool true)).setCell ⟨B,8,none⟩ (.slice U T Q)).setCell ⟨B,9,none⟩ (ϊ (k.com+1))/\b.heap[tb]?=some (tob { f with dn:=true })/\b.heap[B]?=some (kob { k with c:=.slice U T Q,com:=k.com+1 })/\Kp [tb,B] w1 b:=
   ⟨_,rfl,(qB1 W.symm _ _).trans ((qB1 W.symm _ _).trans (μ aw 3 _)),μ (μ ((qB1 W _ _).trans bs) 8 _) 9 _,(((ao.mono sM).sc _).sc _).sc _⟩
  rw[<-bl];clear bl t1 P f3 b8 b2;have bw:=hid a4;have ad:=hid a1;have br:=hid (show Apart w1 [tb,B] 126 from λi hi=>by
   simp only[mC,lN,or_false] at hi;rcases hi with rfl|rfl
   .exact⟨_,_,_,F.stay s.2 d.hT dC,dC⟩
   .exact⟨_,_,_,F.stay s.2 d.hB dC,dC⟩)
  have ak:∀ v n,RowM w0 base v n->RowM b.drew base v n:=λv n h=>((h.kp s.2 (λq c t fr e hq et=>by have:=(F q hq).2 _ _ _ e;rw[et] at this;revert this;decide)).keep ad br).keep ((Kp.refl [] _).drew) (by intro q hq;cases hq);have aq:=hid (show RowM b.drew base (.slice pm m u) m/\RowM b.drew base (.slice pw a cw) a from⟨ak _ _ r.2.2.1,ak _ _ r.2.2.2.1⟩);clear a4 a1 ak;have V:=hid ai;have cf:B<b.drew.heap.size:=ζ ai;clear ai;refine shr (α:=Prop) (R:=λX=>X) ?_;apply Exists.intro;apply And.intro
  rotate_left
  .intro HREST;refine wp_region_any kR ?_;change wpAny _ _ _ _ _ _ _ (World.drew _);refine zu 0 (ϖ B) ?_;refine zu 1 (ϖ B) ?_;refine zu 2 (ϖ B) ?_;refine zu 3 (.pointer (some ⟨B,1,none⟩)) ?_;refine zu 5 (ϖ B) ?_;refine zu 6 (ϖ B) ?_;refine zu 7 (.pointer (some ⟨B,8,none⟩)) ?_;refine wpAny_ready (rs:=[4,8]) kR sM ?_;refine AllReady.cons rfl (λK hK=>?_) (AllReady.cons rfl (λK hK=>?_) AllReady.nil)
   .refine qF3 rfl (qO3 (t:=123) rfl kR 6 kR B 1 rfl (show b.drew.heap[B]?=_ from V) (by simp[kob]) (show _=#[ϊ k.n,.slice pm m u,.bool k.emp,.slice pw a cw,.bool k.wild,.bool k.bit] from by simp only[kob];rw[r.out.1,r.out.2.1];rfl)) ?_;refine hK _ _ ?_
    try simp only[zZ]
    refine zQ 8 λK hK=>?_;refine qF3 rfl (qO3 (t:=126) rfl kR 1 kR B 8 rfl (show b.drew.heap[B]?=_ from V) (by simp[kob]) (show _=#[.slice U T Q] from rfl)) ?_;refine hK _ _ ?_
    try simp only[zZ]
    exact HREST
   .refine qF3 rfl (qO3 (t:=126) rfl kR 1 kR B 8 rfl (show b.drew.heap[B]?=_ from V) (by simp[kob]) (show _=#[.slice U T Q] from rfl)) ?_;refine hK _ _ ?_
    try simp only[zZ]
    refine zQ 4 λK hK=>?_;refine qF3 rfl (qO3 (t:=123) rfl kR 6 kR B 1 rfl (show b.drew.heap[B]?=_ from V) (by simp[kob]) (show _=#[ϊ k.n,.slice pm m u,.bool k.emp,.slice pw a cw,.bool k.wild,.bool k.bit] from by simp only[kob];rw[r.out.1,r.out.2.1];rfl)) ?_;refine hK _ _ ?_
    try simp only[zZ]
    exact HREST
  refine zQ 9 λK hK=>?_;go_simp;refine (zR2 base m u a cw pm pw k.n k.emp k.wild k.bit U T Q b.drew aq.1 aq.2 r.2.2.2.2.1 r.2.2.2.2.2).mono ?_;rintro e w6 ⟨z,D,y,rfl,bh,bo,aj⟩;have ab:=aj.heap (k:=B) V sM;have au:=hid ab;have ap:=hid aj;have ar:=hid (And.intro bh bo);have cg:=ζ ab;refine hK _ _ ?_;clear hK K aj bh bo
  try simp only[zZ]
  refine zu 10 (ϖ B) ?_;refine zu 11 (.pointer (some ⟨B,1,none⟩)) ?_;have b1:=ξ ab;simp only[kob,zG,zH,zI] at b1;have bz:=φ ab;clear ab;refine zQ 12 λK hK=>?_;go_simp;refine hK _ _ ?_;refine wpAny_done kR ?_ _;obtain⟨p,bm,a0,aa⟩:∃ p,p=(((((w6.setCell ⟨B,1,none⟩ (ϊ k.n)).setCell ⟨B,2,none⟩ (.slice (some ⟨z,0,none⟩) 1 1)).setCell ⟨B,3,none⟩ (.bool false)).setCell ⟨B,4,none⟩ (.slice (some ⟨D,0,none⟩) (a+1) y)).setCell ⟨B,5,none⟩ (.bool k.wild)).setCell ⟨B,6,none⟩ (.bool k.bit)/\p.heap[B]?=some (kob { k with may:=.slice (some ⟨z,0,none⟩) 1 1,emp:=false,were:=.slice (some ⟨D,0,none⟩) (a+1) y,c:=.slice U T Q,com:=k.com+1 })/\Kp [B] w6 p:=
   ⟨_,rfl,μ (μ (μ (μ (μ (μ au 1 _) 2 _) 3 _) 4 _) 5 _) 6 _,(((((((Kp.refl [B] w6).sc _).sc _).sc _).sc _).sc _).sc _)⟩
  rw[<-bm];have ae:=hid (show p.heap[B]?=some (kob { k with may:=.slice (some ⟨z,0,none⟩) 1 1,emp:=false,were:=.slice (some ⟨D,0,none⟩) (a+1) y,c:=f.v,com:=k.com+1 })/\Kp [tb,B] w1 p/\p.heap[tb]?=some (tob { f with dn:=true }) from⟨by rw[HV.out];exact a0,((ad.drew).tr ap).tr aa,aa.heap (ap.heap (k:=tb) bw sM) (by simpa using W.symm)⟩);have bv:=hid (show p.ownsRow w1.heap.size 126 1 (.slice (some ⟨z,0,none⟩) 1 1) 1 [f.v]/\RowM p w1.heap.size (.slice (some ⟨D,0,none⟩) (a+1) y) (a+1) from by
   have a7:∀ q c t fr,w6.heap[q]?=some (.cells c t fr)->q∈[B]->t≠126:=λq c t fr e hq et=>by
    rw[mS hq,au.out] at e;cases e
    revert et
    decide
   have bj:w1.heap.size<=b.drew.heap.size:=ad.out.size;rw[HV.out];exact⟨qF1 (qK4 ar.1 bj) aa a7,(ar.2.le bj).kp aa a7⟩)
  clear bm a0 aa b1 bz;go_wp2;go_ret;exact⟨rfl,none,w1,s.1,s.2,ae.2.2,.inr ⟨rfl,ae.2.1,z,D,y,ae.1,bv⟩⟩
 .rw[b4];simp only[Option.getD_some];go_wp2;go_ret;exact⟨sM,some 3,w1,s.1,s.2,μ aw 3 (.bool true),.inl ⟨rfl,(ao.mono sM).sc _⟩⟩
end Go.Proofs.YtdohpenfkdckiaaGreatDoor
