import Derived.Test.YtdohpenfkdckiaaGreatDoorJ10
set_option linter.all false
set_option maxRecDepth 100000
set_option maxHeartbeats 20000000
namespace Go.Proofs.YtdohpenfkdckiaaGreatDoor
open Go.Proofs.Tryz
open Go.RowKit
theorem jN1(E:Env)(n:Nat)(g:Nat)(cap:Array Value)(f:ByteArray->Bool)(bo:Up f)(de:∀ (args:Array Value) (W:World),Sem.run prog (callFunc g args) W=.ok (.enter g args) W)
  (ih:∀ (r:HL) (l:Lnk (Tn n)) (q:Nat) (w:World),E.Dev w->RN E.O n w q l.sub->Good n l.key l.sub->1<=cnt n l.sub->Asks E w g cap f->Calls prog 93 #[τ E.V r,.pointer (some ⟨q,0,none⟩),.func (.func g) #[] cap] w λe P=>e=.returned (qC7 ((cont n l.sub).find? λq=>f q.k))/\E.To w P)
  (r:HL) (l:Lnk (Tn (n+1))) (q:Nat) (w:World) (hd:E.Dev w) (hN:RN E.O (n+1) w q l.sub) (hg:Good (n+1) l.key l.sub) (cm:1<=cnt (n+1) l.sub) (ha:Asks E w g cap f):
  Calls prog 93 #[τ E.V r,.pointer (some ⟨q,0,none⟩),.func (.func g) #[] cap] w λe P=>e=.returned (qC7 ((cont (n+1) l.sub).find? λq=>f q.k))/\E.To w P:=by
 have d3:=zM;have ch:=(qK0 (n+1) l.key l.sub hg).1;have cn:1<=(η l.sub).length:=cm;have ba:Hid ((cont (n+1) l.sub).find? (λq=>f q.k)=(((η l.sub).drop ((η l.sub).findIdx (λl=>f l.key)-1)).flatMap λl=>cont n l.sub).find? (λq=>f q.k)):=jN5 bo hg.row;have br:Hid (∀ z∈η l.sub,Good n z.key z.sub/\1<=cnt n z.sub):=λz hz=>⟨(hg.all z hz).1,by have:=(hg.all z hz).2.1;omega⟩;have bu:Hid ((η l.sub).Pairwise (qQ2 n)):=hg.pair;have c7:=zh bo;have o:=zh hd;have HA:=zh ha;have a8:=ih;clear hd bo ha hg cm ih;obtain⟨vl,ar,b,bn,ad⟩:=hN;obtain⟨ls,cj⟩:=eY (η l.sub);rw[cj] at ad ch cn ba br bu;clear cj;have bq:=zh ad.1;have dy:b.length<=10000:=by rw[ad.1];exact ch
 have dg:1<=b.length:=by rw[ad.1];exact cn
 obtain⟨Q,C,H,cur,fr,rfl,dx,cr,ci⟩:=bn.link dg;obtain⟨N,ck⟩:∃ N:Int,((n+1:Nat):Int)=N:=⟨_,rfl⟩;rw[ck] at ar;have bt:Hid (((n:Nat):Int)<N):=by show _<_;omega
 have d2:¬N=0:=oM
 have dp:=ζ ar;have dq:q<w.heap.size+1:=oM
 have dr:q<w.heap.size+1+1:=oM
 have q0:=ξ ar 0;simp only[ι,zG,zH,zI] at q0;have bp:=zh ad;have b1:=zh bn;have cy:=zh ci;clear ad bn ci ck;rw[τ];go_enter func93,ntmps93;go_wp2_with fail;obtain⟨w1,cu,b4,bd,b5,ac,d5⟩:=alD w (.cells (ϟ E.V r) 89) (.cells #[.func (.func g) #[] cap] 92) (.cells ϝ 42)
 rw[<-cu];clear cu q0 dp dq dr;have ax:=Env.To.of0 o ac;have hq:=ac.hp ar;have bm:=b1.out.keep0 ac;have cq:=ac.hp cr;have hb:Both (RL E.O n w1) b ls:=bp.out.mono λx y hr=>RL.keep hr ac (Apt.nil _ _);clear ar b1 cr bp;have HB:=zh hb;have dt:=zh bm;have cl:b.findIdx (λp=>f p.key)=ls.findIdx (λp=>f p.key):=by
  have e:=hb.map_eq λx y hr=>hr.1;have h1:∀ (l:List HL),l.findIdx (λl=>f l.key)=(l.map HL.key).findIdx f:=λl=>by rw[List.findIdx_map];rfl
  have h2:∀ (l:List (Lnk (Tn n))),l.findIdx (λl=>f l.key)=(l.map Lnk.key).findIdx f:=λl=>by rw[List.findIdx_map];rfl
  rw[h1,h2,e]
 have cz:Hid (∀ i j (hi:i<b.length) (hj:j<b.length),i<=j->(!f b[j].key)=true->(!f b[i].key)=true):=by
  show ∀ i j (hi:i<b.length) (hj:j<b.length),_;intro i j hi hj dz hp;by_cases e:i=j
  .subst e;exact hp
  .have hk:=(zB0 hb bu).at hi hj oM;by_cases e2:f b[i].key=true
   .rw[c7.out _ _ hk e2] at hp;cases hp
   .simpa using e2
 obtain⟨i,bk⟩:∃ i,ls.findIdx (λp=>f p.key)-1=i:=⟨_,rfl⟩;have d0:i<b.length:=by
  have:ls.findIdx (λp=>f p.key)<=ls.length:=fL;have:=hb.1;omega
 have c5:Hid (∀ W,Kp [] w1 W->Ω 148 #[.slice (some ⟨Q,C,none⟩) b.length H,.func (.func 149) #[] #[ϖ (w.heap.size+1)]] W λe P=>e=ϱ (ϊ (i:Nat))/\Kp [] W P):=by
  show ∀ W,_;intro W be;have:=zO0 149 #[ϖ (w.heap.size+1)] (.slice (some ⟨Q,C,none⟩) b.length H) b (λp=>!f p.key) W (bm.keep0 be) oM cz (λargs W=>by simp[go_sem,func149])
   (λW2 ai j hj=>jM7 g (w.heap.size+1) cap b[j] (f b[j].key) W2 ((be.tr ai).hp bd) de (λW' hK'=>HA W' _ ((ax.tail (be.tr ai)).tail hK')))
  simp only[Bool.not_not] at this;rw[cl,bk] at this;exact this
 have bs:=zh bk;clear ac hb bm cl bk;have h:=hq;refine wp_region_held_drew (S:=λW=>Ϙ W q (ι N (.slice none 0 0) (.slice (some ⟨Q,C,none⟩) b.length H))) kR h (λ_=>?_);refine zP 0 q 0 h ?_;refine zP 1 q 0 h ?_;refine zP 2 q 2 h ?_;refine zV 3 (.slice (some ⟨Q,C,none⟩) b.length H) rfl (λW I=>by have c:=ξ I 2;simp[ι] at c;clear I;go_simp) h ?_;refine zP 4 q 0 h ?_;refine zP 5 q 0 h ?_;refine zP 6 q 2 h ?_;refine zV 7 (.slice (some ⟨Q,C,none⟩) b.length H) rfl (λW I=>by have c:=ξ I 2;simp[ι] at c;clear I;go_simp) h ?_;refine zU 8 (.func (.func 149) #[] #[ϖ (w.heap.size+1)]) h ?_;refine zU 12 (ϊ 0) h ?_;refine zq 9 λK hK=>?_;go_simp;refine (c5 w1.drew (kF.drew)).mono ?_;rintro e w2 ⟨rfl,ai⟩;have Z:Kp [] w1 w2:=((Kp.refl _ w1).drew).tr ai;have al:=Z.hp h;refine hK.out _ _ al (λ_=>?_);clear hK K ai
 try simp only[zZ]
 have dh:¬H=i:=oM
 have dl:(i:Int)<=(b.length:Int):=oM
 have dk:(i:Int)<=(H:Int):=oM
 have dn:(b.length:Int)<=(H:Int):=oM
 refine zU 10 (.slice (some ⟨Q,C+i*4,none⟩) (b.length-i) (H-i)) al ?_;obtain⟨m,u⟩:=eX (b.length-i);rw[<-u];refine zU 11 (ϊ m) al ?_;refine zd ?_;have ca:=ax.tail Z;have HM:=zh u;have bw:=zh cq;have au:=zh ca;have b3:=zh ax;have cx:=zh (Z.hp b4);have c4:=zh (Z.hp bd);have c6:=zh (Z.hp b5);have d4:i+m=b.length:=oM
 have a9:=zh Z;have bv:=zh al;clear al h ca ax b4 bd b5 cq Z hq u dh dl dk dn;go_wp2
 go_loopw [52] (λs wr=>∃ (j:Nat),j<=m/\s=.int .i64 j/\Hid ((((ls.drop i).take j).flatMap λl=>cont n l.sub).find? (λq=>f q.k)=none)/\Hid (E.To w wr)/\Hid (E.To w2 wr)/\Ϙ wr w.heap.size (.cells (ϟ E.V r) 89)/\wr.heap[w.heap.size+1]?=some (.cells #[.func (.func g) #[] cap] 92)/\wr.heap[w.heap.size+1+1]?=some (.cells ϝ 42)) (λs _=>m-(intOf s).toNat)
 case atStart=>exact⟨0,zL _,rfl,(by simp:_=none),au,⟨au.dev,Kp.refl _ _⟩,cx,c4,c6⟩
 case round=>
  obtain⟨j,hj,rfl,bl,ce,ao,ag,ah,U⟩:=hrel;by_cases d1:j<m
  .have dj:(j:Int)<(m:Int):=oM
   have di:i+j<ls.length:=by have:=bq.out;omega
   obtain⟨z,hz⟩:∃ z,ls[i+j]?=some z:=⟨_,gQ di⟩;obtain⟨x,_,cs,c0,c1,c2,c3⟩:=qR9 HB cy hz;have ae:=ao.out.kp.heap (a9.hp bw) (λu=>E.apt w2 au.dev _ u _ _ _ (a9.hp bw) dC);rw[show C+(i+j)*4=C+i*4+j*4 by omega] at c0 c1 c2 c3;have a0:=ξ ae (C+i*4+j*4);rw[c0] at a0;have a1:=ξ ae (C+i*4+j*4+1);rw[c1] at a1;have a2:=ξ ae (C+i*4+j*4+2);rw[c2] at a2;have a3:=ξ ae (C+i*4+j*4+3);rw[c3] at a3;have df:=ζ ae;have c8:=ζ ag;have c9:=ζ ah;have b8:=ζ U;have t0:=ξ ag;have f0:=ϻ ah 0;have bz:=zh cs;have HZ:=zh hz;have ab:=zh (br z (mO hz));have co:=ao.out.kp.heap bv (λu=>E.apt w2 au.dev _ u _ _ _ bv dC);have b9:=(Env.To.of0 b3.dev a9).trans ao.out;have b0:=zh (Env.RL bz b3.dev b9);have ds:=ao.out.kp.size;have ct:((ls.drop i).take (j+1)).flatMap (λl=>cont n l.sub)=((ls.drop i).take j).flatMap (λl=>cont n l.sub)++cont n z.sub:=by
    have hd:(ls.drop i)[j]?=some z:=by rw[List.getElem?_drop];exact HZ
    obtain⟨dm,he⟩:=gS hd;rw[tA dm,he,fA];simp
   have b2:=zh ct;clear cs hz ae b9 c0 c1 c2 c3 ct;go_wp2_with fail;clear a0 a1 a2 a3 df t0 f0 c8 c9;obtain⟨G,cv,a6,R⟩:=alA wr (.cells (ϡ x) 87);rw[<-cv];clear cv;obtain⟨X,cf⟩:=eY wr.heap.size;rw[cf] at a6 ds b8 |-;have cg:=ζ a6;have a4:=ce.out.tail R;have cb:=ao.out.tail R;have b6:=R.hp U;have b7:=RL.keep b0 R (Apt.nil _ _);have h:=n4 (R.hp ag) (R.hp ah) a6 (R.hp co);clear R a6 ag ah U co cf b0 bz;obtain⟨fk,fv,fb,L⟩:∃ fk fv fb,qC7 ((cont n z.sub).find? λq=>f q.k)=.tuple #[.agg #[.string fk,.string fv],.bool fb]:=by
    cases (cont n z.sub).find? λq=>f q.k with
    | none=>exact⟨_,_,_,rfl⟩
    | some p=>exact⟨_,_,_,rfl⟩
   have Y:=zh L;clear L;refine wp_region_held_drew (S:=λW=>Ϙ W w.heap.size (.cells (ϟ E.V r) 89)/\W.heap[w.heap.size+1]?=some (.cells #[.func (.func g) #[] cap] 92)/\Ϙ W X (.cells (ϡ x) 87)/\Ϙ W q (ι N (.slice none 0 0) (.slice (some ⟨Q,C,none⟩) b.length H))) kR h (λ_=>?_);refine zW 0 (.agg (ϟ E.V r)) h (·.1) ?_;refine zW 1 (.agg (ϟ E.V r)) h (·.1) ?_;refine zW 2 (.agg (ϡ x)) h (·.2.2.1) ?_;refine zP 3 q 0 h ?_;refine zP 4 q 0 h ?_;refine zP 5 q 0 h ?_;refine zV 6 (ϊ N) rfl (λW I=>by have c:=ξ I.2.2.2 0;simp[ι] at c;clear I;go_simp) h ?_;refine zV 8 (.func (.func g) #[] cap) rfl (λW I=>by have c:=ξ I.2.1 0;simp only[zG,zH] at c;clear I;go_simp) h ?_;have ap:=a4.tail (kF.drew);have bj:=cb.tail (kF.drew);have bi:G.drew.heap[w.heap.size+1+1]?=some (.cells ϝ 42):=b6;have J:Ϙ G.drew w.heap.size (.cells (ϟ E.V r) 89)/\G.drew.heap[w.heap.size+1]?=some (.cells #[.func (.func g) #[] cap] 92)/\Ϙ G.drew X (.cells (ϡ x) 87)/\Ϙ G.drew q (ι N (.slice none 0 0) (.slice (some ⟨Q,C,none⟩) b.length H)):=h;have bh:=RL.keep b7 ((Kp.refl [] _).drew) (Apt.nil _ _);have d6:X<G.drew.heap.size:=cg;clear a4 cb b6 b7;refine zr 7 13 (λK hK=>?_) λK hK=>?_
   focus
    go_simp;refine (qJ4 E n x r z N G.drew ap.dev bh bt).mono ?_;rintro e w4 ⟨q1,rfl,aa,a⟩;have O:=ap.trans a;have ay:=bj.trans a;have av:=a.new (k:=w.heap.size+1+1) o oM bi;have A:=n4 (a.new (k:=w.heap.size) o oM J.1) (a.new (k:=w.heap.size+1) o oM J.2.1) (a.new (k:=X) o oM J.2.2.1) (a.kp.heap (k:=q) J.2.2.2 (λu=>E.apt _ ap.dev _ u _ _ _ J.2.2.2 dC));refine zk hK A ?_
    refine zr 9 13 (λK hK=>?_) λK hK=>?_
    focus
     go_simp;refine (a8 r z q1 w4 O.dev aa ab.1 ab.2 (HA.to O)).mono ?_;rintro e w5 ⟨rfl,a⟩;rw[Y.out];have F:=O.trans a;have an:=ay.trans a;have aj:=a.new (k:=w.heap.size+1+1) o oM av;have t:=n4 (a.new (k:=w.heap.size) o oM A.1) (a.new (k:=w.heap.size+1) o oM A.2.1) (a.new (k:=X) o oM A.2.2.1) (a.kp.heap (k:=q) A.2.2.2 (λu=>E.apt _ O.dev _ u _ _ _ A.2.2.2 dC));refine zk hK t ?_
     refine zU 10 (.tuple #[.agg #[.string fk,.string fv],.bool fb]) t ?_;refine zU 11 (.agg #[.string fk,.string fv]) t ?_;refine zU 12 (.bool fb) t ?_;refine zq 13 λK hK=>?_;go_simp;obtain⟨w6,V,D,d⟩:=alA w5 (.cells ϝ 42);rw[<-V];clear V;have a5:=F.tail d;have az:=an.tail d;have aw:=d.hp aj;have B:=n4 (d.hp t.1) (d.hp t.2.1) (d.hp t.2.2.1) (d.hp t.2.2.2);refine zk hK B ?_
     have aq:=ζ t.2.2.1;generalize w5.heap.size=LB at D aq |-
    rotate_left
    focus
     go_simp;obtain⟨w5,V,bf,d⟩:=alA w4 (.cells ϝ 42);rw[<-V];clear V;have F:=O.tail d;have an:=ay.tail d;have aj:=d.hp av;have t:=n4 (d.hp A.1) (d.hp A.2.1) (d.hp A.2.2.1) (d.hp A.2.2.2);refine zk hK t ?_
     have aq:=ζ A.2.2.1;have da:=RN.keep d (Apt.nil _ _) n q1 _ aa;clear aa;have aa:=da;refine zq 9 λK hK=>?_;go_simp;refine (a8 r z q1 w5 F.dev aa ab.1 ab.2 (HA.to F)).mono ?_;rintro e w6 ⟨rfl,a⟩;rw[Y.out];have a5:=F.trans a;have az:=an.trans a;have aw:=a.new (k:=w.heap.size+1+1) o oM aj;have B:=n4 (a.new (k:=w.heap.size) o oM t.1) (a.new (k:=w.heap.size+1) o oM t.2.1) (a.new (k:=X) o oM t.2.2.1) (a.kp.heap (k:=q) t.2.2.2 (λu=>E.apt _ F.dev _ u _ _ _ t.2.2.2 dC));refine zk hK B ?_
     have D:=a.new o oM bf;refine zU 10 (.tuple #[.agg #[.string fk,.string fv],.bool fb]) B ?_;refine zU 11 (.agg #[.string fk,.string fv]) B ?_;refine zU 12 (.bool fb) B ?_;generalize w4.heap.size=LB at D aq |-
   rotate_left 2
   focus
    go_simp;obtain⟨w4,V,db,d⟩:∃ P,P=(G.alloc (.cells ϝ 42)).drew/\Ϙ P G.heap.size (.cells ϝ 42)/\Kp [] G.drew P:=⟨_,rfl,υ _ _,((Kp.refl _ G.drew).alloc _)⟩;rw[<-V];clear V;have O:=ap.tail d;have ay:=bj.tail d;have av:=d.hp bi;have A:=n4 (d.hp J.1) (d.hp J.2.1) (d.hp J.2.2.1) (d.hp J.2.2.2);refine zk hK A ?_
    have dc:=RL.keep bh d (Apt.nil _ _);refine zq 7 λK hK=>?_;go_simp;refine (qJ4 E n x r z N w4 O.dev dc bt).mono ?_;rintro e w5 ⟨q1,rfl,aa,a⟩;have F:=O.trans a;have an:=ay.trans a;have aj:=a.new (k:=w.heap.size+1+1) o oM av;have t:=n4 (a.new (k:=w.heap.size) o oM A.1) (a.new (k:=w.heap.size+1) o oM A.2.1) (a.new (k:=X) o oM A.2.2.1) (a.kp.heap (k:=q) A.2.2.2 (λu=>E.apt _ O.dev _ u _ _ _ A.2.2.2 dC));refine zk hK t ?_
    have bf:=a.new o oM db;refine zq 9 λK hK=>?_;go_simp;refine (a8 r z q1 w5 F.dev aa ab.1 ab.2 (HA.to F)).mono ?_;rintro e w6 ⟨rfl,a⟩;rw[Y.out];have a5:=F.trans a;have az:=an.trans a;have aw:=a.new (k:=w.heap.size+1+1) o oM aj;have B:=n4 (a.new (k:=w.heap.size) o oM t.1) (a.new (k:=w.heap.size+1) o oM t.2.1) (a.new (k:=X) o oM t.2.2.1) (a.kp.heap (k:=q) t.2.2.2 (λu=>E.apt _ F.dev _ u _ _ _ t.2.2.2 dC));refine zk hK B ?_
    have D:=a.new o oM bf;have aq:=cg;refine zU 10 (.tuple #[.agg #[.string fk,.string fv],.bool fb]) B ?_;refine zU 11 (.agg #[.string fk,.string fv]) B ?_;refine zU 12 (.bool fb) B ?_;generalize G.heap.size=LB at D aq |-
   all_goals
    have du:=ζ D;have z0:=ξ D;have bc:=φ D;refine zq 14 λK hK=>?_;go_simp;have M:=qI2 (.string fk) (.string fv) D;obtain⟨w7,cw,bg,T⟩:=gE M;rw[<-cw];clear cw M z0 bc;have cd:=a5.store' oM D dC T;have cc:=az.store' oM D dC T;have ak:=T.ho aw;have am:=n4 (T.ho B.1) (T.ho B.2.1) (T.ho B.2.2.1) (T.heap B.2.2.2 (by intro u;rw[mS u,D] at B;simp[ι] at B));refine zk hK am ?_
    refine zq 15 λK hK=>?_;go_simp;refine zk hK am ?_
    refine zd ?_;have bb:=zh (n2 cd cc);have af:=zh (n3 am.1 am.2.1 ak);have dv:=ζ bg;have dw:=ζ ak;have y0:=ξ bg;have z0:=ξ ak;have bc:=φ ak;clear am B D bg ak aw cd cc a5 az T h J bi ap bj bh
    cases hfd:(cont n z.sub).find? (λq=>f q.k) with
    | none=>
     have L:=Y.out;rw[hfd] at L;simp only[qC7,Value.tuple.injEq,Array.mk.injEq,List.cons.injEq,Value.agg.injEq,Value.string.injEq,Value.bool.injEq,and_true] at L;obtain⟨⟨rfl,rfl⟩,rfl⟩:=L;have a7:=zh hfd;clear hfd Y;go_wp2;refine⟨⟨j+1,oM,by go_num,?_,bb.1,bb.2,af.1,af.2.1,af.2.2⟩,by simp[intOf];omega⟩;show _=none;rw[b2.out,List.find?_append,bl.out,a7.out];rfl
    | some p=>
     have L:=Y.out;rw[hfd] at L;simp only[qC7,Value.tuple.injEq,Array.mk.injEq,List.cons.injEq,Value.agg.injEq,Value.string.injEq,Value.bool.injEq,and_true] at L;obtain⟨⟨rfl,rfl⟩,rfl⟩:=L;have a7:=zh hfd;clear hfd Y;go_wp2;have M:=qI2 (.string p.k) (.string p.v) af.2.2;have F:=bb.out.1.store' oM af.2.2 dC M.2;have t0:=ξ M.1 0;have t1:=ξ M.1 1;simp only[zG,zH,zI] at t0 t1;refine bodyPost_ret (v:=qC7 (some p)) ?_ rfl ⟨?_,F⟩
     .simp[results,results93,go_sem,t0,t1,qC7]
     .have dd:(ls.drop i).flatMap (λl=>cont n l.sub)=((ls.drop i).take (j+1)).flatMap (λl=>cont n l.sub)++((ls.drop i).drop (j+1)).flatMap (λl=>cont n l.sub):=by rw[<-fA,tD]
      rw[ba.out,bs.out,dd,b2.out,List.find?_append,List.find?_append,bl.out,a7.out];rfl
  .have dj:¬(j:Int)<(m:Int):=oM
   have b8:=ζ U;have z0:=ξ U;have bc:=φ U;have bx:=zh U;clear ag ah U;go_wp2;have M:=qI2 (.string ⟨#[]⟩) (.string ⟨#[]⟩) bx.out;have a4:=ce.out.store' oM bx dC M.2;have t0:=ξ M.1 0;have t1:=ξ M.1 1;simp only[zG,zH,zI] at t0 t1;refine bodyPost_ret (v:=qC7 none) ?_ rfl ⟨?_,a4⟩
   .simp[results,results93,go_sem,t0,t1,qC7]
   .have hx:=bl.out;rw[tL (by have:=bq.out;simp;omega)] at hx;rw[ba.out,bs.out,hx]
theorem jN4(E:Env)(g:Nat)(cap:Array Value)(f:ByteArray->Bool)(i:Up f)(h:∀ (args:Array Value) (W:World),Sem.run prog (callFunc g args) W=.ok (.enter g args) W):∀ (n:Nat) (r:HL) (l:Lnk (Tn n)) (q:Nat) (w:World),E.Dev w->RN E.O n w q l.sub->Good n l.key l.sub->1<=cnt n l.sub->Asks E w g cap f->
  Calls prog 93 #[τ E.V r,.pointer (some ⟨q,0,none⟩),.func (.func g) #[] cap] w λe m=>e=.returned (qC7 ((cont n l.sub).find? λq=>f q.k))/\E.To w m:=by
 intro n
 induction n with
 | zero=>intro r l q w b d c _ a;exact jN3 E r l q g cap f w b d c i a h
 | succ n ih=>intro r l q w b d c k a;exact jN1 E n g cap f i h (λr l q w b d c j a=>ih r l q w b d c j a) r l q w b d c k a
end Go.Proofs.YtdohpenfkdckiaaGreatDoor
