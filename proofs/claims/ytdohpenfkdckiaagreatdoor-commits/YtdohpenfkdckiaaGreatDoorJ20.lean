import Derived.Test.YtdohpenfkdckiaaGreatDoorJ19
import Derived.ArgAppend
set_option linter.all false
set_option maxRecDepth 100000
set_option maxHeartbeats 20000000
namespace Go.Proofs.YtdohpenfkdckiaaGreatDoor
open Go.Proofs.Tryz
open Go.RowKit
theorem jC2(B tb A n C:Nat)(cache)(W au:Int)(k:KF)(f:TF)(tbs)(l:List (TF × Nat))(ps)(key val)(L:Option Int)(az:L=some 3)(S)(R:World->Prop)(w)(c:ChIn w B tb A n C cache W au k f tbs l ps)(hP:ProgS w S)(hj:qH7 f.wr f.dn key val=0)(ah:Calls prog 34 #[.pointer (some ⟨f.x,0,none⟩),.string key,.string val] w λe q=>∃ v,e=.returned v/\ErrV q v L/\R q/\Kp S w q)
  (af:TFs w k tbs l) (hn:tbs.length<=100000) (hl:∀ x∈l,x.2<=100000) (cb) (r X:Nat) (hc:k.c=.slice cb r X) (ai:r<=100000) (al:k.n<=100000) (am:(ins ⟨key,val⟩ ps).length<=100000) (an:qR8 k r f.most ((ins ⟨key,val⟩ ps).length:Nat) (qG5 k.com l)=false):
  Calls prog 132 #[.pointer (some ⟨B,0,none⟩),.pointer (some ⟨tb,0,none⟩),.string key,.string val,.bool false] w λe q=>e=.returned (.bool true)/\∃ w1,R w1/\Kp S w w1/\Kp [] w1 q:=by
 have g:=zh (n6 af hn hl hc ai al);have ax:=zh (n2 am an);clear af hn hl hc ai al am an;have a4:=ζ c.hB;have a8:=ζ c.hT;have a1:=ζ c.hA;have b:=zh c;have j:=zh hP;have Y:=c.hB;have hT:=c.hT;have ak:=c.kA;have aw:=zh ah;have D:=ξ Y 0;simp only[kob,zG,zH,zI] at D;have t0:=ξ hT 0;simp only[tob,zG,zH,zI] at t0;rw[ak] at D;clear c hP Y hT ak ah;go_enter func132,ntmps132;go_wp2_with fail;refine (qK6 A n C cache W au w b.hA).mono ?_;rintro e w0 ⟨rfl,rfl⟩;go_wp2_with fail;refine (show Calls _ _ _ _ _ from aw).mono ?_;rintro e w1 ⟨v,rfl,hv,hR,h⟩;have Z:=j.out.stay h b.hB dC;have ac:=j.out.stay h b.hT dC;have ao:=b.out.sp.keep h (j.apt dC);have aj:=j.out.g0 h b.g0 oM;have z:=zh (n2 hR h);clear D t0 hR;go_wp2_with fail;refine (qJ7 v L w1 aj hv).mono ?_;rintro e w2 ⟨rfl,m⟩;have E:=m.hp Z;have a:=m.hp ac;have H:=ao.keep0 m;have a5:=ζ a;have a2:=ζ E;have d:=ξ a 1;have t2:=ξ a 2;have t3:=ξ a 3;have t4:=ξ a 4;have t5:=ξ a 5;have t6:=ξ a 6;have t7:=ξ a 7;simp only[tob,zG,zH,zI] at d t2 t3 t4 t5 t6 t7;obtain⟨M,O,N,K⟩:=H.slc;rw[K] at d;have U:=zh K;clear K
 go_wp2_with (go_at_call 127;refine (qH6 _ _).mono ?_;rintro e w2 ⟨rfl,rfl⟩)
 refine (zA9 (.slice M O N) f.cs f.wr f.dn f.chg f.most f.com f.stp key val _ ⟨_,_,_,rfl⟩).mono ?_;rintro e w3 ⟨rfl,o⟩;have s:=o.hp E;have t:=o.hp a;have ap:=H.keep0 o;have a3:=ζ s;have a6:=ζ t;have V:=ξ s 10;simp only[kob,zG,zH,zI] at V;rw[b.out.po] at V;have P:=zh (m.tr o);clear d t2 t3 t4 t5 t6 t7 Z ac ao aj h m o E a H hv;rw[hj];clear hj az;have d:=ξ t 1;simp only[tob,zG,zH,zI] at d;rw[U.out] at d;have I:SPR w3 (.slice M O N) ps:=by rw[<-U.out];exact ap
 have T:=zh t;have ay:=zh b.sz;have a0:=zh I;have av:=zh s;clear t s ap;go_wp2_with fail;refine (zS5 (.slice M O N) ps ⟨key,val⟩ _ I (by have:=ay.out;omega)).mono ?_;rintro e w4 ⟨v4,rfl,J,F⟩;have ad:=F.hp T.out;have a7:=ζ ad;obtain⟨b4,c4,aq⟩:=J.form;obtain⟨u,i⟩:∃ u:Nat,(ins ⟨key,val⟩ ps).length=u:=⟨_,rfl⟩;rw[i] at aq;subst aq;have Q:=zh (n3 J i F);clear J i F d I;go_wp2_with fail;obtain⟨y,ar,p⟩:∃ y,y=w4.alloc (.cells #[.slice b4 u c4] 126)/\Kp [] w3 y:=⟨_,rfl,Q.2.2.alloc _⟩;rw[<-ar];have ag:=((j.tfs z.2 g.1).keep0 P).keep0 p;have aa:=p.hp av.out;have ae:=p.hp T.out;have i:=Q.out.2.1;have G:=ax.out;rw[i] at G;clear ar ad;refine (xI4 B tb k f tbs l (u:Int) y aa ae ag g.2.1 g.2.2.1 cb r X g.2.2.2.1 g.2.2.2.2.1 b.m0 b.m1 oM oM g.2.2.2.2.2).mono ?_;rintro e w6 ⟨rfl,ab⟩;have HE:=zh ((P.tr p).tr ab);rw[G.2];clear G i ag aa ae p ab;go_wp2;go_ret;exact⟨rfl,w1,z.1,z.2,HE⟩
structure LkIn(w:World)(B tb A n C:Nat)(cache:Value)(calls writes:Int)(k:KF)(f:TF)(ps:List KV):Prop where
 hB:w.heap[B]?=some (kob k)
 po:k.po=false
 kA:k.A=A
 hA:w.heap[A]?=some (qG6 n C cache calls writes)
 hT:w.heap[tb]?=some (tob f)
 sp:SPR w f.v ps
 sz:ps.length≤50000
 g0:w.cell? ⟨0,0,none⟩=some qE9
def qS6(R:World→Prop)(S:List Nat)(w w':World):Prop:=∃ w1,R w1∧Kp S w w1∧Kp [] w1 w'
theorem jQ8(B tb A n C:Nat)(cache)(calls writes:Int)(k:KF)(f:TF)(ps)(key gv)(gb:Bool)(ko:Option Int)(hko:ko=none)(S)(R:World->Prop)(w)(hI:LkIn w B tb A n C cache calls writes k f ps)(hP:ProgS w S)(hkb:qH9 key=true)(hdn:f.dn=false)(hgr:qY9 ps key=.tuple #[.string gv,.bool gb])(hcall:Calls prog 197 #[.pointer (some ⟨f.x,0,none⟩),.string key] w λe w'=>∃ v,e=.returned (.tuple #[.string gv,.bool gb,v])/\ErrV w' v ko/\R w'/\Kp S w w'):
  Calls prog 133 #[.pointer (some ⟨B,0,none⟩),.pointer (some ⟨tb,0,none⟩),.string key] w λe w'=>e=.returned (.bool true)/\qS6 R S w w':=by
 have hBs:=ζ hI.hB;have hTs:=ζ hI.hT;have hAs:=ζ hI.hA;have HI:=zh hI;have HP:=zh hP;have hB:=hI.hB;have hT:=hI.hT;have hkA:=hI.kA;have HCALL:=zh hcall;have HKEY:Hid (∀ w,Ω 198 #[.string key] w λe w'=>e=ϱ (.bool true)/\w'=w):=by have h:=zS0 key;rw[hkb] at h;exact h
 have HGR:=zh hgr;have b0:=ξ hB 0;simp only[kob,zG,zH,zI] at b0;have t0:=ξ hT 0;simp only[tob,zG,zH,zI] at t0;rw[hkA] at b0;clear hI hP hB hT hkA hcall hkb hgr;go_enter func133,ntmps133;go_wp2_with fail;refine (qK6 A n C cache calls writes w HI.hA).mono ?_;rintro e w0 ⟨rfl,rfl⟩;go_wp2_with fail;refine (show Calls _ _ _ _ _ from HCALL).mono ?_;rintro e w1 ⟨v,rfl,hv,hR,hK1⟩;have hB1:=HP.out.stay hK1 HI.hB dC;have hT1:=HP.out.stay hK1 HI.hT dC;have hsp1:=HI.out.sp.keep hK1 (HP.apt dC);have hg1:=HP.out.g0 hK1 HI.g0 oM;have HR:=zh (n2 hR hK1);clear b0 t0 hR;go_wp2_with fail;refine (qJ7 v ko w1 hg1 hv).mono ?_;rintro e w2 ⟨rfl,hK2⟩;have hB2:=hK2.hp hB1;have hT2:=hK2.hp hT1;have hsp2:=hsp1.keep0 hK2;have hT2s:=ζ hT2;have hB2s:=ζ hB2;have t1:=ξ hT2 1;simp only[tob,zG,zH,zI] at t1;obtain⟨vb,vl,vc,hvv⟩:=hsp2.slc;rw[hvv] at t1;have hsp2':SPR w2 (.slice vb vl vc) ps:=by rw[<-hvv];exact hsp2
 clear hvv hsp2
 go_wp2_with (first | (go_at_call 127;refine (qH6 _ _).mono ?_;rintro e w2 ⟨rfl,rfl⟩) | (go_at_call 198;refine (HKEY _).mono ?_;rintro e w2 ⟨rfl,rfl⟩))
 refine (xM5 (.slice vb vl vc) ps key _ hsp2' (by have:=HI.out.sz;omega)).mono ?_;rintro e w3 ⟨rfl,hK3⟩;rw[HGR.out];have hB3:=hK3.hp hB2;have hT3:=hK3.hp hT2;have hB3s:=ζ hB3;have hT3s:=ζ hT3;have b10:=ξ hB3 10;simp only[kob,zG,zH,zI] at b10;have t3:=ξ hT3 3;simp only[tob,zG,zH,zI] at t3;rw[HI.out.po] at b10;have HK3:=zh (hK2.tr hK3);clear t1 hB1 hT1 hsp1 hg1 hK1 hK2 hK3 hB2 hT2 hsp2' hv hB3 hT3;rw[hdn] at t3;by_cases hz:gv=⟨#[]⟩
 .subst hz;go_wp2;go_ret;exact⟨sM,w1,HR.1,HR.2,HK3⟩
 .go_wp2<;>(go_ret;exact⟨sM,w1,HR.1,HR.2,HK3⟩)
theorem xD4(B tb A n C:Nat)(cache)(calls writes:Int)(k:KF)(f:TF)(ps)(key gv)(kb gb:Bool)(j:Int)(ko:Option Int)(hko:ko=some j)(S)(R:World->Prop)(w)(hI:LkIn w B tb A n C cache calls writes k f ps)(hP:ProgS w S)(hkb:qH9 key=kb)(hj:(f.dn=true/\j=5)\/(f.dn=false/\kb=false/\j=1))(hgr:qY9 ps key=.tuple #[.string gv,.bool gb])(hcall:Calls prog 197 #[.pointer (some ⟨f.x,0,none⟩),.string key] w λe w'=>∃ v,e=.returned (.tuple #[.string ⟨#[]⟩,.bool false,v])/\ErrV w' v ko/\R w'/\Kp S w w'):
  Calls prog 133 #[.pointer (some ⟨B,0,none⟩),.pointer (some ⟨tb,0,none⟩),.string key] w λe w'=>e=.returned (.bool true)/\qS6 R S w w':=by
 have hBs:=ζ hI.hB;have hTs:=ζ hI.hT;have hAs:=ζ hI.hA;have HI:=zh hI;have HP:=zh hP;have hB:=hI.hB;have hT:=hI.hT;have hkA:=hI.kA;have HCALL:=zh hcall;have HKEY:Hid (∀ w,Ω 198 #[.string key] w λe w'=>e=ϱ (.bool kb)/\w'=w):=by have h:=zS0 key;rw[hkb] at h;exact h
 have HGR:=zh hgr;have b0:=ξ hB 0;simp only[kob,zG,zH,zI] at b0;have t0:=ξ hT 0;simp only[tob,zG,zH,zI] at t0;rw[hkA] at b0;clear hI hP hB hT hkA hcall hkb hgr;go_enter func133,ntmps133;go_wp2_with fail;refine (qK6 A n C cache calls writes w HI.hA).mono ?_;rintro e w0 ⟨rfl,rfl⟩;go_wp2_with fail;refine (show Calls _ _ _ _ _ from HCALL).mono ?_;rintro e w1 ⟨v,rfl,hv,hR,hK1⟩;have hB1:=HP.out.stay hK1 HI.hB dC;have hT1:=HP.out.stay hK1 HI.hT dC;have hsp1:=HI.out.sp.keep hK1 (HP.apt dC);have hg1:=HP.out.g0 hK1 HI.g0 oM;have HR:=zh (n2 hR hK1);clear b0 t0 hR;go_wp2_with fail;refine (qJ7 v ko w1 hg1 hv).mono ?_;rintro e w2 ⟨rfl,hK2⟩;have hB2:=hK2.hp hB1;have hT2:=hK2.hp hT1;have hsp2:=hsp1.keep0 hK2;have hT2s:=ζ hT2;have hB2s:=ζ hB2;have t1:=ξ hT2 1;simp only[tob,zG,zH,zI] at t1;obtain⟨vb,vl,vc,hvv⟩:=hsp2.slc;rw[hvv] at t1;have hsp2':SPR w2 (.slice vb vl vc) ps:=by rw[<-hvv];exact hsp2
 clear hvv hsp2
 go_wp2_with (first | (go_at_call 127;refine (qH6 _ _).mono ?_;rintro e w2 ⟨rfl,rfl⟩) | (go_at_call 198;refine (HKEY _).mono ?_;rintro e w2 ⟨rfl,rfl⟩))
 refine (xM5 (.slice vb vl vc) ps key _ hsp2' (by have:=HI.out.sz;omega)).mono ?_;rintro e w3 ⟨rfl,hK3⟩;rw[HGR.out];have hB3:=hK3.hp hB2;have hT3:=hK3.hp hT2;have hB3s:=ζ hB3;have hT3s:=ζ hT3;have b10:=ξ hB3 10;simp only[kob,zG,zH,zI] at b10;have t3:=ξ hT3 3;simp only[tob,zG,zH,zI] at t3;rw[HI.out.po] at b10;have HK3:=zh (hK2.tr hK3);clear t1 hB1 hT1 hsp1 hg1 hK1 hK2 hK3 hB2 hT2 hsp2' hv hB3 hT3;rcases hj with⟨h1,h2⟩|⟨h1,h2,h3⟩
 .rw[h1] at t3;clear h1;subst h2;go_wp2;go_ret;exact⟨sM,w1,HR.1,HR.2,HK3⟩
 .rw[h1] at t3;clear h1;subst h2 h3;go_wp2;go_ret;exact⟨sM,w1,HR.1,HR.2,HK3⟩
theorem zD6(A n C:Nat)(cache)(j a:Int)(w)(h:w.heap[A]?=some (qG6 n C cache j a)):
  Calls prog 35 #[.pointer (some ⟨A,0,none⟩)] w λe k=>e=.returned (.int .i64 a)/\k=w:=by
 have c0:=ξ h 0;have b:=ξ h 1;have c:=ξ h 2;have d:=ξ h 3;have f:=ξ h 4;have g:=ξ h 5;have i:=ξ h 6;simp only[qG6,qA8,zG,zH,zI] at c0 b c d f g i;clear h;go_enter func35,ntmps35;go_wp2;go_ret;exact⟨rfl,rfl⟩
def zU6(f:TF)(tb:Nat)(R:World→Prop)(S:List Nat)(w w':World):Prop:=∃ w1,R w1∧Kp S w w1∧Kp [tb] w1 w'∧w'.heap[tb]?=some (tob { f with dn:=true })
def qE1(wr:Bool):List (TF × Nat)→Nat
 | []=>0
 | (f,_)::fs=>(if f.dn=false∧f.wr=wr then 1 else 0)+qE1 wr fs
theorem zK7(wr:Bool):∀ a b:List (TF × Nat),qE1 wr (a++b)=qE1 wr a+qE1 wr b
 | [],b=>by simp[qE1]
 | (f,l)::a,b=>by simp only[cA,qE1,zK7 wr a b];omega
theorem zK8(wr:Bool):∀ a:List (TF × Nat),qE1 wr a<=a.length
 | []=>by simp[qE1]
 | (f,l)::a=>by
  have:=zK8 wr a;simp only[qE1,lC];split<;>omega
theorem xD8:(prog.info? 132).map (λi=>(i.zero,i.size,i.bytes))=some (some (.pointer none),1,8):=kR
theorem xN7{P:Program}(w)(base:Nat)(t ty e)(i:TypeInfo)(z)(size f:Nat)(s:P.underlying t=some (.slice e))(o:P.info? e=some i)(E:i.zero=some z)
  (qA0:i.size=size) (A:i.bytes=f) (F:z.cells.size=size) (D:0<size)
  (v) (n:Nat) (xs:List Value) (d:w.ownsRow base e size v n xs)
  (a) (m c:Nat) (news:List Value) (p:news.length=m*size) (q:∀ j u,news[j]?=some u->w.cell? (a.add j)=some u) (x:∀ u∈news,u.oneCell'=true)
  (y:n+m<=maxLen) (B:(n+m)*f<=140737488355328) (J:base<=w.heap.size):
  ∃ h l,(Builtin.append_ #[t,t] ty #[v,.slice (some a) m c]).run P w=.ok h l/\l.ownsRow base e size h (n+m) (xs++news)/\w.grownBy l v.ownBlock/\∀ k,h.ownBlock=some k->v.ownBlock=some k\/w.heap.size<=k:=by
 obtain⟨h,l,r,Q,R,_⟩:=run_append_own (P:=P) w base t ty e i z size f s o E qA0 A F D v n xs d a m c news p q x y B J;refine⟨h,l,r,Q,R,λk C=>?_⟩;rcases d.2 with⟨I,L⟩|⟨g,cap,cur,N,T,U,V,W,X,Y⟩
 .subst I L;have O:=List.length_eq_zero_iff.1 (by have:=d.1;simpa using this);subst O;obtain⟨S,H,b,G,_⟩:=run_append_own (P:=P) w w.heap.size t ty e i z size f s o E qA0 A F D (.slice none 0 0) 0 [] (wN _ _ _ _) a m c news p q x y B lR;rw[r] at b;cases b;exact .inr (World.ownsRow.lt G k C).1
 .subst N;by_cases M:n+m<=cap
  .obtain⟨H,b,_⟩:=run_append_fits w base t ty e i size s o qA0 g n cap xs d a m c news p q x M;rw[r] at b;cases b;exact .inl C
  .have K:∀ j u,xs[j]?=some u->w.cell? ((⟨g,0,none⟩:Addr).add j)=some u:=World.ownsRow.cells d rfl;obtain⟨S,H,b,G,_⟩:=run_append_arg_grows w t ty e i z size f s o E qA0 A F D ⟨g,0,none⟩ n cap xs d.1 K a m c news p q oM y B;rw[r] at b;cases b;exact .inr (World.ownsRow.lt G k C).1
theorem zS2(w)(base g:Nat)(v)(n:Nat)(xs:List Value)(u)(t e ty)(z)(l:prog.underlying t=some (.slice e))(a:(prog.info? e).map (λi=>(i.zero,i.size,i.bytes))=some (some z,1,8))(p:z.cells.size=1)
  (h:w.ownsRow base e 1 v n xs) (y:n<=1000000) (f:w.heap[g]?=some (.cells #[u] e)) (m:u.oneCell'=true) (d:base<=w.heap.size):
  ∃ b c,Sem.run prog (Builtin.append_ #[t,t] ty #[v,.slice (some ⟨g,0,none⟩) 1 1]) w=.ok b c/\c.ownsRow base e 1 b (n+1) (xs++[u])/\w.grownBy c v.ownBlock/\∀ k,b.ownBlock=some k->v.ownBlock=some k\/w.heap.size<=k:=by
 obtain⟨x,a,q,r,s⟩:=info_parts a;exact xN7 (P:=prog) w base t ty e x _ 1 8 l a q r s p dC v n _ h ⟨g,0,none⟩ 1 1 [u] sM (λj v o=>by
  rw[qG4,ξ f];simpa using o) (by simpa using m) (by unfold maxLen;omega) oM d
structure BgIn(w:World)(B A n C:Nat)(cache:Value)(calls writes:Int)(k:KF)(Db base:Nat)(tbs:List Nat)(fs:List (TF × Nat))(cb:Option Addr)(cl cc:Nat):Prop where
 hB:w.heap[B]?=some (kob k)
 po:k.po=false
 kA:k.A=A
 hA:w.heap[A]?=some (qG6 n C cache calls writes)
 kx:k.x=some ⟨Db,0,none⟩
 kc:k.c=.slice cb cl cc
 ts:TFs w k tbs fs
 row:w.ownsRow base 132 1 k.ts tbs.length (qJ3 tbs)
 bas:base≤w.heap.size
 len:tbs.length≤100000
 g0:w.cell? ⟨0,0,none⟩=some qE9
theorem zW5(B A n C:Nat)(cache)(ab ar:Int)(k:KF)(X base:Nat)(tbs)(b:List (TF × Nat))(cb)(cl cc:Nat)(a:Bool)(V:Option Int)(ba:V=some 4)(S)(R:Option Addr->World->Prop)(w)(q:BgIn w B A n C cache ab ar k X base tbs b cb cl cc)(hP:ProgS w S)(hx:∀ u w,R u w->u=none)(ae:(a=true/\0<qE1 a b)\/(a=false/\qE1 a b=4))(af:Calls prog 29 #[.pointer (some ⟨X,0,none⟩),.bool a] w λe E=>∃ u v,e=.returned (.tuple #[.pointer u,v])/\ErrV E v V/\R u E/\Kp S w E):
  Calls prog 82 #[.pointer (some ⟨B,0,none⟩),.bool a] w λe E=>e=.returned (.bool true)/\qS6 (R none) S w E:=by
 have au:=zh ae;have HX:=zh hx;clear ae hx;have a5:=ζ q.hB;have a3:=ζ q.hA;have o:=zh q;have K:=zh hP;have Q:=q.hB;have aj:=q.kA;have ak:=q.kx;have av:=zh af;have N:=ξ Q 0;have O:=ξ Q 7;simp only[kob,zG,zH,zI] at N O;rw[aj] at N;rw[ak] at O;clear q hP Q aj af ak;go_enter func82,ntmps82;go_wp2_with fail;refine (qK6 A n C cache ab ar w o.hA).mono ?_;rintro e w0 ⟨rfl,rfl⟩;go_wp2_with fail;refine (show Calls _ _ _ _ _ from av).mono ?_;rintro e w1 ⟨u,v,rfl,J,t,y⟩;have ac:=K.out.stay y o.hB dC;have ad:=K.out.tfs y o.ts;have ah:=K.out.g0 y o.g0 oM;have x:=zh (n2 t y);clear N O t;go_wp2_with fail;refine (qJ7 v V w1 ah J).mono ?_;rintro e w2 ⟨rfl,G⟩;have m:=G.hp ac;have H:=ad.keep0 G;obtain⟨p,c,U,an⟩:=H.row;have a4:=ζ m;have b8:=ξ m 8;have b9:=ξ m 9;have Z:=ξ m 10;have aa:=ξ m 11;simp only[kob,zG,zH,zI] at b8 b9 Z aa;have a2:=φ m 11;rw[o.out.po] at Z;rw[U] at aa;rw[o.out.kc] at b8;have a1:=zh U;have HT:=zh H;have ax:=zh an;have aw:=zh H.len;have bb:=o.out.len;have a0:=zh m;have Y:=zh G;clear ac ad ah y G m J H an U
 go_wp2_with (go_at_call 127;refine (qH6 _ _).mono ?_;rintro e w2 ⟨rfl,rfl⟩)
 go_loopw [10,11] (λs i wr=>∃ (j:Nat),j<=tbs.length/\i=.int .i64 j/\s=.int .i64 (qE1 a (b.take j):Nat)/\∃ d,wr=w2.drewN d) (λ_ i _=>tbs.length-(intOf i).toNat)
 case atStart=>exact⟨0,zL _,rfl,rfl,0,rfl⟩
 case round=>
  obtain⟨j,hj,rfl,rfl,d,rfl⟩:=hrel;have al:=aw.out;have ao:=zK8 a (b.take j);have ap:(b.take j).length=j:=sO
  rw[ap] at ao;clear ap;by_cases am:j<tbs.length
  .have ay:(j:Int)<(tbs.length:Int):=oM
   have ai:j<b.length:=oM
   obtain⟨g,cur,rfl,t,ag⟩:=ax.out oM;obtain⟨r,vb,vc,J⟩:=HT.out.at_ j am ai;have I:qE1 a (b.take (j+1))=qE1 a (b.take j)+(if b[j].1.dn=false/\b[j].1.wr=a then 1 else 0):=by
    rw[tA ai,zK7];simp[qE1]
   obtain⟨⟨f,l⟩,hf⟩:∃ f,b[j]=f:=⟨_,rfl⟩;obtain⟨tb,aq⟩:=eY (tbs[j]);have T:=ag j am;rw[aq] at T r;rw[hf] at r I;simp only at r I;have L:=zh I;generalize z:qE1 a (b.take j)=M at *;have a9:=ζ t;have a6:=ζ r;have r0:=ξ t j;rw[T] at r0;have t2:=ξ r 2;have W:=ξ r 3;simp only[tob,zG,zH,zI] at t2 W;clear ag t r I hf aq T z J al
   cases hdn:f.dn with
   | true=>
    rw[hdn] at W;go_wp2;refine⟨⟨j+1,oM,by go_num,?_,_,rfl⟩,by simp[intOf];omega⟩;rw[L.out,hdn];simp
   | false=>
    rw[hdn] at W;by_cases D:f.wr=a
    .rw[D] at t2;go_wp2;refine⟨⟨j+1,oM,by go_num,?_,_,rfl⟩,by simp[intOf];omega⟩;rw[L.out,hdn,if_pos ⟨rfl,D⟩]
     go_num
    .have a7:(f.wr == a)=false:=by simpa using D
     have a8:=decide_eq_false D;go_wp2;refine⟨⟨j+1,oM,by go_num,?_,_,rfl⟩,by simp[intOf];omega⟩;rw[L.out,if_neg (λh=>D h.2)];simp
  have z:qE1 a (b.take j)=qE1 a b:=by rw[tL oM]
  have ay:¬(j:Int)<(tbs.length:Int):=oM
  rw[z] at ao;rw[z];clear z al;have az:=HX.out _ _ x.1;subst az;rcases au with⟨P,F⟩|⟨P,F⟩
  .have h3:(0:Int)<(qE1 a b:Nat):=oM
   clear F;generalize qE1 a b=M at *;subst P;go_wp2;go_ret;exact⟨sM,w1,x.1,x.2,Y.drewN _⟩
  .rw[F];clear F;generalize qE1 a b=M at *;subst P;go_wp2;go_ret;exact⟨sM,w1,x.1,x.2,Y.drewN _⟩
theorem qF1{S}{w w'}{base n sz:Nat}{T}{v}{xs:List Value}(h:w.ownsRow base T sz v n xs)(hK:Kp S w w')(j:∀ k c t b,w.heap[k]?=some (.cells c t b)->k∈S->t≠T):w'.ownsRow base T sz v n xs:=by
 refine⟨h.1,?_⟩;rcases h.2 with d|⟨g,cap,cur,e,f,a,i⟩
 .exact .inl d
 .exact .inr ⟨g,cap,cur,e,f,hK.heap a (λl=>j g _ _ _ a l rfl),i⟩
theorem qP8{w:World}{base n sz:Nat}{T:TypeId}{v:Value}{xs:List Value}(h:w.ownsRow base T sz v n xs):∃ b c,v=.slice b n c:=by
 rcases h.2 with⟨d,a⟩|⟨g,cap,cur,a,e⟩
 .exact⟨none,0,by rw[d,a]⟩
 .exact⟨_,cap,a⟩
def TF.born(k:KF)(x:Nat)(cl:Nat)(wrt:Bool):TF:=⟨x,k.c,wrt,false,0,cl,k.com,0,.slice none 0 0⟩
def zU3(k:KF)(B base cl:Nat)(wrt:Bool)(tbs:List Nat)(R:Option Addr→World→Prop)(S:List Nat)(w w':World):Prop:=
 ∃ w1 x tb v' L,R (some ⟨x,0,none⟩) w1∧Kp S w w1∧w1.heap.size≤tb∧w'.heap[tb]?=some (tob (TF.born k x cl wrt))∧w'.heap[B]?=some (kob { k with ts:=v' })∧w'.ownsRow base 132 1 v' (tbs.length+1) (qJ3 (tbs++[tb]))∧Kp L w1 w'∧(∀ i∈L,i=B∨k.ts.ownBlock=some i)∧∀ i,v'.ownBlock=some i→k.ts.ownBlock=some i∨w1.heap.size≤i
theorem zW6(B A n C:Nat)(cache)(bb br:Int)(k:KF)(Db base:Nat)(tbs)(q:List (TF × Nat))(cb)(m E:Nat)(o:Bool)(ko:Option Int)(ch:ko=none)(S)(R:Option Addr->World->Prop)(w)(L:BgIn w B A n C cache bb br k Db base tbs q cb m E)(hP:ProgS w S)(hx:∀ xo w,R xo w->∃ x,xo=some ⟨x,0,none⟩)(bh:(o=true/\qE1 o q=0)\/(o=false/\qE1 o q<4))(bf:Calls prog 29 #[.pointer (some ⟨Db,0,none⟩),.bool o] w λe w'=>∃ xo v,e=.returned (.tuple #[.pointer xo,v])/\ErrV w' v ko/\R xo w'/\Kp S w w'):
  Calls prog 82 #[.pointer (some ⟨B,0,none⟩),.bool o] w λe w'=>e=.returned (.bool true)/\zU3 k B base m o tbs R S w w':=by
 have ba:=zh bh;have HX:=zh hx;have ai:=zh (n2 L.row L.bas);clear bh hx;have ca:=ζ L.hB;have b3:=ζ L.hA;have D:=zh L;have HP:=zh hP;have hB:=L.hB;have bk:=L.kA;have bl:=L.kx;have bt:=zh bf;have b0:=ξ hB 0;have b7:=ξ hB 7;simp only[kob,zG,zH,zI] at b0 b7;rw[bk] at b0;rw[bl] at b7;clear L hP hB bk bf bl;go_enter func82,ntmps82;go_wp2_with fail;refine (qK6 A n C cache bb br w D.hA).mono ?_;rintro e w0 ⟨rfl,rfl⟩;go_wp2_with fail;refine (show Calls _ _ _ _ _ from bt).mono ?_;rintro e w1 ⟨xo,v,rfl,hv,hR,ab⟩;have bc:=HP.out.stay ab D.hB dC;have be:=HP.out.tfs ab D.ts;have bi:=HP.out.g0 ab D.g0 oM;have J:=zh (n2 hR ab);clear b0 b7 hR;go_wp2_with fail;refine (qJ7 v ko w1 bi hv).mono ?_;rintro e w2 ⟨rfl,am⟩;have P:=am.hp bc;have an:=be.keep0 am;obtain⟨p,c,a7,bo⟩:=an.row;have b4:=ζ P;have b8:=ξ P 8;have b9:=ξ P 9;have ak:=ξ P 10;have H:=ξ P 11;simp only[kob,zG,zH,zI] at b8 b9 ak H;have al:=φ P 11;rw[D.out.po] at ak;rw[a7] at H;rw[D.out.kc] at b8;have aj:=zh a7;have HT:=zh an;have bw:=zh bo;have bv:=zh an.len;have ci:=D.out.len;have bs:=zh P;have bu:=zh am;clear bc be bi ab am P hv an bo a7
 go_wp2_with (go_at_call 127;refine (qH6 _ _).mono ?_;rintro e w2 ⟨rfl,rfl⟩)
 go_loopw [10,11] (λs i wr=>∃ (j:Nat),j<=tbs.length/\i=.int .i64 j/\s=.int .i64 (qE1 o (q.take j):Nat)/\∃ d,wr=w2.drewN d) (λ_ i _=>tbs.length-(intOf i).toNat)
 case atStart=>exact⟨0,zL _,rfl,rfl,0,rfl⟩
 case round=>
  obtain⟨j,hj,rfl,rfl,d,rfl⟩:=hrel;have bm:=bv.out;have ap:=zK8 o (q.take j);have bp:(q.take j).length=j:=sO
  rw[bp] at ap;clear bp;by_cases bn:j<tbs.length
  .have b1:(j:Int)<(tbs.length:Int):=oM
   have bj:j<q.length:=oM
   obtain⟨g,cur,rfl,hR,bg⟩:=bw.out oM;obtain⟨X,vb,vc,hv⟩:=HT.out.at_ j bn bj;have aq:qE1 o (q.take (j+1))=qE1 o (q.take j)+(if q[j].1.dn=false/\q[j].1.wr=o then 1 else 0):=by
    rw[tA bj,zK7];simp[qE1]
   obtain⟨⟨f,l⟩,hf⟩:∃ f,q[j]=f:=⟨_,rfl⟩;obtain⟨tb,bq⟩:=eY (tbs[j]);have a4:=bg j bn;rw[bq] at a4 X;rw[hf] at X aq;simp only at X aq;have az:=zh aq;generalize hM:qE1 o (q.take j)=M at *;have cg:=ζ hR;have cd:=ζ X;have r0:=ξ hR j;rw[a4] at r0;have t2:=ξ X 2;have t3:=ξ X 3;simp only[tob,zG,zH,zI] at t2 t3;clear bg hR X aq hf bq a4 hM hv bm
   cases hdn:f.dn with
   | true=>
    rw[hdn] at t3;go_wp2;refine⟨⟨j+1,oM,by go_num,?_,_,rfl⟩,by simp[intOf];omega⟩;rw[az.out,hdn];simp
   | false=>
    rw[hdn] at t3;by_cases hc:f.wr=o
    .rw[hc] at t2;go_wp2;refine⟨⟨j+1,oM,by go_num,?_,_,rfl⟩,by simp[intOf];omega⟩;rw[az.out,hdn,if_pos ⟨rfl,hc⟩]
     go_num
    .have ce:(f.wr == o)=false:=by simpa using hc
     have cf:=decide_eq_false hc;go_wp2;refine⟨⟨j+1,oM,by go_num,?_,_,rfl⟩,by simp[intOf];omega⟩;rw[az.out,if_neg (λh=>hc h.2)];simp
  have hM:qE1 o (q.take j)=qE1 o q:=by rw[tL oM]
  have b1:¬(j:Int)<(tbs.length:Int):=oM
  rw[hM] at ap;rw[hM];clear hM bm;obtain⟨x,b2⟩:=HX.out _ _ J.1;subst b2;obtain⟨b,ar,a0,bd⟩:∃ b,b=w2.drewN d/\Ϙ b B (kob k)/\Kp [] w1 b:=⟨_,rfl,bs,bu.drewN _⟩;have Z:=zh bd;have b5:=ζ a0;clear bd;have ao:(o=true->qE1 o q=0)/\(o=false->¬((qE1 o q:Nat):Int)=4):=by
   constructor
   .intro h;rcases ba with⟨_,I⟩|⟨y,_⟩
    .exact I
    .rw[h] at y;cases y
   .intro h;rcases ba with⟨y,_⟩|⟨_,I⟩
    .rw[h] at y;cases y
    .omega
  cases hwv:o with
  | true=>
   have hz:=ao.1 hwv;subst hwv;rw[hz];clear hz ao;go_wp2_with fail;rw[<-ar];clear ar b8 b9 ak H al ap;have a:=a0;refine wp_region_held_drew (S:=λW=>Ϙ W B (kob k)) kR a (λ_=>?_);refine zP 0 x 0 a ?_;refine zP 1 B 0 a ?_;refine zP 2 B 0 a ?_;refine zP 3 B 8 a ?_;refine zV 4 (.agg #[.slice cb m E]) rfl (λW r=>by have c:=ξ r 8;simp only[kob,zG,zH,zI] at c;rw[D.out.kc] at c;clear r;go_simp) a ?_;refine zU 5 (.bool true) a ?_;refine zP 6 B 0 a ?_;refine zP 7 B 0 a ?_;refine zP 8 B 8 a ?_;refine zP 9 B 8 a ?_;refine zV 10 (.slice cb m E) rfl (λW r=>by have c:=ξ r 8;simp only[kob,zG,zH,zI] at c;rw[D.out.kc] at c;clear r;go_simp) a ?_;refine zU 11 (ϊ m) a ?_;refine zP 12 B 0 a ?_;refine zP 13 B 0 a ?_;refine zP 14 B 9 a ?_;refine zV 15 (ϊ k.com) rfl (λW r=>by have c:=ξ r 9;simp only[kob,zG,zH,zI] at c;clear r;go_simp) a ?_;refine zU 16 (.agg #[.slice cb m E,.bool true,.bool false,ϊ 0,ϊ m,ϊ k.com,ϊ 0]) a ?_;refine zU 17 (.agg #[ϖ x,.slice cb m E,.bool true,.bool false,ϊ 0,ϊ m,ϊ k.com,ϊ 0,.slice none 0 0]) a ?_;refine zq 18 λK hK=>?_;go_simp;obtain⟨u,ah,ac,F,V,a5⟩:∃ u,u=World.drew (b.alloc (.cells #[ϖ x,.slice cb m E,.bool true,.bool false,ϊ 0,ϊ m,ϊ k.com,ϊ 0,.slice none 0 0] 197))/\Ϙ u b.heap.size (tob (TF.born k x m true))/\Ϙ u B (kob k)/\Kp [] b u/\u.heap.size=b.heap.size+1:=
    ⟨_,rfl,by have e:=υ b (.cells #[ϖ x,.slice cb m E,.bool true,.bool false,ϊ 0,ϊ m,ϊ k.com,ϊ 0,.slice none 0 0] 197);rw[TF.born,tob,D.out.kc];exact e,ν _ a,((Kp.refl _ b).alloc _).drew,show (b.alloc _).heap.size=_ by simp⟩
   rw[<-ah];refine hK.out _ _ F (λ_=>?_);clear hK K ah
   try simp only[zZ]
   refine zP 19 b.heap.size 0 F ?_;refine zd ?_;have O:=qF1 (qF1 ai.1 J.2 (λk' c t fr y I e=>absurd ((HP k' I).2 _ _ _ y) (by rw[e];decide))) (Z.tr V) (λ_ _ _ _ _ h=>by cases h);have a6:=J.out.2.size;have ag:=Z.out.size;have a3:=ai.out.2;obtain⟨v',w6,af,Y,N,ae⟩:=zS2 (u.alloc (.cells #[ϖ b.heap.size] 132)) base u.heap.size k.ts tbs.length (qJ3 tbs) (ϖ b.heap.size) 127 132 127 (.pointer none) underlying127 xD8 rfl (World.ownsRow.alloc O _) oM (υ _ _) rfl sO;have ad:=qN3 O N ac dC;have G:=qN3 O N F dC;obtain⟨T,U,a8⟩:=qP8 Y;subst a8;have ax:=zh Y;have au:=zh N;have aw:Hid (∀ i,oB (.slice T (tbs.length+1) U)=some i->k.ts.ownBlock=some i\/w1.heap.size<=i):=λi z=>(ae i z).imp id (λh=>by simp at h;omega);have aa:=zh ad;have Q:=zh G;have av:=zh V;have ay:=zh ag;have bz:=ζ G;have bx:=ζ F;rw[aj.out] at af;have H:=ξ F 11;simp only[kob,zG,zH,zI] at H;rw[aj.out] at H;have al:=φ G 11;have a9:=ξ G 11;simp only[kob,zG,zH,zI] at a9;clear a F G ac ad Y N O V a6 ag a3 a5 ae
   go_wp2_with (at_builtin;(with_reducible refine qL8 ?_ ?_ af ?_);rfl;rfl)
   go_ret;have a2:Kp (B::k.ts.ownBlock.toList) b w6:=(((av.mono sM).alloc _).grown au (λi z=>Or.inl (by simp[z])));have a1:Kp (B::k.ts.ownBlock.toList) w1 (w6.setCell ⟨B,11,none⟩ (.slice T (tbs.length+1) U)):=((Z.mono sM).trans a2 (λi z _=>z)).sc _;refine⟨sM,w1,x,b.heap.size,.slice T (tbs.length+1) U,_,J.1,J.2,ay,?_,μ Q 11 _,?_,a1,?_,aw⟩
   .exact (qB1 (ω aa Q dC) _ _).trans aa
   .refine qF1 (S:=[B]) (by rw[qJ3,List.map_append];exact ax) (kF.sc _) (λi c t fr y I=>?_);rw[mS I,Q.out] at y;cases y;decide
   .intro i z;simpa using z
  | false=>
   have hz:=ao.2 hwv;subst hwv;clear ao;generalize qE1 false q=M at *;go_wp2_with fail;rw[<-ar];clear ar b8 b9 ak H al ap;have a:=a0;refine wp_region_held_drew (S:=λW=>Ϙ W B (kob k)) kR a (λ_=>?_);refine zP 0 x 0 a ?_;refine zP 1 B 0 a ?_;refine zP 2 B 0 a ?_;refine zP 3 B 8 a ?_;refine zV 4 (.agg #[.slice cb m E]) rfl (λW r=>by have c:=ξ r 8;simp only[kob,zG,zH,zI] at c;rw[D.out.kc] at c;clear r;go_simp) a ?_;refine zU 5 (.bool false) a ?_;refine zP 6 B 0 a ?_;refine zP 7 B 0 a ?_;refine zP 8 B 8 a ?_;refine zP 9 B 8 a ?_;refine zV 10 (.slice cb m E) rfl (λW r=>by have c:=ξ r 8;simp only[kob,zG,zH,zI] at c;rw[D.out.kc] at c;clear r;go_simp) a ?_;refine zU 11 (ϊ m) a ?_;refine zP 12 B 0 a ?_;refine zP 13 B 0 a ?_;refine zP 14 B 9 a ?_;refine zV 15 (ϊ k.com) rfl (λW r=>by have c:=ξ r 9;simp only[kob,zG,zH,zI] at c;clear r;go_simp) a ?_;refine zU 16 (.agg #[.slice cb m E,.bool false,.bool false,ϊ 0,ϊ m,ϊ k.com,ϊ 0]) a ?_;refine zU 17 (.agg #[ϖ x,.slice cb m E,.bool false,.bool false,ϊ 0,ϊ m,ϊ k.com,ϊ 0,.slice none 0 0]) a ?_;refine zq 18 λK hK=>?_;go_simp;obtain⟨u,ah,ac,F,V,a5⟩:∃ u,u=World.drew (b.alloc (.cells #[ϖ x,.slice cb m E,.bool false,.bool false,ϊ 0,ϊ m,ϊ k.com,ϊ 0,.slice none 0 0] 197))/\Ϙ u b.heap.size (tob (TF.born k x m false))/\Ϙ u B (kob k)/\Kp [] b u/\u.heap.size=b.heap.size+1:=
    ⟨_,rfl,by have e:=υ b (.cells #[ϖ x,.slice cb m E,.bool false,.bool false,ϊ 0,ϊ m,ϊ k.com,ϊ 0,.slice none 0 0] 197);rw[TF.born,tob,D.out.kc];exact e,ν _ a,((Kp.refl _ b).alloc _).drew,show (b.alloc _).heap.size=_ by simp⟩
   rw[<-ah];refine hK.out _ _ F (λ_=>?_);clear hK K ah
   try simp only[zZ]
   refine zP 19 b.heap.size 0 F ?_;refine zd ?_;have O:=qF1 (qF1 ai.1 J.2 (λk' c t fr y I e=>absurd ((HP k' I).2 _ _ _ y) (by rw[e];decide))) (Z.tr V) (λ_ _ _ _ _ h=>by cases h);have a6:=J.out.2.size;have ag:=Z.out.size;have a3:=ai.out.2;obtain⟨v',w6,af,Y,N,ae⟩:=zS2 (u.alloc (.cells #[ϖ b.heap.size] 132)) base u.heap.size k.ts tbs.length (qJ3 tbs) (ϖ b.heap.size) 127 132 127 (.pointer none) underlying127 xD8 rfl (World.ownsRow.alloc O _) oM (υ _ _) rfl sO;have ad:=qN3 O N ac dC;have G:=qN3 O N F dC;obtain⟨T,U,a8⟩:=qP8 Y;subst a8;have ax:=zh Y;have au:=zh N;have aw:Hid (∀ i,oB (.slice T (tbs.length+1) U)=some i->k.ts.ownBlock=some i\/w1.heap.size<=i):=λi z=>(ae i z).imp id (λh=>by simp at h;omega);have aa:=zh ad;have Q:=zh G;have av:=zh V;have ay:=zh ag;have bz:=ζ G;have bx:=ζ F;rw[aj.out] at af;have H:=ξ F 11;simp only[kob,zG,zH,zI] at H;rw[aj.out] at H;have al:=φ G 11;have a9:=ξ G 11;simp only[kob,zG,zH,zI] at a9;clear a F G ac ad Y N O V a6 ag a3 a5 ae
   go_wp2_with (at_builtin;(with_reducible refine qL8 ?_ ?_ af ?_);rfl;rfl)
   go_ret;have a2:Kp (B::k.ts.ownBlock.toList) b w6:=(((av.mono sM).alloc _).grown au (λi z=>Or.inl (by simp[z])));have a1:Kp (B::k.ts.ownBlock.toList) w1 (w6.setCell ⟨B,11,none⟩ (.slice T (tbs.length+1) U)):=((Z.mono sM).trans a2 (λi z _=>z)).sc _;refine⟨sM,w1,x,b.heap.size,.slice T (tbs.length+1) U,_,J.1,J.2,ay,?_,μ Q 11 _,?_,a1,?_,aw⟩
   .exact (qB1 (ω aa Q dC) _ _).trans aa
   .refine qF1 (S:=[B]) (by rw[qJ3,List.map_append];exact ax) (kF.sc _) (λi c t fr y I=>?_);rw[mS I,Q.out] at y;cases y;decide
   .intro i z;simpa using z
end Go.Proofs.YtdohpenfkdckiaaGreatDoor
