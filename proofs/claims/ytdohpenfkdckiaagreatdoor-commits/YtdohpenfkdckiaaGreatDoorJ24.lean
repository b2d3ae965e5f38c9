import Derived.Test.YtdohpenfkdckiaaGreatDoorJ17
set_option linter.all false
set_option maxRecDepth 100000
set_option maxHeartbeats 20000000
namespace Go.Proofs.YtdohpenfkdckiaaGreatDoor
open Go.Proofs.Tryz
open Go.RowKit
theorem jW4(g F:Nat)(cap:Array Value)(p:KV)(b:Bool)(w:World)(a:w.heap[F]?=some (.cells #[.func (.func g) #[] cap] 92))
  (l:∀ (args:Array Value) (W:World),Sem.run prog (callFunc g args) W=.ok (.enter g args) W)
  (c:∀ W,Kp [] w W->Calls prog g (#[.string p.k]++cap) W λe W'=>e=.returned (.bool b)/\Kp [] W W'):
  Calls prog 155 #[.agg #[.string p.k,.string p.v],.pointer (some ⟨F,0,none⟩)] w λe i=>e=.returned (.bool b)/\Kp [] w i:=by
 have d:=zh c;clear c;have k:=ζ a;have j:=ϻ a 0;go_enter func155,ntmps155;go_wp2_with fail;refine (d _ (kF.alloc _)).mono ?_;rintro e w1 ⟨rfl,f⟩;have h:Kp [] w w1:=(kF.alloc _).tr f;go_wp2;go_ret;exact⟨rfl,h⟩
theorem jW5(g F:Nat)(cap:Array Value)(p:HL)(b:Bool)(w:World)(a:w.heap[F]?=some (.cells #[.func (.func g) #[] cap] 92))
  (l:∀ (args:Array Value) (W:World),Sem.run prog (callFunc g args) W=.ok (.enter g args) W)
  (c:∀ W,Kp [] w W->Calls prog g (#[.string p.key]++cap) W λe W'=>e=.returned (.bool b)/\Kp [] W W'):
  Calls prog 156 #[.agg #[.string p.key,.int .i64 p.b,.int .u64 p.s,.pointer p.ptr],.pointer (some ⟨F,0,none⟩)] w λe i=>e=.returned (.bool b)/\Kp [] w i:=by
 have d:=zh c;clear c;have k:=ζ a;have j:=ϻ a 0;go_enter func156,ntmps156;go_wp2_with fail;refine (d _ (kF.alloc _)).mono ?_;rintro e w1 ⟨rfl,f⟩;have h:Kp [] w w1:=(kF.alloc _).tr f;go_wp2;go_ret;exact⟨rfl,h⟩
theorem zM3(w)(o1 o2 o3 o4 o5):∃ w1,w1=((((w.alloc o1).alloc o2).alloc o3).alloc o4).alloc o5/\w1.heap[w.heap.size]?=some o1/\w1.heap[w.heap.size+1]?=some o2/\w1.heap[w.heap.size+1+1]?=some o3/\w1.heap[w.heap.size+1+1+1]?=some o4/\w1.heap[w.heap.size+1+1+1+1]?=some o5/\Kp [] w w1/\w1.heap.size=w.heap.size+5:=by
 refine⟨_,rfl,ν _ (ν _ (ν _ (ν _ (υ _ _)))),ν _ (ν _ (ν _ ?_)),ν _ (ν _ ?_),ν _ ?_,?_,((((kF.alloc _).alloc _).alloc _).alloc _).alloc _,sM⟩
 .have e:=υ (w.alloc o1) o2;simpa using e
 .have e:=υ ((w.alloc o1).alloc o2) o3;simpa using e
 .have e:=υ (((w.alloc o1).alloc o2).alloc o3) o4;simpa using e
 .have e:=υ ((((w.alloc o1).alloc o2).alloc o3).alloc o4) o5;simpa using e
structure LBox(E:SEnv)(r:HL)(q g:Nat)(cap:Array Value)(N:Nat)(w:World):Prop where
 t:w.heap[N]?=some (.cells #[.pointer (some ⟨E.V,0,none⟩),.string r.key,.int .i64 r.b,.int .u64 r.s,.pointer r.ptr] 89)
 n:w.heap[N+1]?=some (.cells #[.pointer (some ⟨q,0,none⟩)] 85)
 f:w.heap[N+1+1]?=some (.cells #[.func (.func g) #[] cap] 92)
 p:w.heap[N+1+1+1]?=some (.cells #[.string ⟨#[]⟩,.string ⟨#[]⟩] 42)
 b:w.heap[N+1+1+1+1]?=some (.cells #[.bool false] 4)
theorem SEnv.storeX{E:SEnv}{w W a:World}{k:Nat}(f:E.toEnv.To w W)(h:w.heap.size<=k)(g:∀ c t b,W.heap[k]?=some (.cells c t b)->t ∉ qL4)(hK:Kp [k] W a):E.toEnv.To w a:=
 ⟨E.keepX W a [k] f.dev hK (λi d c t b e=>by rw[mS d] at e;exact g c t b e),f.kp.trans hK (by intro i d j;simp at d;omega)⟩
theorem jX1(E:SEnv)(r:HL)(l:Lnk (Tn 0))(q:Nat)(g:Nat)(cap:Array Value)(f:ByteArray->Bool)(w:World)(hd:E.Dev w)(hN:RN E.O 0 w q l.sub)(hg:Good 0 l.key l.sub)(be:1<=Go.Proofs.YtdohpenfkdckiaaGreatDoor.cnt 0 l.sub)(af:qR2 f)(ha:Asks E.toEnv w g cap f)
  (bc:∀ (args:Array Value) (W:World),Sem.run prog (callFunc g args) W=.ok (.enter g args) W):
  Calls prog 99 #[τ E.V r,.pointer (some ⟨q,0,none⟩),.func (.func g) #[] cap] w λe w'=>e=.returned (qC7 (qF0 f (cont 0 l.sub)))/\E.toEnv.To w w':=by
 have bu:=zM;have bq:(prs l.sub).length<=10000:=qK0 0 l.key l.sub hg;have bf:1<=(prs l.sub).length:=be;have a5:Sorted (prs l.sub):=hg.sorted;have a9:=zh a5;have HD:=zh hd;have HA:=zh ha;have a7:=zh af;have a8:Hid (∀ i j (L:i<(prs l.sub).length) (hj:j<(prs l.sub).length),i<=j->f (prs l.sub)[j].k=true->f (prs l.sub)[i].k=true):=by
  show ∀ i j (L:i<(prs l.sub).length) (hj:j<(prs l.sub).length),_;intro i j L hj bt A;by_cases e:i=j
  .subst e;exact A
  .exact af _ _ (pG a5 i j L hj oM) A
 obtain⟨vp,M,a4⟩:=hN;have bg:=ζ M;have bh:q<w.heap.size+1:=oM
 have bi:q<w.heap.size+1+1:=oM
 have a2:q<w.heap.size+1+1+1:=oM
 have bj:q<w.heap.size+1+1+1+1:=oM
 have q0:=ξ M;simp only[ι,zG,zH,zI] at q0;clear hd af ha;rw[τ];go_enter func99,ntmps99;go_wp2_with fail;obtain⟨w1,a6,ba,aq,V,ao,av,H,bk⟩:=zM3 w (.cells (ϟ E.V r) 89) (.cells #[ϖ q] 85) (.cells #[.func (.func g) #[] cap] 92) (.cells ϝ 42) (.cells #[.bool false] 4);rw[<-a6];clear a6 q0 bg bh bi a2 bj bk ba;have ab:=Env.To.of0 HD H;have hq:=H.hp M;have ai:=a4.keep0 H;clear M a4;refine (jW8 155 _ vp (prs l.sub) (λp=>f p.k) w1 ai oM a8 ?_ ?_).mono ?_
 .intro args W;simp[go_sem,func155]
 .intro W an i L;exact jW4 g (w.heap.size+1+1) cap (prs l.sub)[i] (f (prs l.sub)[i].k) W (an.hp V) bc (λW' bb=>HA W' _ ((ab.tail an).tail bb))
 rintro e s ⟨rfl,k⟩;have au:=ab.tail k;have Z:=k.hp aq;have X:=k.hp V;have ap:=k.hp ao;have aw:=k.hp av;have N:=k.hp hq;have a3:=ai.keep0 k;obtain⟨i,ag⟩:∃ i,(prs l.sub).findIdx (λp=>!f p.k)-1=i:=⟨_,rfl⟩;have ay:i<(prs l.sub).length:=by
  have:(prs l.sub).findIdx (λp=>!f p.k)<=(prs l.sub).length:=fL;omega
 have u:=zh (xF7 a7 a9 ag ay);rw[ag];obtain⟨h,d,U,cur,G,rfl,bd,O,ax⟩:=a3.pair bf;obtain⟨c0,T⟩:=ax i ay;obtain⟨p,A⟩:=eY ((prs l.sub)[i]);rw[A] at c0 T u;obtain⟨m,hm⟩:=eY ((prs l.sub).length);rw[hm] at N bd;have bs:(i:Int)<(m:Int):=oM
 have R:=zh au;have Q:=zh (n2 ap aw);clear k au ao av aq V hq ai H ab ag a3 ax A ap aw;have az:=ξ O (d+i*2);rw[c0] at az;go_wp2_with fail;have a:s.drew.heap[w.heap.size+1]?=some (.cells #[ϖ q] 85)/\s.drew.heap[w.heap.size+1+1]?=some (.cells #[.func (.func g) #[] cap] 92)/\Ϙ s.drew q (ι 0 (.slice (some ⟨h,d,none⟩) m U) (.slice none 0 0))/\Ϙ s.drew h (.cells cur 185 G):=⟨Z,X,N,O⟩;refine wp_region_held_drew (S:=λW=>W.heap[w.heap.size+1]?=some (.cells #[ϖ q] 85)/\W.heap[w.heap.size+1+1]?=some (.cells #[.func (.func g) #[] cap] 92)/\Ϙ W q (ι 0 (.slice (some ⟨h,d,none⟩) m U) (.slice none 0 0))/\Ϙ W h (.cells cur 185 G)) kR a (λ_=>?_);refine zV 0 (.func (.func g) #[] cap) rfl (λW b=>by have c:=ξ b.2.1 0;simp only[zG,zH] at c;clear b;go_simp) a ?_;refine zV 1 (ϖ q) rfl (λW b=>by have c:=ξ b.1 0;simp only[zG,zH] at c;clear b;go_simp) a ?_;refine zP 2 q 0 a ?_;refine zP 3 q 1 a ?_;refine zV 4 (.slice (some ⟨h,d,none⟩) m U) rfl (λW b=>by have c:=ξ b.2.2.1 1;simp[ι] at c;clear b;go_simp) a ?_;refine zU 5 (ϊ i) a ?_;refine zU 6 (.pointer (some ⟨h,d+i*2,none⟩)) a ?_;refine zU 7 (.pointer (some ⟨h,d+i*2,none⟩)) a ?_;refine zU 8 (.pointer (some ⟨h,d+i*2,none⟩)) a ?_;refine zV 9 (.string p.k) rfl (λW b=>by have c:=ξ b.2.2.2 (d+i*2);rw[c0] at c;clear b;go_simp) a ?_;refine zq 10 λK hK=>?_;go_simp;refine (HA s.drew p.k (R.tail (kF.drew))).mono ?_;rintro e w3 ⟨rfl,am⟩;have n:=((Kp.refl [] s).drew).tr am;have ar:=n4 (n.hp Z) (n.hp X) (n.hp N) (n.hp O);refine hK.out _ _ ar (λ_=>?_);clear hK K a
 try simp only[zZ]
 refine zd ?_;have al:=zh (R.tail n);have o:=zh (n2 (n.hp Q.1) (n.hp Q.2));obtain⟨aa,_,ah,P⟩:=ar;obtain⟨I,J⟩:=o.out;have bo:=ζ aa;have a2:=ζ ah;have br:=ζ P;have bn:=ζ I;have bp:=ζ J;have a0:=ξ P (d+i*2);rw[c0] at a0;have a1:=ξ P (d+i*2+1);rw[T] at a1;have n0:=ϻ aa 0;have y1:=ξ ah 1;simp only[ι,zG,zH,zI] at y1;have z0:=ξ I;have bm:=φ I;have x0:=ϻ J 0;have bl:=φ J 0;clear am n R Q Z X N O c0 T az aa ah P I J
 cases hfp:f p.k with
 | true=>
  rw[hfp] at u;go_wp2;have aj:=qI2 (.string p.k) (.string p.v) o.1;obtain⟨F,ak,Y,x⟩:=gE aj;have z:=x.hp o.2;have ac:=al.out.store' oM o.1 dC x;rw[<-ak];have ae:=μ z 0 (.bool true);have y:(F.setCell ⟨w.heap.size+1+1+1+1,0,none⟩ (.bool true)).heap[w.heap.size+1+1+1]?=some (.cells #[.string p.k,.string p.v] 42):=(qB1 oM _ _).trans Y;have ad:=SEnv.storeX ac oM (λc t G e=>by rw[z] at e;cases e;decide) ((Kp.refl [w.heap.size+1+1+1+1] F).setCell (p:=⟨w.heap.size+1+1+1+1,0,none⟩) sM (.bool true));have B:=ξ y 0;have C:=ξ y 1;have D:=ξ ae 0;simp only[zG,zH,zI] at B C;simp at D;refine bodyPost_ret (v:=qC7 (some p)) ?_ rfl ⟨by rw[show cont 0 l.sub=prs l.sub from rfl,u.out];rfl,ad⟩;simp[results,results99,go_sem,B,C,D,qC7]
 | false=>
  rw[hfp] at u;go_wp2;have aj:=qI2 (.string ⟨#[]⟩) (.string ⟨#[]⟩) o.1;obtain⟨F,ak,Y,x⟩:=gE aj;have z:=x.hp o.2;have ac:=al.out.store' oM o.1 dC x;rw[<-ak];have ae:=μ z 0 (.bool false);have y:(F.setCell ⟨w.heap.size+1+1+1+1,0,none⟩ (.bool false)).heap[w.heap.size+1+1+1]?=some (.cells ϝ 42):=(qB1 oM _ _).trans Y;have ad:=SEnv.storeX ac oM (λc t G e=>by rw[z] at e;cases e;decide) ((Kp.refl [w.heap.size+1+1+1+1] F).setCell (p:=⟨w.heap.size+1+1+1+1,0,none⟩) sM (.bool false));have B:=ξ y 0;have C:=ξ y 1;have D:=ξ ae 0;simp only[zG,zH,zI] at B C;simp at D;refine bodyPost_ret (v:=qC7 none) ?_ rfl ⟨by rw[show cont 0 l.sub=prs l.sub from rfl,u.out];rfl,ad⟩;simp[results,results99,go_sem,B,C,D,qC7]
section
attribute [local go_sem] Oper.semAt_some
theorem xW6(p)(n c:Nat)(w):
  Calls prog 157 #[.slice p n c] w λe a=>e=.returned (.func (.func 220) #[] #[.pointer (some ⟨w.heap.size,0,none⟩)])/\a=w.alloc (.cells #[.slice p n c] 156):=by
 have b:=zM;go_enter func157,ntmps157;go_wp2;go_ret;exact⟨rfl,rfl⟩
structure LS0(E:SEnv)(r:HL)(q g:Nat)(cap:Array Value)(lv:Int)(vl:Value)(N Sx gb off k cp:Nat)(cur:Array Value)(fr:Nat × Nat)(w:World):Prop extends LBox E r q g cap N w where
 q_:w.heap[q]?=some (ι lv (.slice none 0 0) vl)
 s_:w.heap[Sx]?=some (.cells #[.slice (some ⟨gb,off,none⟩) k cp] 156)
 g_:w.heap[gb]?=some (.cells cur 87 fr)
theorem LS0.to{E}{r}{q g:Nat}{cap}{j:Int}{vl}{N c f l k e:Nat}{cur}{fr}{w0 w w'}(h:LS0 E r q g cap j vl N c f l k e cur fr w)(b:E.Dev w0)(m:w0.heap.size=N)(n:N<=c)(i:E.Dev w)(a:E.toEnv.To w w'):LS0 E r q g cap j vl N c f l k e cur fr w':=
 ⟨⟨a.new b oM h.t,a.new b oM h.n,a.new b oM h.f,a.new b oM h.p,a.new b oM h.b⟩,a.kp.heap h.q_ (λd=>E.apt _ i _ d _ _ _ h.q_ dC),a.new b oM h.s_,a.kp.heap h.g_ (λd=>E.apt _ i _ d _ _ _ h.g_ dC)⟩
theorem LS0.kp{E}{r}{q g:Nat}{cap}{i:Int}{vl}{N b d j k f M:Nat}{cur}{fr}{w w'}{L}(h:LS0 E r q g cap i vl N b d j k f cur fr w)(hK:Kp L w w')(o:∀ k∈L,(∀ c t fr,w.heap[k]?≠some (.cells c t fr))\/M<=k)(p:N+4<M)(l:q<M)(m:b<M)(n:d<M):LS0 E r q g cap i vl N b d j k f cur fr w':=by
 have a:∀ {k:Nat} {c:Array Value} {t:TypeId} {fr:Nat × Nat},Ϙ w k (.cells c t fr)->k<M->Ϙ w' k (.cells c t fr):=λhk hlt=>hK.heap hk (λhm=>by
  rcases o _ hm with e|e
  .exact e _ _ _ hk
  .omega)
 exact⟨⟨a h.t oM,a h.n oM,a h.f oM,a h.p oM,a h.b oM⟩,a h.q_ l,a h.s_ m,a h.g_ n⟩
structure LS(E:SEnv)(r x:HL)(q g:Nat)(cap:Array Value)(lv:Int)(vl:Value)(N Sx gb off k cp:Nat)(cur:Array Value)(fr:Nat × Nat)(X NR:Nat)(rec:Loop)(w:World):Prop extends LS0 E r q g cap lv vl N Sx gb off k cp cur fr w where
 x_:w.heap[X]?=some (qW0 x)
 l_:w.heap[NR+1]?=some (.loop rec)
 d_:w.heap[NR]?=some (.deferred (some []))
theorem LS.to{E}{r x}{q g:Nat}{cap}{i:Int}{vl}{N d f j k e:Nat}{cur}{fr}{X c:Nat}{l:Loop}{w0 w w'}(h:LS E r x q g cap i vl N d f j k e cur fr X c l w)(b:E.Dev w0)(m:w0.heap.size=N)(n:N<=d)(s:N<=X)(p:N<=c)(o:E.Dev w)(a:E.toEnv.To w w'):LS E r x q g cap i vl N d f j k e cur fr X c l w':=
 ⟨h.toLS0.to b m n o a,a.new b oM h.x_,a.new b oM h.l_,a.new b oM h.d_⟩
theorem LS.kp{E}{r x}{q g:Nat}{cap}{i:Int}{vl}{N d e j k f:Nat}{cur}{fr}{X c M:Nat}{l:Loop}{w w'}{L}(h:LS E r x q g cap i vl N d e j k f cur fr X c l w)(hK:Kp L w w')(b:∀ k∈L,M<=k)(m:N+4<M)(n:q<M)(o:d<M)(p:e<M)(t:X<M)(u:c+1<M):LS E r x q g cap i vl N d e j k f cur fr X c l w':=
 ⟨h.toLS0.kp hK (λk s=>.inr (b k s)) m n o p,hK.heap h.x_ (λa=>by have:=b _ a;omega),hK.heap h.l_ (λa=>by have:=b _ a;omega),hK.heap h.d_ (λa=>by have:=b _ a;omega)⟩
def LJ(E:SEnv)(n:Nat)(f:ByteArray→Bool)(ls:List (Lnk (Tn n)))(w0:World)(r:HL)(q g:Nat)(cap:Array Value)(lv:Int)(vl:Value)(N Sx gb off k cp:Nat)(cur:Array Value)(fr:Nat × Nat)(j:Nat)(W:World):Prop:=
 E.toEnv.To w0 W∧LS0 E r q g cap lv vl N Sx gb off k cp cur fr W∧qF0 f (((ls.take k).drop j).flatMap fun l=>cont n l.sub)=none
def LX(E:SEnv)(w0:World)(o:Option KV)(N:Nat)(W:World):Prop:=
 E.toEnv.To w0 W∧∃ p,o=some p∧W.heap[N+1+1+1]?=some (.cells #[.string p.k,.string p.v] 42)∧W.heap[N+1+1+1+1]?=some (.cells #[.bool true] 4)
theorem jW9(E:SEnv)(n:Nat)(g:Nat)(cap:Array Value)(f:ByteArray->Bool)(br:qR2 f)(dn:∀ (args:Array Value) (W:World),Sem.run prog (callFunc g args) W=.ok (.enter g args) W)
  (ih:∀ (r:HL) (l:Lnk (Tn n)) (q:Nat) (w:World),E.Dev w->RN E.O n w q l.sub->Good n l.key l.sub->1<=cnt n l.sub->Asks E.toEnv w g cap f->Calls prog 99 #[τ E.V r,.pointer (some ⟨q,0,none⟩),.func (.func g) #[] cap] w λe w'=>e=.returned (qC7 (qF0 f (cont n l.sub)))/\E.toEnv.To w w')
  (r:HL) (l:Lnk (Tn (n+1))) (q:Nat) (w:World) (hd:E.Dev w) (hN:RN E.O (n+1) w q l.sub) (hg:Good (n+1) l.key l.sub) (cy:1<=cnt (n+1) l.sub) (ha:Asks E.toEnv w g cap f):
  Calls prog 99 #[τ E.V r,.pointer (some ⟨q,0,none⟩),.func (.func g) #[] cap] w λe w'=>e=.returned (qC7 (qF0 f (cont (n+1) l.sub)))/\E.toEnv.To w w':=by
 have en:=zM;have co:=(qK0 (n+1) l.key l.sub hg).1;have cz:1<=(η l.sub).length:=cy;have bg:Hid (qF0 f (cont (n+1) l.sub)=qF0 f (((η l.sub).take ((η l.sub).findIdx (λl=>!f l.key)-1+1)).flatMap λl=>cont n l.sub)):=jX3 br hg.row;have bw:Hid (∀ z∈η l.sub,Good n z.key z.sub/\1<=cnt n z.sub):=λz hz=>⟨(hg.all z hz).1,by have:=(hg.all z hz).2.1;omega⟩;have b3:Hid ((η l.sub).Pairwise (qQ2 n)):=hg.pair;have db:=zh br;have R:=zh hd;have HA:=zh ha;have be:=ih;clear hd br ha hg cy ih;obtain⟨vl,aq,a,bv,am⟩:=hN;obtain⟨ls,cv⟩:=eY (η l.sub);rw[cv] at am co cz bg bw b3;clear cv;have bc:=zh am.1;have eg:a.length<=10000:=by rw[am.1];exact co
 have dq:1<=a.length:=by rw[am.1];exact cz
 obtain⟨D,F,u,cur,b,rfl,cq,bu,cr⟩:=bv.link dq;obtain⟨L,cw⟩:∃ L:Int,((n+1:Nat):Int)=L:=⟨_,rfl⟩;rw[cw] at aq;have b1:Hid (((n:Nat):Int)<L):=by show _<_;omega
 have em:¬L=0:=oM
 have c1:=ζ aq;have dy:q<w.heap.size+1:=oM
 have bt:q<w.heap.size+1+1:=oM
 have dz:q<w.heap.size+1+1+1:=oM
 have d0:q<w.heap.size+1+1+1+1:=oM
 have q0:=ξ aq;simp only[ι,zG,zH,zI] at q0;have bb:=zh am;have dc:=zh bv;have da:=zh cr;have b4:=zh (n2 c1 (ζ bu));clear am bv cr cw;rw[τ];refine (callsIn_wide (n:=9)).1 ?_;refine callsIn_of_wp_marks func99 rfl trivial ?_ rfl;simp only[ntmps99,List.size_toArray,lC,List.length_nil,Nat.reduceAdd,Nat.reduceSub,Array.replicate_succ,Array.replicate_zero,List.push_toArray,aT,nA,cA]
 gi_wp2_with fail
 refine⟨trivial,?_⟩;obtain⟨w1,c6,ca,cd,bh,cb,ck,ao,c3⟩:=zM3 w (.cells (ϟ E.V r) 89) (.cells #[ϖ q] 85) (.cells #[.func (.func g) #[] cap] 92) (.cells ϝ 42) (.cells #[.bool false] 4);rw[<-c6];clear c6 q0 c1 dy bt dz d0;have bn:=Env.To.of0 R ao;have c0:=ao.hp aq;have c5:=dc.out.keep0 ao;have c2:=ao.hp bu;have cx:a.findIdx (λp=>!f p.key)=ls.findIdx (λp=>!f p.key):=by
  have e:=bb.out.map_eq λx y V=>V.1;have h1:∀ (l:List HL),l.findIdx (λl=>!f l.key)=(l.map HL.key).findIdx (λk=>!f k):=λl=>by rw[List.findIdx_map];rfl
  have h2:∀ (l:List (Lnk (Tn n))),l.findIdx (λl=>!f l.key)=(l.map Lnk.key).findIdx (λk=>!f k):=λl=>by rw[List.findIdx_map];rfl
  rw[h1,h2,e]
 have cs:∀ i j (hi:i<a.length) (hj:j<a.length),i<=j->f a[j].key=true->f a[i].key=true:=by
  intro i j hi hj eh I;by_cases e:i=j
  .subst e;exact I
  .exact db _ _ ((zB0 bb b3).at hi hj oM) I
 obtain⟨i,bs⟩:∃ i,ls.findIdx (λp=>!f p.key)-1=i:=⟨_,rfl⟩;have cu:i<a.length:=by
  have:ls.findIdx (λp=>!f p.key)<=ls.length:=fL;have:=bc.out;omega
 refine callsIn_wide.2 ((zO0 156 #[ϖ (w.heap.size+1+1)] (.slice (some ⟨D,F,none⟩) a.length u) a (λp=>f p.key) w1 c5 oM cs (λargs W=>by simp[go_sem,func156])
   (λW2 G j hj=>jW5 g (w.heap.size+1+1) cap a[j] (f a[j].key) W2 (G.hp bh) dn (λW' hK'=>HA W' _ ((bn.tail G).tail hK')))).mono ?_)
 rintro e w2 ⟨rfl,G⟩;rw[cx,bs];have bx:=zh bs;have ci:=bn.tail G;have af:Hid (LBox E r q g cap w.heap.size w2):=⟨G.hp ca,G.hp cd,G.hp bh,G.hp cb,G.hp ck⟩;have bm:=af.out.n;have a6:=G.hp c0;have b7:=zh ci;have bf:=zh (n2 a6 (G.hp c2));have di:=ζ bm;have bt:=ζ a6;have n0:=ϻ bm 0;have y2:=ξ a6 2;simp only[ι,zG,zH,zI] at y2;obtain⟨k,hk⟩:∃ k:Nat,k=i+1:=⟨_,rfl⟩;have dt:(k:Int)<=(a.length:Int):=oM
 have du:(k:Int)<=(u:Int):=oM
 have dx:(a.length:Int)<=(u:Int):=oM
 have HK:=zh (n3 hk cu cq);have d2:=G.size;have d5:wrap64 ((i:Int)+1)=(k:Int):=by simp only[wrap64];omega
 clear hk cu cq;have b5:=zh c3;clear G ci bn ao ca cd bh cb ck c3 c0 c5 c2 cx cs bs bm a6 aq bu
 gi_wp2_with fail
 refine⟨trivial,?_⟩;refine callsIn_wide.2 ((xW6 _ _ _ w2).mono ?_);rintro e A ⟨rfl,a8⟩;have cg:Ϙ A w2.heap.size (.cells #[.slice (some ⟨D,F,none⟩) k u] 156):=by rw[a8];exact υ _ _
 have U:Kp [] w2 A:=by rw[a8];exact kF.alloc _
 have de:=zh (b7.tail U);have b0:Hid (LS0 E r q g cap L (.slice (some ⟨D,F,none⟩) a.length u) w.heap.size w2.heap.size D F k u cur b A):=⟨⟨U.hp af.t,U.hp af.n,U.hp af.f,U.hp af.p,U.hp af.b⟩,U.hp bf.1,cg,U.hp bf.2⟩;have d1:w.heap.size+5<=w2.heap.size:=by have:=b5.out;omega
 have c4:A.heap.size=w2.heap.size+1:=by rw[a8];simp
 obtain⟨Sx,ch⟩:=eX w2.heap.size;rw[<-ch] at b0 d1 c4 |-;clear a8 cg U ch n0 y2 dt du dx d5 di bt af bf b7 d2 b5
 gi_wp2_with fail
 have ei:k<=i+1:=by have:=HK.out;omega
 have ej:i+1<=k:=by have:=HK.out;omega
 have ek:=HK.out.2.1;have el:=HK.out.2.2;have es:Sx+1<=A.heap.size:=oM
 have er:=b4.out.1;have ef:=b4.out.2;clear c4;refine kS6 Sx D F k u cur b a dC oM oM oM rfl rfl da (LJ E n f ls w r q g cap L (.slice (some ⟨D,F,none⟩) a.length u) w.heap.size Sx D F k u cur b) (LX E w (qF0 f (cont (n+1) l.sub)) w.heap.size) ?JK ?JxK (λi W h=>⟨h.2.1.s_,h.2.1.g_⟩) ?J0 (λj x X=>{ tmps:=#[.agg (ϟ E.V r),ϖ q,.func (.func g) #[] cap,ϖ w.heap.size,ϖ (w.heap.size+1),ϖ (w.heap.size+1+1),ϖ (w.heap.size+1+1+1),ϖ (w.heap.size+1+1+1+1),undef,ϊ i,undef,ϖ X,undef,undef,ϖ q,ϖ q,ϖ q,ϊ L,.bool false,undef,undef,undef,undef,undef,undef,undef,undef,undef,undef,undef,undef,undef,undef,undef,undef,undef,undef,undef,undef,undef,undef,undef,undef,undef,undef,ϖ q,ϖ q,.pointer (some ⟨q,2,none⟩),.slice (some ⟨D,F,none⟩) a.length u,.func (.func 156) #[] #[ϖ (w.heap.size+1+1)],ϊ i,ϖ q,ϖ q,.pointer (some ⟨q,2,none⟩),.slice (some ⟨D,F,none⟩) a.length u,ϊ i,ϊ (wrap64 (i+1)),.slice (some ⟨D,F,none⟩) k u,.func (.func 220) #[] #[ϖ Sx],ϊ j,zA0 x,undef,undef,undef,undef,undef,undef,undef,undef,undef,undef,undef,undef,undef,undef,undef,undef],defers:=[] }) ?assign ?body ?done ?stop
 case JK=>
  rintro j W W' ⟨h1,h2,h3⟩ hK ⟨ba,V⟩;have a4:∀ c t b,W.heap[A.heap.size+1]?≠some (.cells c t b):=λc t b e=>by rw[V] at e;cases e
  exact⟨SEnv.storeX h1 oM (λc t b e=>absurd e (a4 c t b)) hK,h2.kp (M:=A.heap.size) hK (λk hk=>.inl (by rw[mS hk];exact a4)) oM oM oM oM,h3⟩
 case JxK=>
  rintro W W' ⟨h1,p,h2,h3,h4⟩ hK ⟨ba,V⟩;have a4:∀ c t b,W.heap[A.heap.size+1]?≠some (.cells c t b):=λc t b e=>by rw[V] at e;cases e
  exact⟨SEnv.storeX h1 oM (λc t b e=>absurd e (a4 c t b)) hK,p,h2,hK.ho h3,hK.ho h4⟩
 case J0=>
  intro W hK;refine⟨de.tail hK,b0.kp (M:=A.heap.size) hK sM oM oM oM oM,?_⟩;rw[List.drop_eq_nil_of_le sO];rfl
 case assign=>
  intro lp j hj W K hK;obtain⟨x,hx⟩:=eY (a[j]);rw[hx] at hK |-;clear hx;have bz:=hK;clear hK;rw[zA0];have ct:=bz (W.alloc (qW0 x)) (υ _ _) (kF.alloc _);rw[zA0,qW0] at ct;clear bz
  gi_wp2
  exact ct
 case body=>
  rintro lp j hj W X ⟨Q,C,ai⟩ hX ec ⟨ba,V⟩ bq;have dr:j<ls.length:=by have:=bc.out;omega
  obtain⟨z,hz⟩:∃ z,ls[j]?=some z:=⟨_,gQ dr⟩;obtain⟨dw,c9⟩:=gS hz;have a7:=bb.out.2 j oM dw;rw[c9] at a7;obtain⟨x,c8⟩:=eY (a[j]);rw[c8] at hX a7 |-;have ce:=Env.RL a7 R Q;have aj:=zh (bw z (mO hz));have b2:=zh ai;have b6:Hid (((ls.take k).drop j).flatMap (λl=>cont n l.sub)=cont n z.sub++((ls.take k).drop (j+1)).flatMap (λl=>cont n l.sub)):=by
   show _=_;have ds:j<(ls.take k).length:=by have:=bc.out;simp;omega
   rw[dG ds,fC]
   congr 1
   have:(ls.take k)[j]=z:=by
    rw[List.getElem_take];exact (gS hz).2
   rw[this]
  have dd:Hid (ls.take (ls.findIdx (λl=>!f l.key)-1+1)=(ls.take k).take j++(ls.take k).drop j):=by
   show _=_;rw[tD,bx.out,HK.out.1]
  have ar:=zh (n2 V bq);have B:Hid (w.heap.size<=Sx/\w.heap.size<=X/\w.heap.size<=A.heap.size):=⟨oM,oM,oM⟩;obtain⟨fk,fv,fb,T⟩:∃ fk fv fb,qC7 (qF0 f (cont n z.sub))=.tuple #[.agg #[.string fk,.string fv],.bool fb]:=by
   cases qF0 f (cont n z.sub) with
   | none=>exact⟨_,_,_,rfl⟩
   | some p=>exact⟨_,_,_,rfl⟩
  have ae:=zh T;have O:LS E r x q g cap L (.slice (some ⟨D,F,none⟩) a.length u) w.heap.size Sx D F k u cur b X A.heap.size ba W.drew:=⟨⟨⟨C.t,C.n,C.f,C.p,C.b⟩,C.q_,C.s_,C.g_⟩,hX,V,bq⟩;have ax:=Q.tail (kF.drew);have cf:=RL.keep ce ((Kp.refl [] _).drew) (Apt.nil _ _);have dm:=ζ hX;clear T hz c9 a7 c8 ce ai hX V bq Q C
  gi_wp2_with fail
  refine kS9 (S:=LS E r x q g cap L (.slice (some ⟨D,F,none⟩) a.length u) w.heap.size Sx D F k u cur b X A.heap.size ba) kR kR ?_ O (λ_=>?_)
  .rintro⟨_,_,h⟩;exact h
  refine zV 0 (.agg (ϟ E.V r)) rfl (λW d=>by have a0:=ξ d.t;clear d;go_simp) O ?_;refine zV 1 (.agg (ϟ E.V r)) rfl (λW d=>by have a0:=ξ d.t;clear d;go_simp) O ?_;refine zV 2 (.agg (ϡ x)) rfl (λW d=>by have a0:=ξ d.x_ 0;have a1:=ξ d.x_ 1;have a2:=ξ d.x_ 2;have a3:=ξ d.x_ 3;simp only[qW0,zG,zH,zI] at a0 a1 a2 a3;clear d;go_simp) O ?_;refine zV 3 (ϖ q) rfl (λW d=>by have c:=ξ d.n 0;simp only[zG,zH] at c;clear d;go_simp) O ?_;refine zP 4 q 0 O ?_;refine zP 5 q 0 O ?_;refine zV 6 (ϊ L) rfl (λW d=>by have c:=ξ d.q_ 0;simp[ι] at c;clear d;go_simp) O ?_;refine zV 8 (.func (.func g) #[] cap) rfl (λW d=>by have c:=ξ d.f 0;simp only[zG,zH] at c;clear d;go_simp) O ?_;refine zr 7 13 (λK hK=>?_) λK hK=>?_
  focus
   go_simp;refine (qJ4 E.toEnv n x r z L W.drew ax.dev cf b1).mono ?_;rintro e Y ⟨q1,rfl,aa,m⟩;have P:=ax.trans m;have ah:=O.to R rfl B.1 B.2.1 B.2.2 ax.dev m;refine zk hK ah ?_
   refine zr 9 13 (λK hK=>?_) λK hK=>?_
   focus
    go_simp;refine (be r z q1 Y P.dev aa aj.1 aj.2 (HA.to P)).mono ?_;rintro e s ⟨rfl,m⟩;rw[ae.out];have v:=P.trans m;have J:=ah.to R rfl B.1 B.2.1 B.2.2 P.dev m;refine zk hK J ?_
    refine zU 10 (.tuple #[.agg #[.string fk,.string fv],.bool fb]) J ?_;refine zU 11 (.agg #[.string fk,.string fv]) J ?_;refine zU 12 (.bool fb) J ?_;refine zq 13 λK hK=>?_;go_simp;have ap:=ζ J.x_;obtain⟨w6,ad,o,N⟩:=alA s (.cells ϝ 42);rw[<-ad];clear ad;have ac:=v.tail N;have H:=J.kp (M:=s.heap.size) N sM oM oM oM oM oM oM;refine zk hK H ?_
    generalize s.heap.size=LB at o ap |-
   rotate_left
   focus
    go_simp;have ap:=ζ ah.x_;obtain⟨s,ad,ab,N⟩:=alA Y (.cells ϝ 42);rw[<-ad];clear ad;have v:=P.tail N;have J:=ah.kp (M:=Y.heap.size) N sM oM oM oM oM oM oM;refine zk hK J ?_
    have dg:=RN.keep N (Apt.nil _ _) n q1 _ aa;clear aa;have aa:=dg;refine zq 9 λK hK=>?_;go_simp;refine (be r z q1 s v.dev aa aj.1 aj.2 (HA.to v)).mono ?_;rintro e w6 ⟨rfl,m⟩;rw[ae.out];have ac:=v.trans m;have H:=J.to R rfl B.1 B.2.1 B.2.2 v.dev m;refine zk hK H ?_
    have o:=m.new R oM ab;refine zU 10 (.tuple #[.agg #[.string fk,.string fv],.bool fb]) H ?_;refine zU 11 (.agg #[.string fk,.string fv]) H ?_;refine zU 12 (.bool fb) H ?_;generalize Y.heap.size=LB at o ap |-
  rotate_left 2
  focus
   go_simp;obtain⟨Y,ad,bl,N⟩:∃ w',w'=(W.alloc (.cells ϝ 42)).drew/\Ϙ w' W.heap.size (.cells ϝ 42)/\Kp [] W.drew w':=⟨_,rfl,υ _ _,(Kp.refl _ W.drew).alloc _⟩;rw[<-ad];clear ad;have P:=ax.tail N;have ah:=O.kp (M:=W.heap.size) N sM oM oM oM oM oM oM;refine zk hK ah ?_
   have dj:=RL.keep cf N (Apt.nil _ _);refine zq 7 λK hK=>?_;go_simp;refine (qJ4 E.toEnv n x r z L Y P.dev dj b1).mono ?_;rintro e s ⟨q1,rfl,aa,m⟩;have v:=P.trans m;have J:=ah.to R rfl B.1 B.2.1 B.2.2 P.dev m;refine zk hK J ?_
   have ab:=m.new R oM bl;refine zq 9 λK hK=>?_;go_simp;refine (be r z q1 s v.dev aa aj.1 aj.2 (HA.to v)).mono ?_;rintro e w6 ⟨rfl,m⟩;rw[ae.out];have ac:=v.trans m;have H:=J.to R rfl B.1 B.2.1 B.2.2 v.dev m;refine zk hK H ?_
   have o:=m.new R oM ab;have ap:=dm;refine zU 10 (.tuple #[.agg #[.string fk,.string fv],.bool fb]) H ?_;refine zU 11 (.agg #[.string fk,.string fv]) H ?_;refine zU 12 (.bool fb) H ?_;generalize W.heap.size=LB at o ap |-
  all_goals
   have ea:=ζ o;have z0:=ξ o;have b9:=φ o;refine zq 14 λK hK=>?_;go_simp;have an:=qI2 (.string fk) (.string fv) o;obtain⟨w7,c7,aw,bk⟩:=gE an;rw[<-c7];clear c7 an z0 b9;have cj:=SEnv.storeX ac oM (λc t b e=>by rw[o] at e;cases e;decide) bk;have al:=H.kp (M:=LB) bk sM oM oM oM oM oM oM;refine zk hK al ?_
   refine zq 15 λK hK=>?_;go_simp;refine zk hK al ?_
   refine zd ?_;have b8:=zh cj;have Z:=zh al;have d6:=zh aw;have eb:=ζ aw;have a5:=al.p;have az:=al.b;have ep:=ζ a5;have ee:=ζ az;have z0:=ξ aw;have x0:=ξ a5;have d9:=φ a5;have v0:=ϻ az 0;have d7:=φ az 0;clear cj al aw a5 az bk ac H o m aa N
   cases hfd:qF0 f (cont n z.sub) with
   | none=>
    have T:=ae.out;rw[hfd] at T;simp only[qC7,Value.tuple.injEq,Array.mk.injEq,List.cons.injEq,Value.agg.injEq,Value.string.injEq,Value.bool.injEq,and_true] at T;obtain⟨⟨rfl,rfl⟩,rfl⟩:=T;have bd:=zh hfd;clear hfd ae
    gi_wp2
    refine⟨⟨b8,Z.toLS0,?_⟩,Z.l_.trans ar.1.symm,Z.d_.trans ar.2.symm⟩;rw[b6.out,qT6,b2.out,bd.out];rfl
   | some p=>
    have T:=ae.out;rw[hfd] at T;simp only[qC7,Value.tuple.injEq,Array.mk.injEq,List.cons.injEq,Value.agg.injEq,Value.string.injEq,Value.bool.injEq,and_true] at T;obtain⟨⟨rfl,rfl⟩,rfl⟩:=T;have bd:=zh hfd;clear hfd ae
    gi_wp2
    have an:=qI2 (.string p.k) (.string p.v) Z.p;obtain⟨w8,d4,dh,au⟩:=gE an;rw[<-d4];have cm:=au.hp Z.b;have dk:=SEnv.storeX b8 oM (λc t b e=>by rw[Z.out.p] at e;cases e;decide) au;have av:Kp [w.heap.size+1+1+1+1] w8 (w8.setCell ⟨w.heap.size+1+1+1+1,0,none⟩ (.bool true)):=kF.sc _;have dl:=SEnv.storeX dk oM (λc t b e=>by rw[cm] at e;cases e;decide) av;have dv:=av.heap (au.ho Z.l_) sO;have dp:=av.heap (au.ho Z.d_) sO;refine⟨⟨dl,p,?_,av.hp dh,μ cm 0 _⟩,dv.trans ar.1.symm,dp.trans ar.2.symm⟩;rw[bg.out,dd.out,fA,qT6,b6.out,qT6,b2.out,bd.out];rfl
 case done=>
  rintro W ⟨Q,C,ai⟩ hD;have eo:=ζ C.p;have ed:=ζ C.b;have I:=C.p;have hb:=C.b;have z0:=ξ I;have b9:=φ I;have v0:=ϻ hb 0;have d8:=φ hb 0;have HW:=zh (n5 Q I hb hD ai);clear Q C ai hD I hb
  gi_wp2
  obtain⟨Q,I,hb,hD,ai⟩:=HW.out;have bo:qF0 f (cont (n+1) l.sub)=none:=by
   rw[bg.out,bx.out,<-HK.out.1];simpa using ai
  rw[bo];have an:=qI2 (.string ⟨#[]⟩) (.string ⟨#[]⟩) I;obtain⟨Y,d3,bl,bi⟩:=gE an;rw[<-d3];have cl:=bi.hp hb;have df:=bi.ho hD;have P:=SEnv.storeX Q oM (λc t b e=>by rw[I] at e;cases e;decide) bi;obtain⟨s,a9,bj⟩:∃ s,s=Y.setCell ⟨w.heap.size+1+1+1+1,0,none⟩ (.bool false)/\Kp [w.heap.size+1+1+1+1] Y s:=⟨_,rfl,kF.sc _⟩;have ay:s.heap[w.heap.size+1+1+1+1]?=some (.cells #[.bool false] 4):=by rw[a9];exact μ cl 0 _
  rw[<-a9];have ab:=bj.hp bl;have ak:=bj.ho df;have v:=SEnv.storeX P oM (λc t b e=>by rw[cl] at e;cases e;decide) bj;refine⟨sM,.inl ⟨_,_,rfl,run_takeDeferred ak,?_⟩⟩;have ag:Kp [A.heap.size] s (s.putObj A.heap.size (.deferred none)):=kF.putObj sM _;have o:=ag.ho ab;have bp:=ag.ho ay;have ac:=SEnv.storeX v oM (λc t b e=>by rw[ak] at e;cases e) ag;have t0:=ξ o 0;have t1:=ξ o 1;have t2:=ξ bp 0;simp only[zG,zH,zI] at t0 t1 t2;refine⟨qC7 (none),?_,rfl,ac⟩;simp[results,results99,go_sem,t0,t1,t2,qC7]
 case stop=>
  rintro W ⟨Q,p,I,cc,cn⟩ hD;have HW:=zh (n5 Q I cc cn hD);clear Q I cc cn hD
  gi_wp2
  obtain⟨v,bo,ab,ay,ak⟩:=HW.out;rw[bo];obtain⟨s,a9⟩:=eX W;rw[<-a9] at v ab ay ak |-;refine⟨sM,.inl ⟨_,_,rfl,run_takeDeferred ak,?_⟩⟩;have ag:Kp [A.heap.size] s (s.putObj A.heap.size (.deferred none)):=kF.putObj sM _;have o:=ag.ho ab;have bp:=ag.ho ay;have ac:=SEnv.storeX v oM (λc t b e=>by rw[ak] at e;cases e) ag;have t0:=ξ o 0;have t1:=ξ o 1;have t2:=ξ bp 0;simp only[zG,zH,zI] at t0 t1 t2;refine⟨qC7 (some p),?_,rfl,ac⟩;simp[results,results99,go_sem,t0,t1,t2,qC7]
end
theorem jX2(E:SEnv)(g:Nat)(cap:Array Value)(f:ByteArray->Bool)(j:qR2 f)(i:∀ (args:Array Value) (W:World),Sem.run prog (callFunc g args) W=.ok (.enter g args) W):∀ (n:Nat) (r:HL) (l:Lnk (Tn n)) (q:Nat) (w:World),E.Dev w->RN E.O n w q l.sub->Good n l.key l.sub->1<=cnt n l.sub->Asks E.toEnv w g cap f->
  Calls prog 99 #[τ E.V r,.pointer (some ⟨q,0,none⟩),.func (.func g) #[] cap] w λe m=>e=.returned (qC7 (qF0 f (cont n l.sub)))/\E.toEnv.To w m:=by
 intro n
 induction n with
 | zero=>intro r l q w b d c h a;exact jX1 E r l q g cap f w b d c h j a i
 | succ n ih=>intro r l q w b d c h a;exact jW9 E n g cap f j i (λr l q w b d c k a=>ih r l q w b d c k a) r l q w b d c h a
theorem xP8(E:SEnv)(r:Root)(h:HL)(g:Nat)(cap:Array Value)(f:ByteArray->Bool)(w:World)(Z:E.Dev w)(T:RR E.toEnv w h r)(hg:RGood r)(ac:qR2 f)(Y:Asks E.toEnv w g cap f)
  (an:∀ (args:Array Value) (W:World),Sem.run prog (callFunc g args) W=.ok (.enter g args) W):
  Calls prog 55 #[τ E.V h,.func (.func g) #[] cap] w λe L=>e=.returned (qC7 (qF0 f r.cont))/\E.toEnv.To w L:=by
 have d:=zh Z;have O:=zh T;have HG:=zh hg;have HA:=zh Y;have aj:=zh ac;clear Z T hg Y ac;rw[τ];go_enter func55,ntmps55;go_wp2_with fail;obtain⟨A,ad,B,x,C,ao⟩:=alC w (.cells (ϟ E.V h) 89) (.cells ϝ 42)
 rw[<-ad];clear ad;have s:=Env.To.of0 d C
 cases r with
 | none=>
  have hh:h=⟨⟨#[]⟩,0,0,none⟩:=O.out;have aa:Ω 92 #[τ E.V h] A λe L=>e=ϱ (.bool true)/\Kp [] A L:=by rw[hh];exact qY7 E.V A
  have af:=zh aa;clear hh aa;refine (show Calls _ _ _ _ _ from af).mono ?_;rintro e w1 ⟨rfl,b⟩;have y:=s.tail b;have c:=b.hp x;have al:=ζ c;have z0:=ξ c;have P:=φ c;have N:=zh c;clear c B x C b s;go_wp2;have m:=qI2 (.string ⟨#[]⟩) (.string ⟨#[]⟩) N.out;have z:=y.store' oM N dC m.2;have t:=ξ m.1 0;have u:=ξ m.1 1;simp only[zG,zH,zI] at t u;refine bodyPost_ret (v:=qC7 none) ?_ rfl ⟨rfl,z⟩;simp[results,results55,go_sem,t,u,qC7]
 | «at» n l=>
  have F:RL E.O n w h l:=O.out;obtain⟨g1,Q,g3⟩:=HG.out;refine (qV1 E.toEnv n h l A (Env.RL F d s) g1).mono ?_;rintro e w1 ⟨rfl,b⟩;have y:=s.tail b;have R:=b.hp B;have c:=b.hp x;have ah:=zh (Env.RL F d y);have ag:=zh Q;have am:1<=cnt n l.sub:=oM
  obtain⟨fk,fv,fb,ab⟩:∃ fk fv fb,qC7 (qF0 f (cont n l.sub))=.tuple #[.agg #[.string fk,.string fv],.bool fb]:=by
   cases qF0 f (cont n l.sub) with
   | none=>exact⟨_,_,_,rfl⟩
   | some p=>exact⟨_,_,_,rfl⟩
  have M:=zh ab;clear B x C s b ab F Q;go_wp2_with fail;have j:=R;refine wp_region_held_drew (S:=λW=>Ϙ W w.heap.size (.cells (ϟ E.V h) 89)) kR j (λ_=>?_);refine zW 0 (.agg (ϟ E.V h)) j id ?_;refine zW 1 (.agg (ϟ E.V h)) j id ?_;refine zU 3 (.func (.func g) #[] cap) j ?_;refine zq 2 λK hK=>?_;go_simp;have J:=y.tail (kF.drew);refine (qX3 E.toEnv n h l w1.drew J.dev (RL.keep ah ((Kp.refl [] _).drew) (Apt.nil _ _))).mono ?_;rintro e w2 ⟨q,rfl,ak,a⟩;have I:=J.trans a;have G:=a.new (k:=w.heap.size) d oM j;have U:=a.new (k:=w.heap.size+1) d oM c;refine zk hK G ?_
  clear a J j c R;refine zq 4 λK hK=>?_;go_simp;refine (jX2 E g cap f aj an n h l q w2 I.dev ak ag am (HA.to I)).mono ?_;rintro e w3 ⟨rfl,a⟩;rw[M.out];have z:=I.trans a;have o:=a.new (k:=w.heap.size) d oM G;have i:=a.new (k:=w.heap.size+1) d oM U;refine zk hK o ?_
  clear a G U;refine zU 5 (.agg #[.string fk,.string fv]) o ?_;refine zU 6 (.bool fb) o ?_;have al:=ζ i;have z0:=ξ i;have P:=φ i;refine zq 7 λK hK=>?_;go_simp;have m:=qI2 (.string fk) (.string fv) i;obtain⟨w4,ae,V,D⟩:=gE m;rw[<-ae];clear ae m z0 P;have X:=z.store' oM i dC D;have H:=D.hp o;refine zk hK H ?_
  refine zq 8 λK hK=>?_;go_simp;refine zk hK H ?_
  refine zd ?_;have ai:=zh X;clear H o X z D i;go_wp2;have t:=ξ V 0;have u:=ξ V 1;simp only[zG,zH,zI] at t u;refine bodyPost_ret (v:=.tuple #[.agg #[.string fk,.string fv],.bool fb]) ?_ rfl ⟨?_,ai⟩
  .simp[results,results55,go_sem,t,u]
  .rw[show (Root.at n l).cont=cont n l.sub from rfl,M.out]
def qD3(x:Nat)(key:ByteArray)(since:Int):Obj:=.cells #[.pointer (some ⟨x,0,none⟩),.string key,.int .u64 since] 80
structure MvIn(E:SEnv)(Fb Cc Ff P B Cb x g:Nat)(capf:Array Value)(fh:Bool)(key:ByteArray)(since:Int)(t:Tx)(w:World):Prop where
 hFb:w.heap[Fb]?=some (.cells #[.bool fh] 4)
 hCc:w.heap[Cc]?=some (.cells #[.pointer (some ⟨Cb,0,none⟩)] 36)
 hFf:w.heap[Ff]?=some (.cells #[.func (.func g) #[] capf] 93)
 hP:w.heap[P]?=some (.cells #[.string ⟨#[]⟩,.string ⟨#[]⟩] 42)
 hB:w.heap[B]?=some (.cells #[.bool false] 4)
 hCb:w.heap[Cb]?=some (qD3 x key since)
 hx:w.heap[x]?=some (qA1 t)
 on:t.on=some ⟨E.V,0,none⟩
 dev:E.Dev w
 ne:Fb≠B
theorem kA5(E)(k j l P B m x g:Nat)(capf)(key)(i:Int)(t)(w)(h:MvIn E k j l P B m x g capf true key i t w)(d:key.toList.isEmpty=true\/i≠t.ch):
  Calls prog 91 #[.pointer (some ⟨k,0,none⟩),.pointer (some ⟨j,0,none⟩),.pointer (some ⟨l,0,none⟩),.pointer (some ⟨P,0,none⟩),.pointer (some ⟨B,0,none⟩)] w λe q=>e=qB5 (some 11)/\Kp [] w q:=by
 have c:=h.hFb;have b:=h.hCc;have a:=h.hCb;have f:=h.hx;have u:=ζ c;have v:=ζ b;have y:=ζ a;have z:=ζ f;have s:=ϻ c 0;have c0:=ϻ b 0;have n:=ξ a 0;have o:=ξ a 1;have p:=ξ a 2;simp only[qD3,zG,zH,zI] at n o p;have r:=ξ f 9;simp only[qA1,zG,zH,zI] at r;clear h c b a f
 cases hk0:key.toList.isEmpty with
 | true=>
  clear d;go_enter func91,ntmps91;go_wp2_with fail
  go_quiet (fail)
  go_wp2;exact⟨rfl,rfl,rfl,kF.drewN _⟩
 | false=>
  have A:¬i=t.ch:=by
   rcases d with h|h
   .rw[h] at hk0;cases hk0
   .exact h
  clear d;go_enter func91,ntmps91;go_wp2_with fail
  go_quiet (fail)
  go_wp2;exact⟨rfl,rfl,rfl,kF.drewN _⟩
structure MvS(Cc Ff Cb x g:Nat)(capf:Array Value)(t:Tx)(w:World):Prop where
 c:w.heap[Cc]?=some (.cells #[.pointer (some ⟨Cb,0,none⟩)] 36)
 f:w.heap[Ff]?=some (.cells #[.func (.func g) #[] capf] 93)
 b:∃ k s,w.heap[Cb]?=some (qD3 x k s)
 x_:w.heap[x]?=some (qA1 t)
theorem MvS.kp{d f b x g:Nat}{capf}{t}{w w'}{L}(h:MvS d f b x g capf t w)(hK:Kp L w w')(i:∀ k∈L,∀ c u fr,w.heap[k]?=some (.cells c u fr)->u=42\/u=4\/u=38\/u∈qL4):MvS d f b x g capf t w':=by
 have a:∀ {k:Nat} {c:Array Value} {u:TypeId} {fr:Nat × Nat},Ϙ w k (.cells c u fr)->(u≠42/\u≠4/\u≠38/\u ∉ qL4)->Ϙ w' k (.cells c u fr):=λhk hu=>hK.heap hk (λhm=>by
  rcases i _ hm _ _ _ hk with e|e|e|e
  .exact hu.1 e
  .exact hu.2.1 e
  .exact hu.2.2.1 e
  .exact hu.2.2.2 e)
 obtain⟨k,s,j⟩:=h.b;exact⟨a h.c dC,a h.f dC,⟨k,s,a j dC⟩,a h.x_ dC⟩
theorem MvS.to{E:SEnv}{d e c x g:Nat}{f:Array Value}{t:Tx}{w i:World}(h:MvS d e c x g f t w)(b:E.Dev w)(a:E.toEnv.To w i):MvS d e c x g f t i:=by
 obtain⟨k,s,j⟩:=h.b;exact⟨E.stay b a h.c dC,E.stay b a h.f dC,⟨k,s,E.stay b a j dC⟩,E.stay b a h.x_ dC⟩
theorem kA4(E)(Fb r L P B a x g:Nat)(capf)(V:Bool)(key)(a5:Int)(t)(o:Option KV)(w)(h:MvIn E Fb r L P B a x g capf V key a5 t w)(D:V=true->key.toList.isEmpty=false/\a5=t.ch)
  (bg:∀ (args) (W),Sem.run prog (callFunc g args) W=.ok (.enter g args) W)
  (ar:∀ W,E.toEnv.To w W->Calls prog g (#[τ E.V t.h]++capf) W λe W'=>e=.returned (qC7 o)/\E.toEnv.To W W'):
  Calls prog 91 #[.pointer (some ⟨Fb,0,none⟩),.pointer (some ⟨r,0,none⟩),.pointer (some ⟨L,0,none⟩),.pointer (some ⟨P,0,none⟩),.pointer (some ⟨B,0,none⟩)] w λe R=>e=qB5 none/\R.heap[P]?=some (.cells #[.string (pkv o).k,.string (pkv o).v] 42)/\R.heap[B]?=some (.cells #[.bool o.isSome] 4)/\R.heap[a]?=some (qD3 x (pkv o).k t.ch)/\∃ w1,E.toEnv.To w w1/\Kp [P,B,a] w1 R:=by
 have M:=zh h.dev;have HS:Hid (MvS r L a x g capf t w):=⟨h.hCc,h.hFf,⟨_,_,h.hCb⟩,h.hx⟩;have HP:=zh (n2 h.hP h.hB);have a6:=zh ar;have bb:=h.on;obtain⟨fk,fv,fb,au,Q⟩:∃ fk fv fb,qC7 o=.tuple #[.agg #[.string fk,.string fv],.bool fb]/\(pkv o).k=fk/\(pkv o).v=fv/\o.isSome=fb:=by
  cases o with
  | none=>exact⟨_,_,_,rfl,rfl,rfl,rfl⟩
  | some p=>exact⟨_,_,_,rfl,rfl,rfl,rfl⟩
 have a7:=zh au;rw[Q.1,Q.2.1,Q.2.2];have Z:=h.hFb;have Y:=h.hCc;have G:=h.hCb;have hx:=h.hx;have h1:=ζ Z;have h2:=ζ Y;have h3:=ζ G;have h4:=ζ hx;have f0:=ϻ Z 0;have c0:=ϻ Y 0;have i:=ξ G 0;have n:=ξ G 1;have q:=ξ G 2;simp only[qD3,zG,zH,zI] at i n q;have x9:=ξ hx 9;simp only[qA1,zG,zH,zI] at x9;clear h Z Y G hx ar au Q;cases V
 focus
  clear D;go_enter func91,ntmps91;go_wp2_with fail
  go_quiet (fail)
  go_wp2_with fail;clear f0 c0 i n q x9
 rotate_left
 focus
  obtain⟨ba,hs⟩:=D rfl;subst hs;clear D;go_enter func91,ntmps91;go_wp2_with fail
  go_quiet (fail)
  go_wp2_with fail;clear f0 c0 i n q x9 ba
 all_goals
  refine wp_region_held_drew (S:=MvS r L a x g capf t) kR (HS.kp (((Kp.refl [] w).drewN nq).drew) sM) (λd=>?_);refine zV 0 (.func (.func g) #[] capf) rfl (λW b=>by have c:=ξ b.f 0;simp only[zG,zH] at c;clear b;go_simp) d ?_;refine zV 1 (ϖ a) rfl (λW b=>by have c:=ξ b.c 0;simp only[zG,zH] at c;clear b;go_simp) d ?_;refine zP 2 a 0 d ?_;refine zP 3 a 0 d ?_;refine zV 4 (ϖ x) rfl (λW b=>by obtain⟨k',s',hb⟩:=b.b;have c:=ξ hb 0;simp only[qD3,zG,zH] at c;clear b hb;go_simp) d ?_;refine zP 5 x 0 d ?_;refine zP 6 x 4 d ?_;refine zV 7 (τ E.V t.h) rfl (λW b=>by have a0:=ξ b.x_ 4;have a1:=ξ b.x_ 5;have a2:=ξ b.x_ 6;have a3:=ξ b.x_ 7;have a4:=ξ b.x_ 8;simp only[qA1,bb,zG,zH,zI] at a0 a1 a2 a3 a4;clear b;rw[τ];go_simp) d ?_;refine zq 8 λK hK=>?_;go_simp;obtain⟨Wd,ag⟩:=eX (w.drewN (nq+1));rw[<-ag];have ao:Kp [] w Wd:=by rw[ag];exact (Kp.refl [] w).drewN _
  clear ag d;have af:=Env.To.of0 M ao;refine (a6 Wd af).mono ?_;rintro e w2 ⟨rfl,aq⟩;have J:=af.trans aq;have F:=(HS.to M J);have A:=E.stay M J HP.1 dC;have X:=E.stay M J HP.2 dC;rw[a7.out];refine zk hK F ?_
  refine zU 9 (.tuple #[.agg #[.string fk,.string fv],.bool fb]) F ?_;refine zU 10 (.agg #[.string fk,.string fv]) F ?_;refine zU 11 (.bool fb) F ?_;have bd:=ζ A;have v0:=ξ A;have a9:=φ A;refine zq 12 λK hK=>?_;go_simp;have av:=qI2 (.string fk) (.string fv) A;obtain⟨w3,aw,ab,N⟩:=gE av;rw[<-aw];clear aw av v0 a9;have ac:=F.kp N (λk D c u fr e=>by rw[mS D,A] at e;cases e;simp);have z:=N.heap X (by simp;exact ω X A dC);refine zk hK ac ?_
  have bc:=ζ z;have i:=ϻ z 0;have a8:=φ z 0;refine zq 13 λK hK=>?_;go_simp;obtain⟨l,ax,an,O⟩:∃ l,l=w3.setCell ⟨B,0,none⟩ (.bool fb)/\Ϙ l B (.cells #[.bool fb] 4)/\Kp [B] w3 l:=⟨_,rfl,μ z 0 _,kF.sc _⟩;rw[<-ax];clear ax i a8;have ad:=ac.kp O (λk D c u fr e=>by rw[mS D,z] at e;cases e;simp);have ap:=O.heap ab (by simp;exact ω ab z dC);refine zk hK ad ?_
  refine zd ?_;have am:=zh (n2 J ((N.mono (S':=[P,B]) (by simp +contextual)).trans O (by simp +contextual)));have al:=zh an;have T:=zh ap;have v:=zh ad;clear ad ac F ab A an z X N O aq J af ao ap;go_wp2_with fail;have d:Ϙ l.drew r (.cells #[ϖ a] 36)/\(∃ k s,Ϙ l.drew a (qD3 x k s))/\Ϙ l.drew x (qA1 t)/\Ϙ l.drew P (.cells #[.string fk,.string fv] 42):=⟨v.c,v.b,v.x_,T⟩;refine wp_region_held_drew (S:=λW=>Ϙ W r (.cells #[ϖ a] 36)/\(∃ k s,Ϙ W a (qD3 x k s))/\Ϙ W x (qA1 t)/\Ϙ W P (.cells #[.string fk,.string fv] 42)) kR d (λ_=>?_);refine zV 0 (ϖ a) rfl (λW b=>by have c:=ξ b.1 0;simp at c;clear b;go_simp) d ?_;refine zV 1 (ϖ a) rfl (λW b=>by have c:=ξ b.1 0;simp at c;clear b;go_simp) d ?_;refine zP 2 P 0 d ?_;refine zV 3 (.string fk) rfl (λW b=>by have c:=ξ b.2.2.2 0;simp at c;clear b;go_simp) d ?_;refine zV 4 (ϖ a) rfl (λW b=>by have c:=ξ b.1 0;simp at c;clear b;go_simp) d ?_;refine zP 5 a 0 d ?_;refine zP 6 a 0 d ?_;refine zV 7 (ϖ x) rfl (λW b=>by obtain⟨k',s',hb⟩:=b.2.1;have c:=ξ hb 0;simp only[qD3,zG,zH] at c;clear b hb;go_simp) d ?_;refine zP 8 x 0 d ?_;refine zP 9 x 9 d ?_;refine zV 10 (.int .u64 t.ch) rfl (λW b=>by have c:=ξ b.2.2.1 9;simp only[qA1,zG,zH,zI] at c;clear b;go_simp) d ?_;refine zP 11 a 0 d ?_;refine zP 12 a 1 d ?_;obtain⟨k',s',j⟩:=v.out.b;have be:=ζ j;have i:=ξ j 0;have n:=ξ j 1;have q:=ξ j 2;simp only[qD3,zG,zH,zI] at i n q;have U:=φ j;refine zq 13 λK hK=>?_;go_simp;obtain⟨m,ay,y,H⟩:∃ m,m=(l.setCell ⟨a,1,none⟩ (.string fk)).drew/\Ϙ m a (qD3 x fk s')/\Kp [a] l m:=⟨_,rfl,μ j 1 _,((Kp.refl [a] l).sc _).drew⟩;rw[<-ay];clear ay i n q U;have ai:=ω v.c j dC;have ak:=ω v.x_ j dC;have aj:=ω T j dC;have C:Ϙ m r (.cells #[ϖ a] 36)/\(∃ k s,Ϙ m a (qD3 x k s))/\Ϙ m x (qA1 t)/\Ϙ m P (.cells #[.string fk,.string fv] 42):=⟨H.heap v.c (by simp;exact ai),⟨_,_,y⟩,H.heap v.x_ (by simp;exact ak),H.heap T (by simp;exact aj)⟩;refine zk hK C ?_
  refine zP 14 a 0 C ?_;refine zP 15 a 2 C ?_;have bf:=ζ y;have i:=ξ y 0;have n:=ξ y 1;have q:=ξ y 2;simp only[qD3,zG,zH,zI] at i n q;have U:=φ y;refine zq 16 λK hK=>?_;go_simp;obtain⟨f,az,ah,I⟩:∃ f,f=m.setCell ⟨a,2,none⟩ (.int .u64 t.ch)/\Ϙ f a (qD3 x fk t.ch)/\Kp [a] m f:=⟨_,rfl,μ y 2 _,(Kp.refl [a] m).sc _⟩;rw[<-az];clear az i n q U;have ae:Ϙ f r (.cells #[ϖ a] 36)/\(∃ k s,Ϙ f a (qD3 x k s))/\Ϙ f x (qA1 t)/\Ϙ f P (.cells #[.string fk,.string fv] 42):=⟨I.heap C.1 (by simp;exact ai),⟨_,_,ah⟩,I.heap C.2.2.1 (by simp;exact ak),I.heap C.2.2.2 (by simp;exact aj)⟩;refine zk hK ae ?_
  refine zd ?_;have aa:=H.trans I (λ_ h _=>h);have HF:Hid (Ϙ f P (.cells #[.string fk,.string fv] 42)/\Ϙ f B (.cells #[.bool fb] 4)/\Ϙ f a (qD3 x fk t.ch)/\∃ w1,E.toEnv.To w w1/\Kp [P,B,a] w1 f):=
   ⟨ae.2.2.2,aa.heap al (by simp;exact ω al j dC),ah,w2,am.1,(am.2.mono (S':=[P,B,a]) (by simp +contextual)).trans aa (by simp +contextual)⟩
  clear ae C d j y ah H I aa ai ak aj;go_wp2
  go_end0
  exact⟨rfl,HF⟩
end Go.Proofs.YtdohpenfkdckiaaGreatDoor
