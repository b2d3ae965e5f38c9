import Derived.Test.YtdohpenfkdckiaaGreatDoorM17
set_option linter.all false
set_option maxRecDepth 100000
set_option maxHeartbeats 20000000
namespace Go.Proofs.YtdohpenfkdckiaaGreatDoor
open Go.Proofs.Tryz
open Go.RowKit
attribute [local go_sem] Oper.semAt_some
theorem xA5(p:Option Addr)(n c:Nat)(w:World):
  Calls prog 157 #[.slice p n c] w fun e w'=>e=.returned (.func (.func 220) #[] #[.pointer (some ⟨w.heap.size,0,none⟩)])∧w'=w.alloc (.cells #[.slice p n c] 156):=by
 have hmf:=zM;go_enter func157,ntmps157;go_wp2;go_ret;exact⟨rfl,rfl⟩
structure LS0(E:SEnv)(r:HL)(q g:Nat)(cap:Array Value)(lv:Int)(vl:Value)(N Sx gb off k cp:Nat)(cur:Array Value)(fr:Nat × Nat)(w:World):Prop extends LBox E r q g cap N w where
 q_:w.heap[q]?=some (φ lv (.slice none 0 0) vl)
 s_:w.heap[Sx]?=some (.cells #[.slice (some ⟨gb,off,none⟩) k cp] 156)
 g_:w.heap[gb]?=some (.cells cur 87 fr)
theorem LS0.to{E:SEnv}{r:HL}{q g:Nat}{cap:Array Value}{lv:Int}{vl:Value}{N Sx gb off k cp:Nat}{cur:Array Value}{fr:Nat × Nat}{w0 w w':World}(h:LS0 E r q g cap lv vl N Sx gb off k cp cur fr w)(hd0:E.Dev w0)(hN:w0.heap.size=N)(hS:N≤Sx)(hd:E.Dev w)(hT:E.toEnv.To w w'):LS0 E r q g cap lv vl N Sx gb off k cp cur fr w':=
 ⟨⟨hT.new hd0 (by omega) h.t,hT.new hd0 (by omega) h.n,hT.new hd0 (by omega) h.f,hT.new hd0 (by omega) h.p,hT.new hd0 (by omega) h.b⟩,hT.kp.heap h.q_ (fun hm=>E.apt _ hd _ hm _ _ _ h.q_ (by decide)),hT.new hd0 (by omega) h.s_,hT.kp.heap h.g_ (fun hm=>E.apt _ hd _ hm _ _ _ h.g_ (by decide))⟩
theorem LS0.kp{E:SEnv}{r:HL}{q g:Nat}{cap:Array Value}{lv:Int}{vl:Value}{N Sx gb off k cp M:Nat}{cur:Array Value}{fr:Nat × Nat}{w w':World}{L:List Nat}(h:LS0 E r q g cap lv vl N Sx gb off k cp cur fr w)(hK:Kp L w w')(hL:∀ k∈L,(∀ c t fr,w.heap[k]?≠some (.cells c t fr))∨M≤k)(h1:N+4<M)(h2:q<M)(h3:Sx<M)(h4:gb<M):LS0 E r q g cap lv vl N Sx gb off k cp cur fr w':=by
 have st:∀ {k:Nat} {c:Array Value} {t:TypeId} {fr:Nat × Nat},w.heap[k]?=some (.cells c t fr)→k<M→w'.heap[k]?=some (.cells c t fr):=fun hk hlt=>hK.heap hk (fun hm=>by
  rcases hL _ hm with e|e
  ·exact e _ _ _ hk
  ·omega)
 exact⟨⟨st h.t (by omega),st h.n (by omega),st h.f (by omega),st h.p (by omega),st h.b (by omega)⟩,st h.q_ h2,st h.s_ h3,st h.g_ h4⟩
structure LS(E:SEnv)(r x:HL)(q g:Nat)(cap:Array Value)(lv:Int)(vl:Value)(N Sx gb off k cp:Nat)(cur:Array Value)(fr:Nat × Nat)(X NR:Nat)(rec:Loop)(w:World):Prop extends LS0 E r q g cap lv vl N Sx gb off k cp cur fr w where
 x_:w.heap[X]?=some (qR3 x)
 l_:w.heap[NR+1]?=some (.loop rec)
 d_:w.heap[NR]?=some (.deferred (some []))
theorem LS.to{E:SEnv}{r x:HL}{q g:Nat}{cap:Array Value}{lv:Int}{vl:Value}{N Sx gb off k cp:Nat}{cur:Array Value}{fr:Nat × Nat}{X NR:Nat}{rec:Loop}{w0 w w':World}(h:LS E r x q g cap lv vl N Sx gb off k cp cur fr X NR rec w)(hd0:E.Dev w0)(hN:w0.heap.size=N)(hS:N≤Sx)(hX:N≤X)(hR:N≤NR)(hd:E.Dev w)(hT:E.toEnv.To w w'):LS E r x q g cap lv vl N Sx gb off k cp cur fr X NR rec w':=
 ⟨h.toLS0.to hd0 hN hS hd hT,hT.new hd0 (by omega) h.x_,hT.new hd0 (by omega) h.l_,hT.new hd0 (by omega) h.d_⟩
theorem LS.kp{E:SEnv}{r x:HL}{q g:Nat}{cap:Array Value}{lv:Int}{vl:Value}{N Sx gb off k cp:Nat}{cur:Array Value}{fr:Nat × Nat}{X NR M:Nat}{rec:Loop}{w w':World}{L:List Nat}(h:LS E r x q g cap lv vl N Sx gb off k cp cur fr X NR rec w)(hK:Kp L w w')(hL:∀ k∈L,M≤k)(h1:N+4<M)(h2:q<M)(h3:Sx<M)(h4:gb<M)(h5:X<M)(h6:NR+1<M):LS E r x q g cap lv vl N Sx gb off k cp cur fr X NR rec w':=
 ⟨h.toLS0.kp hK (fun k hk=>.inr (hL k hk)) h1 h2 h3 h4,hK.heap h.x_ (fun hm=>by have:=hL _ hm;omega),hK.heap h.l_ (fun hm=>by have:=hL _ hm;omega),hK.heap h.d_ (fun hm=>by have:=hL _ hm;omega)⟩
def LJ(E:SEnv)(n:Nat)(f:ByteArray→Bool)(ls:List (Lnk (Tn n)))(w0:World)(r:HL)(q g:Nat)(cap:Array Value)(lv:Int)(vl:Value)(N Sx gb off k cp:Nat)(cur:Array Value)(fr:Nat × Nat)(j:Nat)(W:World):Prop:=
 E.toEnv.To w0 W∧LS0 E r q g cap lv vl N Sx gb off k cp cur fr W∧qA9 f (((ls.take k).drop j).flatMap fun l=>cont n l.sub)=none
def LX(E:SEnv)(w0:World)(o:Option KV)(N:Nat)(W:World):Prop:=
 E.toEnv.To w0 W∧∃ p,o=some p∧W.heap[N+1+1+1]?=some (.cells #[.string p.k,.string p.v] 42)∧W.heap[N+1+1+1+1]?=some (.cells #[.bool true] 4)
theorem xP7(E:SEnv)(n:Nat)(g:Nat)(cap:Array Value)(f:ByteArray→Bool)(hdn:qN5 f)(hcf:∀ (args:Array Value) (W:World),Sem.run prog (callFunc g args) W=.ok (.enter g args) W)
  (ih:∀ (r:HL) (l:Lnk (Tn n)) (q:Nat) (w:World),E.Dev w→RN E.O n w q l.sub→Good n l.key l.sub→1≤cnt n l.sub→Asks E.toEnv w g cap f→Calls prog 99 #[υ E.V r,.pointer (some ⟨q,0,none⟩),.func (.func g) #[] cap] w fun e w'=>e=.returned (qB0 (qA9 f (cont n l.sub)))∧E.toEnv.To w w')
  (r:HL) (l:Lnk (Tn (n+1))) (q:Nat) (w:World) (hd:E.Dev w) (hN:RN E.O (n+1) w q l.sub) (hg:Good (n+1) l.key l.sub) (hne:1≤cnt (n+1) l.sub) (ha:Asks E.toEnv w g cap f):
  Calls prog 99 #[υ E.V r,.pointer (some ⟨q,0,none⟩),.func (.func g) #[] cap] w fun e w'=>e=.returned (qB0 (qA9 f (cont (n+1) l.sub)))∧E.toEnv.To w w':=by
 have hmf:=zM;have hcl:(θ l.sub).length≤10000:=(qH1 (n+1) l.key l.sub hg).1;have hne':1≤(θ l.sub).length:=hne;have HSK:Hid (qA9 f (cont (n+1) l.sub)=qA9 f (((θ l.sub).take ((θ l.sub).findIdx (fun l=>!f l.key)-1+1)).flatMap fun l=>cont n l.sub)):=xQ1 hdn hg.row;have HGA:Hid (∀ z∈θ l.sub,Good n z.key z.sub∧1≤cnt n z.sub):=fun z hz=>⟨(hg.all z hz).1,by have:=(hg.all z hz).2.1;omega⟩;have HPA:Hid ((θ l.sub).Pairwise (qN4 n)):=hg.pair;have HDN:=zh hdn;have HD:=zh hd;have HA:=zh ha;have HIH:=ih;clear hd hdn ha hg hne ih;obtain⟨vl,hq0,hs,hsl0,hb0⟩:=hN;obtain⟨ls,hls⟩:∃ ls,θ l.sub=ls:=⟨_,rfl⟩;rw[hls] at hb0 hcl hne' HSK HGA HPA;clear hls;have HBL:=zh hb0.1;have hhl:hs.length≤10000:=by rw[hb0.1];exact hcl
 have hh1:1≤hs.length:=by rw[hb0.1];exact hne'
 obtain⟨gb,off,cp,cur,fr,rfl,hcp,hrow0,hcur⟩:=hsl0.link hh1;obtain⟨lv,hlv⟩:∃ lv:Int,((n+1:Nat):Int)=lv:=⟨_,rfl⟩;rw[hlv] at hq0;have HLV:Hid (((n:Nat):Int)<lv):=by show _<_;omega
 have hlv0:¬lv=0:=by omega
 have hqs:=ζ hq0;have hqs1:q<w.heap.size+1:=by omega
 have hqs2:q<w.heap.size+1+1:=by omega
 have hqs3:q<w.heap.size+1+1+1:=by omega
 have hqs4:q<w.heap.size+1+1+1+1:=by omega
 have q0:=ξ hq0;simp only[φ,zG,zH,zI] at q0;have HB0:=zh hb0;have HSL0:=zh hsl0;have HCUR:=zh hcur;have HQG:Hid (q<w.heap.size∧gb<w.heap.size):=⟨hqs,ζ hrow0⟩;clear hb0 hsl0 hcur hlv;rw[υ];refine (callsIn_wide (n:=9)).1 ?_;refine callsIn_of_wp_marks func99 rfl trivial ?_ rfl;simp only[ntmps99,List.size_toArray,List.length_cons,List.length_nil,Nat.reduceAdd,Nat.reduceSub,Array.replicate_succ,Array.replicate_zero,List.push_toArray,List.append_toArray,List.nil_append,List.cons_append]
 gi_wp2_with fail
 refine⟨trivial,?_⟩;obtain⟨w1,hw1,hB1,hQ1,hF1,hP1,hb1,hK1,hs1⟩:=zC1 w (.cells #[.pointer (some ⟨E.V,0,none⟩),.string r.key,.int .i64 r.b,.int .u64 r.s,.pointer r.ptr] 89) (.cells #[.pointer (some ⟨q,0,none⟩)] 85) (.cells #[.func (.func g) #[] cap] 92) (.cells #[.string ⟨#[]⟩,.string ⟨#[]⟩] 42) (.cells #[.bool false] 4);rw[←hw1];clear hw1 q0 hqs hqs1 hqs2 hqs3 hqs4;have hT1:=Env.To.of0 HD.out hK1;have hq1:=hK1.hp hq0;have hsl1:=HSL0.out.keep0 hK1;have hrow1:=hK1.hp hrow0;have hmap:hs.findIdx (fun p=>!f p.key)=ls.findIdx (fun p=>!f p.key):=by
  have e:hs.map HL.key=ls.map Lnk.key:=HB0.out.map_eq fun x y hr=>hr.1;have h1:∀ (l:List HL),l.findIdx (fun l=>!f l.key)=(l.map HL.key).findIdx (fun k=>!f k):=fun l=>by rw[List.findIdx_map];rfl
  have h2:∀ (l:List (Lnk (Tn n))),l.findIdx (fun l=>!f l.key)=(l.map Lnk.key).findIdx (fun k=>!f k):=fun l=>by rw[List.findIdx_map];rfl
  rw[h1,h2,e]
 have hdn':∀ i j (hi:i<hs.length) (hj:j<hs.length),i≤j→f hs[j].key=true→f hs[i].key=true:=by
  intro i j hi hj hij hp;by_cases e:i=j
  ·subst e;exact hp
  ·exact HDN.out _ _ ((qT9 HB0.out HPA.out).at hi hj (by omega)) hp
 obtain⟨i,hi0⟩:∃ i,ls.findIdx (fun p=>!f p.key)-1=i:=⟨_,rfl⟩;have hil:i<hs.length:=by
  have:ls.findIdx (fun p=>!f p.key)≤ls.length:=List.findIdx_le_length;have:=HBL.out;omega
 refine callsIn_wide.2 ((zC9 156 #[.pointer (some ⟨w.heap.size+1+1,0,none⟩)] (.slice (some ⟨gb,off,none⟩) hs.length cp) hs (fun p=>f p.key) w1 hsl1 (by omega) hdn' (fun args W=>by simp[go_sem,func156])
   (fun W2 hK2 j hj=>xP3 g (w.heap.size+1+1) cap hs[j] (f hs[j].key) W2 (hK2.hp hF1) hcf (fun W' hK'=>HA.out W' _ ((hT1.tail hK2).tail hK')))).mono ?_)
 rintro e w2 ⟨rfl,hK2⟩;rw[hmap,hi0];have HI0:=zh hi0;have hT2:=hT1.tail hK2;have HLB:Hid (LBox E r q g cap w.heap.size w2):=⟨hK2.hp hB1,hK2.hp hQ1,hK2.hp hF1,hK2.hp hP1,hK2.hp hb1⟩;have hQ2:=HLB.out.n;have hq2:=hK2.hp hq1;have HT2:=zh hT2;have HQ2:Hid (w2.heap[q]?=some (φ lv (.slice none 0 0) (.slice (some ⟨gb,off,none⟩) hs.length cp))∧w2.heap[gb]?=some (.cells cur 87 fr)):=⟨hq2,hK2.hp hrow1⟩;have hQs2:=ζ hQ2;have hqs2:=ζ hq2;have n0:=ξ hQ2 0;simp only[zG,zH,zI] at n0;have y2:=ξ hq2 2;simp only[φ,zG,zH,zI] at y2;obtain⟨k,hk⟩:∃ k:Nat,k=i+1:=⟨_,rfl⟩;have hk1:(k:Int)≤(hs.length:Int):=by omega
 have hk2:(k:Int)≤(cp:Int):=by omega
 have hncp:(hs.length:Int)≤(cp:Int):=by omega
 have HK:Hid (k=i+1∧i<hs.length∧hs.length≤cp):=⟨hk,hil,hcp⟩;have hsz2:=hK2.size;have hwi:wrap64 ((i:Int)+1)=(k:Int):=by simp only[wrap64];omega
 clear hk hil hcp;have HS1:=zh hs1;clear hK2 hT2 hT1 hK1 hB1 hQ1 hF1 hP1 hb1 hs1 hq1 hsl1 hrow1 hmap hdn' hi0 hQ2 hq2 hq0 hrow0
 gi_wp2_with fail
 refine⟨trivial,?_⟩;refine callsIn_wide.2 ((xA5 _ _ _ w2).mono ?_);rintro e w3 ⟨rfl,hw3⟩;have hS3:w3.heap[w2.heap.size]?=some (.cells #[.slice (some ⟨gb,off,none⟩) k cp] 156):=by rw[hw3];exact κ _ _
 have hK3:Kp [] w2 w3:=by rw[hw3];exact (Kp.refl _ _).alloc _
 have HT3:Hid (E.toEnv.To w w3):=HT2.out.tail hK3;have HL3:Hid (LS0 E r q g cap lv (.slice (some ⟨gb,off,none⟩) hs.length cp) w.heap.size w2.heap.size gb off k cp cur fr w3):=⟨⟨hK3.hp HLB.out.t,hK3.hp HLB.out.n,hK3.hp HLB.out.f,hK3.hp HLB.out.p,hK3.hp HLB.out.b⟩,hK3.hp HQ2.out.1,hS3,hK3.hp HQ2.out.2⟩;have hsw:w.heap.size+5≤w2.heap.size:=by have:=HS1.out;omega
 have hs3:w3.heap.size=w2.heap.size+1:=by rw[hw3];simp
 obtain⟨Sx,hSx⟩:∃ Sx,Sx=w2.heap.size:=⟨_,rfl⟩;rw[←hSx] at HL3 hsw hs3 ⊢;clear hw3 hS3 hK3 hSx n0 y2 hk1 hk2 hncp hwi hQs2 hqs2 HLB HQ2 HT2 hsz2 HS1
 gi_wp2_with fail
 have hkk1:k≤i+1:=by have:=HK.out;omega
 have hkk2:i+1≤k:=by have:=HK.out;omega
 have hkk3:i<hs.length:=HK.out.2.1;have hkk4:hs.length≤cp:=HK.out.2.2;have hs3a:Sx+1≤w3.heap.size:=by omega
 have hqb:q<w.heap.size:=HQG.out.1;have hgbb:gb<w.heap.size:=HQG.out.2;clear hs3;refine jI4 Sx gb off k cp cur fr hs (by decide) (by omega) (by omega) (by omega) rfl rfl HCUR.out (LJ E n f ls w r q g cap lv (.slice (some ⟨gb,off,none⟩) hs.length cp) w.heap.size Sx gb off k cp cur fr) (LX E w (qA9 f (cont (n+1) l.sub)) w.heap.size) ?JK ?JxK (fun i W h=>⟨h.2.1.s_,h.2.1.g_⟩) ?J0 (fun j x X=>{ tmps:=#[.agg #[.pointer (some ⟨E.V,0,none⟩),.string r.key,.int .i64 r.b,.int .u64 r.s,.pointer r.ptr],.pointer (some ⟨q,0,none⟩),.func (.func g) #[] cap,.pointer (some ⟨w.heap.size,0,none⟩),.pointer (some ⟨w.heap.size+1,0,none⟩),.pointer (some ⟨w.heap.size+1+1,0,none⟩),.pointer (some ⟨w.heap.size+1+1+1,0,none⟩),.pointer (some ⟨w.heap.size+1+1+1+1,0,none⟩),undef,.int .i64 i,undef,.pointer (some ⟨X,0,none⟩),undef,undef,.pointer (some ⟨q,0,none⟩),.pointer (some ⟨q,0,none⟩),.pointer (some ⟨q,0,none⟩),.int .i64 lv,.bool false,undef,undef,undef,undef,undef,undef,undef,undef,undef,undef,undef,undef,undef,undef,undef,undef,undef,undef,undef,undef,undef,undef,undef,undef,undef,undef,.pointer (some ⟨q,0,none⟩),.pointer (some ⟨q,0,none⟩),.pointer (some ⟨q,2,none⟩),.slice (some ⟨gb,off,none⟩) hs.length cp,.func (.func 156) #[] #[.pointer (some ⟨w.heap.size+1+1,0,none⟩)],.int .i64 i,.pointer (some ⟨q,0,none⟩),.pointer (some ⟨q,0,none⟩),.pointer (some ⟨q,2,none⟩),.slice (some ⟨gb,off,none⟩) hs.length cp,.int .i64 i,.int .i64 (wrap64 (i+1)),.slice (some ⟨gb,off,none⟩) k cp,.func (.func 220) #[] #[.pointer (some ⟨Sx,0,none⟩)],.int .i64 j,qT5 x,undef,undef,undef,undef,undef,undef,undef,undef,undef,undef,undef,undef,undef,undef,undef,undef],defers:=[] }) ?assign ?body ?done ?stop
 case JK=>
  rintro j W W' ⟨h1,h2,h3⟩ hK ⟨rec,hr⟩;have hno:∀ c t fr,W.heap[w3.heap.size+1]?≠some (.cells c t fr):=fun c t fr e=>by rw[hr] at e;cases e
  exact⟨SEnv.storeX h1 (by omega) (fun c t fr e=>absurd e (hno c t fr)) hK,h2.kp (M:=w3.heap.size) hK (fun k hk=>.inl (by rw[List.mem_singleton.1 hk];exact hno)) (by omega) (by omega) (by omega) (by omega),h3⟩
 case JxK=>
  rintro W W' ⟨h1,p,h2,h3,h4⟩ hK ⟨rec,hr⟩;have hno:∀ c t fr,W.heap[w3.heap.size+1]?≠some (.cells c t fr):=fun c t fr e=>by rw[hr] at e;cases e
  exact⟨SEnv.storeX h1 (by omega) (fun c t fr e=>absurd e (hno c t fr)) hK,p,h2,hK.ho h3,hK.ho h4⟩
 case J0=>
  intro W hK;refine⟨HT3.out.tail hK,HL3.out.kp (M:=w3.heap.size) hK (by simp) (by omega) (by omega) (by omega) (by omega),?_⟩;rw[List.drop_eq_nil_of_le (by simp;omega)];rfl
 case assign=>
  intro lp j hj W K hK;obtain⟨x,hx⟩:∃ x,hs[j]=x:=⟨_,rfl⟩;rw[hx] at hK ⊢;clear hx;have HKK:=hK;clear hK;rw[qT5];have hfin:=HKK (W.alloc (qR3 x)) (κ _ _) ((Kp.refl _ _).alloc _);rw[qT5,qR3] at hfin;clear HKK
  gi_wp2
  exact hfin
 case body=>
  rintro lp j hj W X ⟨hTW,hLW,hnone⟩ hX hXl ⟨rec,hr⟩ hdf;have hjl:j<ls.length:=by have:=HBL.out;omega
  obtain⟨z,hz⟩:∃ z,ls[j]?=some z:=⟨_,List.getElem?_eq_getElem hjl⟩;obtain⟨hlt',hze⟩:=List.getElem?_eq_some_iff.1 hz;have hrx:=HB0.out.2 j (by omega) hlt';rw[hze] at hrx;obtain⟨x,hxe⟩:∃ x,hs[j]=x:=⟨_,rfl⟩;rw[hxe] at hX hrx ⊢;have hRX:RL E.O n W x z:=Env.RL hrx HD.out hTW;have HZG:Hid (Good n z.key z.sub∧1≤cnt n z.sub):=HGA.out z (List.mem_of_getElem? hz);have HNO:=zh hnone;have HST:Hid (((ls.take k).drop j).flatMap (fun l=>cont n l.sub)=cont n z.sub++((ls.take k).drop (j+1)).flatMap (fun l=>cont n l.sub)):=by
   show _=_;have hjt:j<(ls.take k).length:=by have:=HBL.out;simp;omega
   rw[List.drop_eq_getElem_cons hjt,List.flatMap_cons]
   congr 1
   have:(ls.take k)[j]=z:=by
    rw[List.getElem_take];exact (List.getElem?_eq_some_iff.1 hz).2
   rw[this]
  have HSPL:Hid (ls.take (ls.findIdx (fun l=>!f l.key)-1+1)=(ls.take k).take j++(ls.take k).drop j):=by
   show _=_;rw[List.take_append_drop,HI0.out,HK.out.1]
  have HLP:Hid (W.heap[w3.heap.size+1]?=some (.loop rec)∧W.heap[w3.heap.size]?=some (.deferred (some []))):=⟨hr,hdf⟩;have HNS:Hid (w.heap.size≤Sx∧w.heap.size≤X∧w.heap.size≤w3.heap.size):=⟨by omega,by omega,by omega⟩;obtain⟨fk,fv,fb,hfv⟩:∃ fk fv fb,qB0 (qA9 f (cont n z.sub))=.tuple #[.agg #[.string fk,.string fv],.bool fb]:=by
   cases qA9 f (cont n z.sub) with
   | none=>exact⟨_,_,_,rfl⟩
   | some p=>exact⟨_,_,_,rfl⟩
  have HFV:=zh hfv;have hSd:LS E r x q g cap lv (.slice (some ⟨gb,off,none⟩) hs.length cp) w.heap.size Sx gb off k cp cur fr X w3.heap.size rec W.drew:=⟨⟨⟨hLW.t,hLW.n,hLW.f,hLW.p,hLW.b⟩,hLW.q_,hLW.s_,hLW.g_⟩,hX,hr,hdf⟩;have hTd:E.toEnv.To w W.drew:=hTW.tail ((Kp.refl _ _).drew);have hRXd:RL E.O n W.drew x z:=RL.keep hRX ((Kp.refl [] _).drew) (Apt.nil _ _);have hXs:X<W.heap.size:=ζ hX;clear hfv hz hze hrx hxe hRX hnone hX hr hdf hTW hLW
  gi_wp2_with fail
  refine jI5 (S:=LS E r x q g cap lv (.slice (some ⟨gb,off,none⟩) hs.length cp) w.heap.size Sx gb off k cp cur fr X w3.heap.size rec) (by kernel_rfl) (by kernel_rfl) ?_ hSd (fun _=>?_)
  ·rintro⟨_,_,h⟩;exact h
  refine zV 0 (.agg #[.pointer (some ⟨E.V,0,none⟩),.string r.key,.int .i64 r.b,.int .u64 r.s,.pointer r.ptr]) rfl (fun W hS=>by have a0:=ξ hS.t;clear hS;go_simp) hSd ?_;refine zV 1 (.agg #[.pointer (some ⟨E.V,0,none⟩),.string r.key,.int .i64 r.b,.int .u64 r.s,.pointer r.ptr]) rfl (fun W hS=>by have a0:=ξ hS.t;clear hS;go_simp) hSd ?_;refine zV 2 (.agg #[.string x.key,.int .i64 x.b,.int .u64 x.s,.pointer x.ptr]) rfl (fun W hS=>by have a0:=ξ hS.x_ 0;have a1:=ξ hS.x_ 1;have a2:=ξ hS.x_ 2;have a3:=ξ hS.x_ 3;simp only[qR3,zG,zH,zI] at a0 a1 a2 a3;clear hS;go_simp) hSd ?_;refine zV 3 (.pointer (some ⟨q,0,none⟩)) rfl (fun W hS=>by have c:=ξ hS.n 0;simp only[zG,zH] at c;clear hS;go_simp) hSd ?_;refine zP 4 q 0 hSd ?_;refine zP 5 q 0 hSd ?_;refine zV 6 (.int .i64 lv) rfl (fun W hS=>by have c:=ξ hS.q_ 0;simp[φ] at c;clear hS;go_simp) hSd ?_;refine zV 8 (.func (.func g) #[] cap) rfl (fun W hS=>by have c:=ξ hS.f 0;simp only[zG,zH] at c;clear hS;go_simp) hSd ?_;refine zr 7 13 (fun K hK=>?_) fun K hK=>?_
  ·go_simp;refine (qH3 E.toEnv n x r z lv W.drew hTd.dev hRXd HLV.out).mono ?_;rintro e w4 ⟨q1,rfl,hN1,hTn⟩;have hT4:=hTd.trans hTn;have hS4:=hSd.to HD.out rfl HNS.out.1 HNS.out.2.1 HNS.out.2.2 hTd.dev hTn;refine hK.out _ _ hS4 (fun _=>?_);clear hK K
   try simp only[zZ]
   refine zr 9 13 (fun K hK=>?_) fun K hK=>?_
   ·go_simp;refine (HIH r z q1 w4 hT4.dev hN1 HZG.out.1 HZG.out.2 (HA.out.to hT4)).mono ?_;rintro e w5 ⟨rfl,hTn⟩;rw[HFV.out];have hT5:=hT4.trans hTn;have hS5:=hS4.to HD.out rfl HNS.out.1 HNS.out.2.1 HNS.out.2.2 hT4.dev hTn;refine hK.out _ _ hS5 (fun _=>?_);clear hK K
    try simp only[zZ]
    refine zU 10 (.tuple #[.agg #[.string fk,.string fv],.bool fb]) hS5 ?_;refine zU 11 (.agg #[.string fk,.string fv]) hS5 ?_;refine zU 12 (.bool fb) hS5 ?_;refine zq 13 fun K hK=>?_;go_simp;have hlb:X<w5.heap.size:=ζ hS5.x_;obtain⟨w6,hwa,hP6,hKa⟩:∃ w',w'=w5.alloc (.cells #[.string ⟨#[]⟩,.string ⟨#[]⟩] 42)∧w'.heap[w5.heap.size]?=some (.cells #[.string ⟨#[]⟩,.string ⟨#[]⟩] 42)∧Kp [] w5 w':=⟨_,rfl,κ _ _,(Kp.refl _ w5).alloc _⟩;rw[←hwa];clear hwa;have hT6:=hT5.tail hKa;have hS6:=hS5.kp (M:=w5.heap.size) hKa (by simp) (by omega) (by omega) (by omega) (by omega) (by omega) (by omega);refine hK.out _ _ hS6 (fun _=>?_);clear hK K
    try simp only[zZ]
    have hPs:=ζ hP6;have z0:=ξ hP6;have fz0:=ρ hP6;refine zq 14 fun K hK=>?_;go_simp;have hts:=qB2 (.string fk) (.string fv) hP6;obtain⟨w7,hw7,hP7,hK7⟩:∃ w7,w7=(w6.setCell ⟨w5.heap.size,0,none⟩ (.string fk)).setCell ⟨w5.heap.size,1,none⟩ (.string fv)∧w7.heap[w5.heap.size]?=some (.cells #[.string fk,.string fv] 42)∧Kp [w5.heap.size] w6 w7:=⟨_,rfl,hts.1,hts.2⟩;rw[←hw7];clear hw7 hts z0 fz0;have hT7:=SEnv.storeX hT6 (by omega) (fun c t fr e=>by rw[hP6] at e;cases e;decide) hK7;have hS7:=hS6.kp (M:=w5.heap.size) hK7 (by simp) (by omega) (by omega) (by omega) (by omega) (by omega) (by omega);refine hK.out _ _ hS7 (fun _=>?_);clear hK K
    try simp only[zZ]
    refine zq 15 fun K hK=>?_;go_simp;refine hK.out _ _ hS7 (fun _=>?_);clear hK K
    try simp only[zZ]
    refine zd ?_;have HT7:=zh hT7;have HS7:=zh hS7;have HP7:=zh hP7;have hPs7:=ζ hP7;have hp7:=hS7.p;have hb7:=hS7.b;have hps7:=ζ hp7;have hbs7:=ζ hb7;have z0:=ξ hP7;have x0:=ξ hp7;have fx0:=ρ hp7;have v0:=ξ hb7 0;simp only[zG,zH,zI] at v0;have fv'0:=ρ hb7 0;clear hT7 hS7 hP7 hp7 hb7 hK7 hT6 hS6 hP6 hTn hN1 hKa
    cases hfd:qA9 f (cont n z.sub) with
    | none=>
     have hfv:=HFV.out;rw[hfd] at hfv;simp only[qB0,Value.tuple.injEq,Array.mk.injEq,List.cons.injEq,Value.agg.injEq,Value.string.injEq,Value.bool.injEq,and_true] at hfv;obtain⟨⟨rfl,rfl⟩,rfl⟩:=hfv;have HFD:=zh hfd;clear hfd HFV
     gi_wp2
     refine⟨⟨HT7.out,HS7.out.toLS0,?_⟩,HS7.out.l_.trans HLP.out.1.symm,HS7.out.d_.trans HLP.out.2.symm⟩;rw[HST.out,qJ1,HNO.out,HFD.out];rfl
    | some p=>
     have hfv:=HFV.out;rw[hfd] at hfv;simp only[qB0,Value.tuple.injEq,Array.mk.injEq,List.cons.injEq,Value.agg.injEq,Value.string.injEq,Value.bool.injEq,and_true] at hfv;obtain⟨⟨rfl,rfl⟩,rfl⟩:=hfv;have HFD:=zh hfd;clear hfd HFV
     gi_wp2
     have hts:=qB2 (.string p.k) (.string p.v) HS7.out.p;obtain⟨w8,hw8,hP8,hK8⟩:∃ w8,w8=(w7.setCell ⟨w.heap.size+1+1+1,0,none⟩ (.string p.k)).setCell ⟨w.heap.size+1+1+1,1,none⟩ (.string p.v)∧w8.heap[w.heap.size+1+1+1]?=some (.cells #[.string p.k,.string p.v] 42)∧Kp [w.heap.size+1+1+1] w7 w8:=⟨_,rfl,hts.1,hts.2⟩;rw[←hw8];have hb8:=hK8.hp HS7.out.b;have hT8:=SEnv.storeX HT7.out (by omega) (fun c t fr e=>by rw[HS7.out.p] at e;cases e;decide) hK8;have hK9:Kp [w.heap.size+1+1+1+1] w8 (w8.setCell ⟨w.heap.size+1+1+1+1,0,none⟩ (.bool true)):=(Kp.refl _ _).sc _;have hT9:=SEnv.storeX hT8 (by omega) (fun c t fr e=>by rw[hb8] at e;cases e;decide) hK9;have hl9:=hK9.heap (hK8.ho HS7.out.l_) (by simp;omega);have hd9:=hK9.heap (hK8.ho HS7.out.d_) (by simp;omega);refine⟨⟨hT9,p,?_,hK9.hp hP8,μ hb8 0 _⟩,hl9.trans HLP.out.1.symm,hd9.trans HLP.out.2.symm⟩;rw[HSK.out,HSPL.out,List.flatMap_append,qJ1,HST.out,qJ1,HNO.out,HFD.out];rfl
   ·go_simp;have hlb:X<w4.heap.size:=ζ hS4.x_;obtain⟨w5,hwa,hP5,hKa⟩:∃ w',w'=w4.alloc (.cells #[.string ⟨#[]⟩,.string ⟨#[]⟩] 42)∧w'.heap[w4.heap.size]?=some (.cells #[.string ⟨#[]⟩,.string ⟨#[]⟩] 42)∧Kp [] w4 w':=⟨_,rfl,κ _ _,(Kp.refl _ w4).alloc _⟩;rw[←hwa];clear hwa;have hT5:=hT4.tail hKa;have hS5:=hS4.kp (M:=w4.heap.size) hKa (by simp) (by omega) (by omega) (by omega) (by omega) (by omega) (by omega);refine hK.out _ _ hS5 (fun _=>?_);clear hK K
    try simp only[zZ]
    have hN1b:=RN.keep hKa (Apt.nil _ _) n q1 _ hN1;clear hN1;have hN1:=hN1b;refine zq 9 fun K hK=>?_;go_simp;refine (HIH r z q1 w5 hT5.dev hN1 HZG.out.1 HZG.out.2 (HA.out.to hT5)).mono ?_;rintro e w6 ⟨rfl,hTn⟩;rw[HFV.out];have hT6:=hT5.trans hTn;have hS6:=hS5.to HD.out rfl HNS.out.1 HNS.out.2.1 HNS.out.2.2 hT5.dev hTn;refine hK.out _ _ hS6 (fun _=>?_);clear hK K
    try simp only[zZ]
    have hP6:=hTn.new HD.out (by omega) hP5;refine zU 10 (.tuple #[.agg #[.string fk,.string fv],.bool fb]) hS6 ?_;refine zU 11 (.agg #[.string fk,.string fv]) hS6 ?_;refine zU 12 (.bool fb) hS6 ?_;have hPs:=ζ hP6;have z0:=ξ hP6;have fz0:=ρ hP6;refine zq 14 fun K hK=>?_;go_simp;have hts:=qB2 (.string fk) (.string fv) hP6;obtain⟨w7,hw7,hP7,hK7⟩:∃ w7,w7=(w6.setCell ⟨w4.heap.size,0,none⟩ (.string fk)).setCell ⟨w4.heap.size,1,none⟩ (.string fv)∧w7.heap[w4.heap.size]?=some (.cells #[.string fk,.string fv] 42)∧Kp [w4.heap.size] w6 w7:=⟨_,rfl,hts.1,hts.2⟩;rw[←hw7];clear hw7 hts z0 fz0;have hT7:=SEnv.storeX hT6 (by omega) (fun c t fr e=>by rw[hP6] at e;cases e;decide) hK7;have hS7:=hS6.kp (M:=w4.heap.size) hK7 (by simp) (by omega) (by omega) (by omega) (by omega) (by omega) (by omega);refine hK.out _ _ hS7 (fun _=>?_);clear hK K
    try simp only[zZ]
    refine zq 15 fun K hK=>?_;go_simp;refine hK.out _ _ hS7 (fun _=>?_);clear hK K
    try simp only[zZ]
    refine zd ?_;have HT7:=zh hT7;have HS7:=zh hS7;have HP7:=zh hP7;have hPs7:=ζ hP7;have hp7:=hS7.p;have hb7:=hS7.b;have hps7:=ζ hp7;have hbs7:=ζ hb7;have z0:=ξ hP7;have x0:=ξ hp7;have fx0:=ρ hp7;have v0:=ξ hb7 0;simp only[zG,zH,zI] at v0;have fv'0:=ρ hb7 0;clear hT7 hS7 hP7 hp7 hb7 hK7 hT6 hS6 hP6 hTn hN1 hKa
    cases hfd:qA9 f (cont n z.sub) with
    | none=>
     have hfv:=HFV.out;rw[hfd] at hfv;simp only[qB0,Value.tuple.injEq,Array.mk.injEq,List.cons.injEq,Value.agg.injEq,Value.string.injEq,Value.bool.injEq,and_true] at hfv;obtain⟨⟨rfl,rfl⟩,rfl⟩:=hfv;have HFD:=zh hfd;clear hfd HFV
     gi_wp2
     refine⟨⟨HT7.out,HS7.out.toLS0,?_⟩,HS7.out.l_.trans HLP.out.1.symm,HS7.out.d_.trans HLP.out.2.symm⟩;rw[HST.out,qJ1,HNO.out,HFD.out];rfl
    | some p=>
     have hfv:=HFV.out;rw[hfd] at hfv;simp only[qB0,Value.tuple.injEq,Array.mk.injEq,List.cons.injEq,Value.agg.injEq,Value.string.injEq,Value.bool.injEq,and_true] at hfv;obtain⟨⟨rfl,rfl⟩,rfl⟩:=hfv;have HFD:=zh hfd;clear hfd HFV
     gi_wp2
     have hts:=qB2 (.string p.k) (.string p.v) HS7.out.p;obtain⟨w8,hw8,hP8,hK8⟩:∃ w8,w8=(w7.setCell ⟨w.heap.size+1+1+1,0,none⟩ (.string p.k)).setCell ⟨w.heap.size+1+1+1,1,none⟩ (.string p.v)∧w8.heap[w.heap.size+1+1+1]?=some (.cells #[.string p.k,.string p.v] 42)∧Kp [w.heap.size+1+1+1] w7 w8:=⟨_,rfl,hts.1,hts.2⟩;rw[←hw8];have hb8:=hK8.hp HS7.out.b;have hT8:=SEnv.storeX HT7.out (by omega) (fun c t fr e=>by rw[HS7.out.p] at e;cases e;decide) hK8;have hK9:Kp [w.heap.size+1+1+1+1] w8 (w8.setCell ⟨w.heap.size+1+1+1+1,0,none⟩ (.bool true)):=(Kp.refl _ _).sc _;have hT9:=SEnv.storeX hT8 (by omega) (fun c t fr e=>by rw[hb8] at e;cases e;decide) hK9;have hl9:=hK9.heap (hK8.ho HS7.out.l_) (by simp;omega);have hd9:=hK9.heap (hK8.ho HS7.out.d_) (by simp;omega);refine⟨⟨hT9,p,?_,hK9.hp hP8,μ hb8 0 _⟩,hl9.trans HLP.out.1.symm,hd9.trans HLP.out.2.symm⟩;rw[HSK.out,HSPL.out,List.flatMap_append,qJ1,HST.out,qJ1,HNO.out,HFD.out];rfl
  ·go_simp;obtain⟨w4,hwa,hP4,hKa⟩:∃ w',w'=(W.alloc (.cells #[.string ⟨#[]⟩,.string ⟨#[]⟩] 42)).drew∧w'.heap[W.heap.size]?=some (.cells #[.string ⟨#[]⟩,.string ⟨#[]⟩] 42)∧Kp [] W.drew w':=⟨_,rfl,κ _ _,(Kp.refl _ W.drew).alloc _⟩;rw[←hwa];clear hwa;have hT4:=hTd.tail hKa;have hS4:=hSd.kp (M:=W.heap.size) hKa (by simp) (by omega) (by omega) (by omega) (by omega) (by omega) (by omega);refine hK.out _ _ hS4 (fun _=>?_);clear hK K
   try simp only[zZ]
   have hRX4:=RL.keep hRXd hKa (Apt.nil _ _);refine zq 7 fun K hK=>?_;go_simp;refine (qH3 E.toEnv n x r z lv w4 hT4.dev hRX4 HLV.out).mono ?_;rintro e w5 ⟨q1,rfl,hN1,hTn⟩;have hT5:=hT4.trans hTn;have hS5:=hS4.to HD.out rfl HNS.out.1 HNS.out.2.1 HNS.out.2.2 hT4.dev hTn;refine hK.out _ _ hS5 (fun _=>?_);clear hK K
   try simp only[zZ]
   have hP5:=hTn.new HD.out (by omega) hP4;refine zq 9 fun K hK=>?_;go_simp;refine (HIH r z q1 w5 hT5.dev hN1 HZG.out.1 HZG.out.2 (HA.out.to hT5)).mono ?_;rintro e w6 ⟨rfl,hTn⟩;rw[HFV.out];have hT6:=hT5.trans hTn;have hS6:=hS5.to HD.out rfl HNS.out.1 HNS.out.2.1 HNS.out.2.2 hT5.dev hTn;refine hK.out _ _ hS6 (fun _=>?_);clear hK K
   try simp only[zZ]
   have hP6:=hTn.new HD.out (by omega) hP5;have hlb:X<W.heap.size:=hXs;refine zU 10 (.tuple #[.agg #[.string fk,.string fv],.bool fb]) hS6 ?_;refine zU 11 (.agg #[.string fk,.string fv]) hS6 ?_;refine zU 12 (.bool fb) hS6 ?_;have hPs:=ζ hP6;have z0:=ξ hP6;have fz0:=ρ hP6;refine zq 14 fun K hK=>?_;go_simp;have hts:=qB2 (.string fk) (.string fv) hP6;obtain⟨w7,hw7,hP7,hK7⟩:∃ w7,w7=(w6.setCell ⟨W.heap.size,0,none⟩ (.string fk)).setCell ⟨W.heap.size,1,none⟩ (.string fv)∧w7.heap[W.heap.size]?=some (.cells #[.string fk,.string fv] 42)∧Kp [W.heap.size] w6 w7:=⟨_,rfl,hts.1,hts.2⟩;rw[←hw7];clear hw7 hts z0 fz0;have hT7:=SEnv.storeX hT6 (by omega) (fun c t fr e=>by rw[hP6] at e;cases e;decide) hK7;have hS7:=hS6.kp (M:=W.heap.size) hK7 (by simp) (by omega) (by omega) (by omega) (by omega) (by omega) (by omega);refine hK.out _ _ hS7 (fun _=>?_);clear hK K
   try simp only[zZ]
   refine zq 15 fun K hK=>?_;go_simp;refine hK.out _ _ hS7 (fun _=>?_);clear hK K
   try simp only[zZ]
   refine zd ?_;have HT7:=zh hT7;have HS7:=zh hS7;have HP7:=zh hP7;have hPs7:=ζ hP7;have hp7:=hS7.p;have hb7:=hS7.b;have hps7:=ζ hp7;have hbs7:=ζ hb7;have z0:=ξ hP7;have x0:=ξ hp7;have fx0:=ρ hp7;have v0:=ξ hb7 0;simp only[zG,zH,zI] at v0;have fv'0:=ρ hb7 0;clear hT7 hS7 hP7 hp7 hb7 hK7 hT6 hS6 hP6 hTn hN1 hKa
   cases hfd:qA9 f (cont n z.sub) with
   | none=>
    have hfv:=HFV.out;rw[hfd] at hfv;simp only[qB0,Value.tuple.injEq,Array.mk.injEq,List.cons.injEq,Value.agg.injEq,Value.string.injEq,Value.bool.injEq,and_true] at hfv;obtain⟨⟨rfl,rfl⟩,rfl⟩:=hfv;have HFD:=zh hfd;clear hfd HFV
    gi_wp2
    refine⟨⟨HT7.out,HS7.out.toLS0,?_⟩,HS7.out.l_.trans HLP.out.1.symm,HS7.out.d_.trans HLP.out.2.symm⟩;rw[HST.out,qJ1,HNO.out,HFD.out];rfl
   | some p=>
    have hfv:=HFV.out;rw[hfd] at hfv;simp only[qB0,Value.tuple.injEq,Array.mk.injEq,List.cons.injEq,Value.agg.injEq,Value.string.injEq,Value.bool.injEq,and_true] at hfv;obtain⟨⟨rfl,rfl⟩,rfl⟩:=hfv;have HFD:=zh hfd;clear hfd HFV
    gi_wp2
    have hts:=qB2 (.string p.k) (.string p.v) HS7.out.p;obtain⟨w8,hw8,hP8,hK8⟩:∃ w8,w8=(w7.setCell ⟨w.heap.size+1+1+1,0,none⟩ (.string p.k)).setCell ⟨w.heap.size+1+1+1,1,none⟩ (.string p.v)∧w8.heap[w.heap.size+1+1+1]?=some (.cells #[.string p.k,.string p.v] 42)∧Kp [w.heap.size+1+1+1] w7 w8:=⟨_,rfl,hts.1,hts.2⟩;rw[←hw8];have hb8:=hK8.hp HS7.out.b;have hT8:=SEnv.storeX HT7.out (by omega) (fun c t fr e=>by rw[HS7.out.p] at e;cases e;decide) hK8;have hK9:Kp [w.heap.size+1+1+1+1] w8 (w8.setCell ⟨w.heap.size+1+1+1+1,0,none⟩ (.bool true)):=(Kp.refl _ _).sc _;have hT9:=SEnv.storeX hT8 (by omega) (fun c t fr e=>by rw[hb8] at e;cases e;decide) hK9;have hl9:=hK9.heap (hK8.ho HS7.out.l_) (by simp;omega);have hd9:=hK9.heap (hK8.ho HS7.out.d_) (by simp;omega);refine⟨⟨hT9,p,?_,hK9.hp hP8,μ hb8 0 _⟩,hl9.trans HLP.out.1.symm,hd9.trans HLP.out.2.symm⟩;rw[HSK.out,HSPL.out,List.flatMap_append,qJ1,HST.out,qJ1,HNO.out,HFD.out];rfl
 case done=>
  rintro W ⟨hTW,hLW,hnone⟩ hD;have hps:=ζ hLW.p;have hbs:=ζ hLW.b;have hp:=hLW.p;have hb:=hLW.b;have z0:=ξ hp;have fz0:=ρ hp;have v0:=ξ hb 0;simp only[zG,zH,zI] at v0;have fv0:=ρ hb 0;have HW:Hid (E.toEnv.To w W∧W.heap[w.heap.size+1+1+1]?=some (.cells #[.string ⟨#[]⟩,.string ⟨#[]⟩] 42)∧W.heap[w.heap.size+1+1+1+1]?=some (.cells #[.bool false] 4)∧W.heap[w3.heap.size]?=some (.deferred (some []))∧qA9 f (((ls.take k).drop 0).flatMap fun l=>cont n l.sub)=none):=⟨hTW,hp,hb,hD,hnone⟩;clear hTW hLW hnone hD hp hb
  gi_wp2
  obtain⟨hTW,hp,hb,hD,hnone⟩:=HW.out;have hans:qA9 f (cont (n+1) l.sub)=none:=by
   rw[HSK.out,HI0.out,←HK.out.1];simpa using hnone
  rw[hans];have hts:=qB2 (.string ⟨#[]⟩) (.string ⟨#[]⟩) hp;obtain⟨w4,hw4,hP4,hK4⟩:∃ w4,w4=(W.setCell ⟨w.heap.size+1+1+1,0,none⟩ (.string ⟨#[]⟩)).setCell ⟨w.heap.size+1+1+1,1,none⟩ (.string ⟨#[]⟩)∧w4.heap[w.heap.size+1+1+1]?=some (.cells #[.string ⟨#[]⟩,.string ⟨#[]⟩] 42)∧Kp [w.heap.size+1+1+1] W w4:=⟨_,rfl,hts.1,hts.2⟩;rw[←hw4];have hb4:=hK4.hp hb;have hD4:=hK4.ho hD;have hT4:=SEnv.storeX hTW (by omega) (fun c t fr e=>by rw[hp] at e;cases e;decide) hK4;obtain⟨w5,hw5,hK5⟩:∃ w5,w5=w4.setCell ⟨w.heap.size+1+1+1+1,0,none⟩ (.bool false)∧Kp [w.heap.size+1+1+1+1] w4 w5:=⟨_,rfl,(Kp.refl _ _).sc _⟩;have hb5:w5.heap[w.heap.size+1+1+1+1]?=some (.cells #[.bool false] 4):=by rw[hw5];exact μ hb4 0 _
  rw[←hw5];have hP5:=hK5.hp hP4;have hD5:=hK5.ho hD4;have hT5:=SEnv.storeX hT4 (by omega) (fun c t fr e=>by rw[hb4] at e;cases e;decide) hK5;refine⟨by simp,.inl ⟨_,_,rfl,run_takeDeferred hD5,?_⟩⟩;have hK6:Kp [w3.heap.size] w5 (w5.putObj w3.heap.size (.deferred none)):=(Kp.refl _ _).putObj (by simp) _;have hP6:=hK6.ho hP5;have hb6:=hK6.ho hb5;have hT6:=SEnv.storeX hT5 (by omega) (fun c t fr e=>by rw[hD5] at e;cases e) hK6;have t0:=ξ hP6 0;have t1:=ξ hP6 1;have t2:=ξ hb6 0;simp only[zG,zH,zI] at t0 t1 t2;refine⟨qB0 (none),?_,rfl,hT6⟩;simp[results,results99,go_sem,t0,t1,t2,qB0]
 case stop=>
  rintro W ⟨hTW,p,hp,hPW,hbW⟩ hD;have HW:Hid (E.toEnv.To w W∧qA9 f (cont (n+1) l.sub)=some p∧W.heap[w.heap.size+1+1+1]?=some (.cells #[.string p.k,.string p.v] 42)∧W.heap[w.heap.size+1+1+1+1]?=some (.cells #[.bool true] 4)∧W.heap[w3.heap.size]?=some (.deferred (some []))):=⟨hTW,hp,hPW,hbW,hD⟩;clear hTW hp hPW hbW hD
  gi_wp2
  obtain⟨hT5,hans,hP5,hb5,hD5⟩:=HW.out;rw[hans];obtain⟨w5,hw5⟩:∃ w5,w5=W:=⟨_,rfl⟩;rw[←hw5] at hT5 hP5 hb5 hD5 ⊢;refine⟨by simp,.inl ⟨_,_,rfl,run_takeDeferred hD5,?_⟩⟩;have hK6:Kp [w3.heap.size] w5 (w5.putObj w3.heap.size (.deferred none)):=(Kp.refl _ _).putObj (by simp) _;have hP6:=hK6.ho hP5;have hb6:=hK6.ho hb5;have hT6:=SEnv.storeX hT5 (by omega) (fun c t fr e=>by rw[hD5] at e;cases e) hK6;have t0:=ξ hP6 0;have t1:=ξ hP6 1;have t2:=ξ hb6 0;simp only[zG,zH,zI] at t0 t1 t2;refine⟨qB0 (some p),?_,rfl,hT6⟩;simp[results,results99,go_sem,t0,t1,t2,qB0]
end Go.Proofs.YtdohpenfkdckiaaGreatDoor
namespace Go.Proofs.YtdohpenfkdckiaaGreatDoor
open Go.Proofs.Tryz
open Go.RowKit
theorem xQ0(E:SEnv)(g:Nat)(cap:Array Value)(f:ByteArray→Bool)(hdn:qN5 f)(hcf:∀ (args:Array Value) (W:World),Sem.run prog (callFunc g args) W=.ok (.enter g args) W):∀ (n:Nat) (r:HL) (l:Lnk (Tn n)) (q:Nat) (w:World),E.Dev w→RN E.O n w q l.sub→Good n l.key l.sub→1≤cnt n l.sub→Asks E.toEnv w g cap f→
  Calls prog 99 #[υ E.V r,.pointer (some ⟨q,0,none⟩),.func (.func g) #[] cap] w fun e w'=>e=.returned (qB0 (qA9 f (cont n l.sub)))∧E.toEnv.To w w':=by
 intro n
 induction n with
 | zero=>intro r l q w hd hr hg hc ha;exact xP9 E r l q g cap f w hd hr hg hc hdn ha hcf
 | succ n ih=>intro r l q w hd hr hg hc ha;exact xP7 E n g cap f hdn hcf (fun r l q w hd hr hg h1 ha=>ih r l q w hd hr hg h1 ha) r l q w hd hr hg hc ha
theorem zT7(E:SEnv)(r:Root)(h:HL)(g:Nat)(cap:Array Value)(f:ByteArray→Bool)(w:World)(hd:E.Dev w)(hR:RR E.toEnv w h r)(hg:RGood r)(hup:qN5 f)(ha:Asks E.toEnv w g cap f)
  (hcf:∀ (args:Array Value) (W:World),Sem.run prog (callFunc g args) W=.ok (.enter g args) W):
  Calls prog 55 #[υ E.V h,.func (.func g) #[] cap] w fun e w'=>e=.returned (qB0 (qA9 f r.cont))∧E.toEnv.To w w':=by
 have HD:=zh hd;have HRR:=zh hR;have HG:=zh hg;have HA:=zh ha;have HUP:=zh hup;clear hd hR hg ha hup;rw[υ];go_enter func55,ntmps55;go_wp2_with fail;obtain⟨w0,hw0,hB0,hR0,hK0,hs0⟩:∃ w0,w0=(w.alloc (.cells #[.pointer (some ⟨E.V,0,none⟩),.string h.key,.int .i64 h.b,.int .u64 h.s,.pointer h.ptr] 89)).alloc (.cells #[.string ⟨#[]⟩,.string ⟨#[]⟩] 42)∧w0.heap[w.heap.size]?=some (.cells #[.pointer (some ⟨E.V,0,none⟩),.string h.key,.int .i64 h.b,.int .u64 h.s,.pointer h.ptr] 89)∧w0.heap[w.heap.size+1]?=some (.cells #[.string ⟨#[]⟩,.string ⟨#[]⟩] 42)∧Kp [] w w0∧w0.heap.size=w.heap.size+2:=by
  refine⟨_,rfl,η _ (κ _ _),?_,((Kp.refl _ _).alloc _).alloc _,by simp⟩;have e:=κ (w.alloc (.cells #[.pointer (some ⟨E.V,0,none⟩),.string h.key,.int .i64 h.b,.int .u64 h.s,.pointer h.ptr] 89)) (.cells #[.string ⟨#[]⟩,.string ⟨#[]⟩] 42);simpa using e
 rw[←hw0];clear hw0;have hT0:=Env.To.of0 HD.out hK0
 cases r with
 | none=>
  have hh:h=⟨⟨#[]⟩,0,0,none⟩:=HRR.out;have hem:Calls prog 92 #[υ E.V h] w0 fun e w'=>e=.returned (.bool true)∧Kp [] w0 w':=by rw[hh];exact qW0 E.V w0
  have HEM:=zh hem;clear hh hem;refine (show Calls _ _ _ _ _ from HEM.out).mono ?_;rintro e w1 ⟨rfl,hK1⟩;have hT1:=hT0.tail hK1;have hR1:=hK1.hp hR0;have hRs:=ζ hR1;have z0:=ξ hR1;have fz0:=ρ hR1;have HR1:=zh hR1;clear hR1 hB0 hR0 hK0 hK1 hT0;go_wp2;have hts:=qB2 (.string ⟨#[]⟩) (.string ⟨#[]⟩) HR1.out;have hT3:=hT1.store' (by omega) HR1.out (by decide) hts.2;have t0:=ξ hts.1 0;have t1:=ξ hts.1 1;simp only[zG,zH,zI] at t0 t1;refine bodyPost_ret (v:=qB0 none) ?_ rfl ⟨rfl,hT3⟩;simp[results,results55,go_sem,t0,t1,qB0]
 | «at» n l=>
  have hRL:RL E.O n w h l:=HRR.out;obtain⟨g1,g2,g3⟩:=HG.out;refine (qV9 E.toEnv n h l w0 (Env.RL hRL HD.out hT0) g1).mono ?_;rintro e w1 ⟨rfl,hK1⟩;have hT1:=hT0.tail hK1;have hB1:=hK1.hp hB0;have hR1:=hK1.hp hR0;have HRL1:Hid (RL E.O n w1 h l):=Env.RL hRL HD.out hT1;have HG2:=zh g2;have hc1:1≤cnt n l.sub:=by omega
  obtain⟨fk,fv,fb,hfv⟩:∃ fk fv fb,qB0 (qA9 f (cont n l.sub))=.tuple #[.agg #[.string fk,.string fv],.bool fb]:=by
   cases qA9 f (cont n l.sub) with
   | none=>exact⟨_,_,_,rfl⟩
   | some p=>exact⟨_,_,_,rfl⟩
  have HFV:=zh hfv;clear hB0 hR0 hK0 hT0 hK1 hfv hRL g2;go_wp2_with fail;have hS0:w1.heap[w.heap.size]?=some (.cells #[.pointer (some ⟨E.V,0,none⟩),.string h.key,.int .i64 h.b,.int .u64 h.s,.pointer h.ptr] 89):=hB1;refine wp_region_held_drew (S:=fun W=>W.heap[w.heap.size]?=some (.cells #[.pointer (some ⟨E.V,0,none⟩),.string h.key,.int .i64 h.b,.int .u64 h.s,.pointer h.ptr] 89)) (by kernel_rfl) hS0 (fun _=>?_);refine zW 0 (.agg #[.pointer (some ⟨E.V,0,none⟩),.string h.key,.int .i64 h.b,.int .u64 h.s,.pointer h.ptr]) hS0 id ?_;refine zW 1 (.agg #[.pointer (some ⟨E.V,0,none⟩),.string h.key,.int .i64 h.b,.int .u64 h.s,.pointer h.ptr]) hS0 id ?_;refine zU 3 (.func (.func g) #[] cap) hS0 ?_;refine zq 2 fun K hK=>?_;go_simp;have hTd:E.toEnv.To w w1.drew:=hT1.tail ((Kp.refl _ _).drew);refine (qU4 E.toEnv n h l w1.drew hTd.dev (RL.keep HRL1.out ((Kp.refl [] _).drew) (Apt.nil _ _))).mono ?_;rintro e w2 ⟨q,rfl,hN2,hTn⟩;have hT2:=hTd.trans hTn;have hS2:=hTn.new (k:=w.heap.size) HD.out (by omega) hS0;have hR2:=hTn.new (k:=w.heap.size+1) HD.out (by omega) hR1;refine hK.out _ _ hS2 (fun _=>?_);clear hK K
  try simp only[zZ]
  clear hTn hTd hS0 hR1 hB1;refine zq 4 fun K hK=>?_;go_simp;refine (xQ0 E g cap f HUP.out hcf n h l q w2 hT2.dev hN2 HG2.out hc1 (HA.out.to hT2)).mono ?_;rintro e w3 ⟨rfl,hTn⟩;rw[HFV.out];have hT3:=hT2.trans hTn;have hS3:=hTn.new (k:=w.heap.size) HD.out (by omega) hS2;have hR3:=hTn.new (k:=w.heap.size+1) HD.out (by omega) hR2;refine hK.out _ _ hS3 (fun _=>?_);clear hK K
  try simp only[zZ]
  clear hTn hS2 hR2;refine zU 5 (.agg #[.string fk,.string fv]) hS3 ?_;refine zU 6 (.bool fb) hS3 ?_;have hRs:=ζ hR3;have z0:=ξ hR3;have fz0:=ρ hR3;refine zq 7 fun K hK=>?_;go_simp;have hts:=qB2 (.string fk) (.string fv) hR3;obtain⟨w4,hw4,hR4,hK4⟩:∃ w4,w4=(w3.setCell ⟨w.heap.size+1,0,none⟩ (.string fk)).setCell ⟨w.heap.size+1,1,none⟩ (.string fv)∧w4.heap[w.heap.size+1]?=some (.cells #[.string fk,.string fv] 42)∧Kp [w.heap.size+1] w3 w4:=⟨_,rfl,hts.1,hts.2⟩;rw[←hw4];clear hw4 hts z0 fz0;have hT4:=hT3.store' (by omega) hR3 (by decide) hK4;have hS4:=hK4.hp hS3;refine hK.out _ _ hS4 (fun _=>?_);clear hK K
  try simp only[zZ]
  refine zq 8 fun K hK=>?_;go_simp;refine hK.out _ _ hS4 (fun _=>?_);clear hK K
  try simp only[zZ]
  refine zd ?_;have HT4:=zh hT4;clear hS4 hS3 hT4 hT3 hK4 hR3;go_wp2;have t0:=ξ hR4 0;have t1:=ξ hR4 1;simp only[zG,zH,zI] at t0 t1;refine bodyPost_ret (v:=.tuple #[.agg #[.string fk,.string fv],.bool fb]) ?_ rfl ⟨?_,HT4.out⟩
  ·simp[results,results55,go_sem,t0,t1]
  ·rw[show (Root.at n l).cont=cont n l.sub from rfl,HFV.out]
def qA6(x:Nat)(key:ByteArray)(since:Int):Obj:=.cells #[.pointer (some ⟨x,0,none⟩),.string key,.int .u64 since] 80
structure MvIn(E:SEnv)(Fb Cc Ff P B Cb x g:Nat)(capf:Array Value)(fh:Bool)(key:ByteArray)(since:Int)(t:Tx)(w:World):Prop where
 hFb:w.heap[Fb]?=some (.cells #[.bool fh] 4)
 hCc:w.heap[Cc]?=some (.cells #[.pointer (some ⟨Cb,0,none⟩)] 36)
 hFf:w.heap[Ff]?=some (.cells #[.func (.func g) #[] capf] 93)
 hP:w.heap[P]?=some (.cells #[.string ⟨#[]⟩,.string ⟨#[]⟩] 42)
 hB:w.heap[B]?=some (.cells #[.bool false] 4)
 hCb:w.heap[Cb]?=some (qA6 x key since)
 hx:w.heap[x]?=some (χ t)
 on:t.on=some ⟨E.V,0,none⟩
 dev:E.Dev w
 ne:Fb≠B
theorem xR9(E:SEnv)(Fb Cc Ff P B Cb x g:Nat)(capf:Array Value)(key:ByteArray)(since:Int)(t:Tx)(w:World)(h:MvIn E Fb Cc Ff P B Cb x g capf true key since t w)(hk:key.toList.isEmpty=true∨since≠t.ch):
  Calls prog 91 #[.pointer (some ⟨Fb,0,none⟩),.pointer (some ⟨Cc,0,none⟩),.pointer (some ⟨Ff,0,none⟩),.pointer (some ⟨P,0,none⟩),.pointer (some ⟨B,0,none⟩)] w fun e w'=>e=qB7 (some 11)∧Kp [] w w':=by
 have hFb:=h.hFb;have hCc:=h.hCc;have hCb:=h.hCb;have hx:=h.hx;have h1:=ζ hFb;have h2:=ζ hCc;have h3:=ζ hCb;have h4:=ζ hx;have f0:=ξ hFb 0;simp only[zG,zH,zI] at f0;have c0:=ξ hCc 0;simp only[zG,zH,zI] at c0;have b0:=ξ hCb 0;have b1:=ξ hCb 1;have b2:=ξ hCb 2;simp only[qA6,zG,zH,zI] at b0 b1 b2;have x9:=ξ hx 9;simp only[χ,zG,zH,zI] at x9;clear h hFb hCc hCb hx
 cases hk0:key.toList.isEmpty with
 | true=>
  clear hk;go_enter func91,ntmps91;go_wp2_with fail
  go_quiet (fail)
  go_wp2;exact⟨rfl,rfl,rfl,(Kp.refl _ _).drewN _⟩
 | false=>
  have hs:¬since=t.ch:=by
   rcases hk with h|h
   ·rw[h] at hk0;cases hk0
   ·exact h
  clear hk;go_enter func91,ntmps91;go_wp2_with fail
  go_quiet (fail)
  go_wp2;exact⟨rfl,rfl,rfl,(Kp.refl _ _).drewN _⟩
structure MvS(Cc Ff Cb x g:Nat)(capf:Array Value)(t:Tx)(w:World):Prop where
 c:w.heap[Cc]?=some (.cells #[.pointer (some ⟨Cb,0,none⟩)] 36)
 f:w.heap[Ff]?=some (.cells #[.func (.func g) #[] capf] 93)
 b:∃ k s,w.heap[Cb]?=some (qA6 x k s)
 x_:w.heap[x]?=some (χ t)
theorem MvS.kp{Cc Ff Cb x g:Nat}{capf:Array Value}{t:Tx}{w w':World}{L:List Nat}(h:MvS Cc Ff Cb x g capf t w)(hK:Kp L w w')(hL:∀ k∈L,∀ c u fr,w.heap[k]?=some (.cells c u fr)→u=42∨u=4∨u=38∨u∈qK1):MvS Cc Ff Cb x g capf t w':=by
 have st:∀ {k:Nat} {c:Array Value} {u:TypeId} {fr:Nat × Nat},w.heap[k]?=some (.cells c u fr)→(u≠42∧u≠4∧u≠38∧u ∉ qK1)→w'.heap[k]?=some (.cells c u fr):=fun hk hu=>hK.heap hk (fun hm=>by
  rcases hL _ hm _ _ _ hk with e|e|e|e
  ·exact hu.1 e
  ·exact hu.2.1 e
  ·exact hu.2.2.1 e
  ·exact hu.2.2.2 e)
 obtain⟨k,s,hb⟩:=h.b;exact⟨st h.c (by decide),st h.f (by decide),⟨k,s,st hb (by decide)⟩,st h.x_ (by decide)⟩
theorem MvS.to{E:SEnv}{Cc Ff Cb x g:Nat}{capf:Array Value}{t:Tx}{w w':World}(h:MvS Cc Ff Cb x g capf t w)(hd:E.Dev w)(hT:E.toEnv.To w w'):MvS Cc Ff Cb x g capf t w':=by
 obtain⟨k,s,hb⟩:=h.b;exact⟨E.stay hd hT h.c (by decide),E.stay hd hT h.f (by decide),⟨k,s,E.stay hd hT hb (by decide)⟩,E.stay hd hT h.x_ (by decide)⟩
theorem xR8(E:SEnv)(Fb Cc Ff P B Cb x g:Nat)(capf:Array Value)(fh:Bool)(key:ByteArray)(since:Int)(t:Tx)(o:Option KV)(w:World)(h:MvIn E Fb Cc Ff P B Cb x g capf fh key since t w)(hk:fh=true→key.toList.isEmpty=false∧since=t.ch)
  (hcf:∀ (args:Array Value) (W:World),Sem.run prog (callFunc g args) W=.ok (.enter g args) W)
  (hfind:∀ W,E.toEnv.To w W→Calls prog g (#[υ E.V t.h]++capf) W fun e W'=>e=.returned (qB0 o)∧E.toEnv.To W W'):
  Calls prog 91 #[.pointer (some ⟨Fb,0,none⟩),.pointer (some ⟨Cc,0,none⟩),.pointer (some ⟨Ff,0,none⟩),.pointer (some ⟨P,0,none⟩),.pointer (some ⟨B,0,none⟩)] w fun e w'=>e=qB7 none∧w'.heap[P]?=some (.cells #[.string (pkv o).k,.string (pkv o).v] 42)∧w'.heap[B]?=some (.cells #[.bool o.isSome] 4)∧w'.heap[Cb]?=some (qA6 x (pkv o).k t.ch)∧∃ w1,E.toEnv.To w w1∧Kp [P,B,Cb] w1 w':=by
 have HD:=zh h.dev;have HS:Hid (MvS Cc Ff Cb x g capf t w):=⟨h.hCc,h.hFf,⟨_,_,h.hCb⟩,h.hx⟩;have HP:Hid (w.heap[P]?=some (.cells #[.string ⟨#[]⟩,.string ⟨#[]⟩] 42)∧w.heap[B]?=some (.cells #[.bool false] 4)):=⟨h.hP,h.hB⟩;have HFI:=zh hfind;have hon:=h.on;obtain⟨fk,fv,fb,hfv,hfo⟩:∃ fk fv fb,qB0 o=.tuple #[.agg #[.string fk,.string fv],.bool fb]∧(pkv o).k=fk∧(pkv o).v=fv∧o.isSome=fb:=by
  cases o with
  | none=>exact⟨_,_,_,rfl,rfl,rfl,rfl⟩
  | some p=>exact⟨_,_,_,rfl,rfl,rfl,rfl⟩
 have HFV:=zh hfv;rw[hfo.1,hfo.2.1,hfo.2.2];have hFb:=h.hFb;have hCc:=h.hCc;have hCb:=h.hCb;have hx:=h.hx;have h1:=ζ hFb;have h2:=ζ hCc;have h3:=ζ hCb;have h4:=ζ hx;have f0:=ξ hFb 0;simp only[zG,zH,zI] at f0;have c0:=ξ hCc 0;simp only[zG,zH,zI] at c0;have b0:=ξ hCb 0;have b1:=ξ hCb 1;have b2:=ξ hCb 2;simp only[qA6,zG,zH,zI] at b0 b1 b2;have x9:=ξ hx 9;simp only[χ,zG,zH,zI] at x9;clear h hFb hCc hCb hx hfind hfv hfo
 cases fh with
 | false=>
  clear hk;go_enter func91,ntmps91;go_wp2_with fail
  go_quiet (fail)
  go_wp2_with fail;clear f0 c0 b0 b1 b2 x9;refine wp_region_held_drew (S:=MvS Cc Ff Cb x g capf t) (by kernel_rfl) (HS.out.kp (((Kp.refl [] w).drewN nq).drew) (by simp)) (fun hSd=>?_);refine zV 0 (.func (.func g) #[] capf) rfl (fun W hS=>by have c:=ξ hS.f 0;simp only[zG,zH] at c;clear hS;go_simp) hSd ?_;refine zV 1 (.pointer (some ⟨Cb,0,none⟩)) rfl (fun W hS=>by have c:=ξ hS.c 0;simp only[zG,zH] at c;clear hS;go_simp) hSd ?_;refine zP 2 Cb 0 hSd ?_;refine zP 3 Cb 0 hSd ?_;refine zV 4 (.pointer (some ⟨x,0,none⟩)) rfl (fun W hS=>by obtain⟨k',s',hb⟩:=hS.b;have c:=ξ hb 0;simp only[qA6,zG,zH] at c;clear hS hb;go_simp) hSd ?_;refine zP 5 x 0 hSd ?_;refine zP 6 x 4 hSd ?_;refine zV 7 (υ E.V t.h) rfl (fun W hS=>by have a0:=ξ hS.x_ 4;have a1:=ξ hS.x_ 5;have a2:=ξ hS.x_ 6;have a3:=ξ hS.x_ 7;have a4:=ξ hS.x_ 8;simp only[χ,hon,zG,zH,zI] at a0 a1 a2 a3 a4;clear hS;rw[υ];go_simp) hSd ?_;refine zq 8 fun K hK=>?_;go_simp;obtain⟨Wd,hWd⟩:∃ Wd,Wd=w.drewN (nq+1):=⟨_,rfl⟩;rw[←hWd];have hKd:Kp [] w Wd:=by rw[hWd];exact (Kp.refl [] w).drewN _
  clear hWd hSd;have hTd:=Env.To.of0 HD.out hKd;refine (HFI.out Wd hTd).mono ?_;rintro e w2 ⟨rfl,hT2⟩;have hT2':=hTd.trans hT2;have hS2:=(HS.out.to HD.out hT2');have hP2:=E.stay HD.out hT2' HP.out.1 (by decide);have hB2:=E.stay HD.out hT2' HP.out.2 (by decide);rw[HFV.out];refine hK.out _ _ hS2 (fun _=>?_);clear hK K
  try simp only[zZ]
  refine zU 9 (.tuple #[.agg #[.string fk,.string fv],.bool fb]) hS2 ?_;refine zU 10 (.agg #[.string fk,.string fv]) hS2 ?_;refine zU 11 (.bool fb) hS2 ?_;have hP2s:=ζ hP2;have v0:=ξ hP2;have fv'0:=ρ hP2;refine zq 12 fun K hK=>?_;go_simp;have hts:=qB2 (.string fk) (.string fv) hP2;obtain⟨w3,hw3,hP3,hK3⟩:∃ w3,w3=(w2.setCell ⟨P,0,none⟩ (.string fk)).setCell ⟨P,1,none⟩ (.string fv)∧w3.heap[P]?=some (.cells #[.string fk,.string fv] 42)∧Kp [P] w2 w3:=⟨_,rfl,hts.1,hts.2⟩;rw[←hw3];clear hw3 hts v0 fv'0;have hS3:=hS2.kp hK3 (fun k hk c u fr e=>by rw[List.mem_singleton.1 hk,hP2] at e;cases e;simp);have hB3:=hK3.heap hB2 (by simp;exact ω hB2 hP2 (by decide));refine hK.out _ _ hS3 (fun _=>?_);clear hK K
  try simp only[zZ]
  have hB3s:=ζ hB3;have b0:=ξ hB3 0;simp only[zG,zH,zI] at b0;have fb'0:=ρ hB3 0;refine zq 13 fun K hK=>?_;go_simp;obtain⟨w4,hw4,hB4,hK4⟩:∃ w4,w4=w3.setCell ⟨B,0,none⟩ (.bool fb)∧w4.heap[B]?=some (.cells #[.bool fb] 4)∧Kp [B] w3 w4:=⟨_,rfl,μ hB3 0 _,(Kp.refl _ _).sc _⟩;rw[←hw4];clear hw4 b0 fb'0;have hS4:=hS3.kp hK4 (fun k hk c u fr e=>by rw[List.mem_singleton.1 hk,hB3] at e;cases e;simp);have hP4:=hK4.heap hP3 (by simp;exact ω hP3 hB3 (by decide));refine hK.out _ _ hS4 (fun _=>?_);clear hK K
  try simp only[zZ]
  refine zd ?_;have HT2:Hid (E.toEnv.To w w2∧Kp [P,B] w2 w4):=⟨hT2',(hK3.mono (S':=[P,B]) (by simp +contextual)).trans hK4 (by simp +contextual)⟩;have HB4:=zh hB4;have HP4:=zh hP4;have HS4:=zh hS4;clear hS4 hS3 hS2 hP3 hP2 hB4 hB3 hB2 hK3 hK4 hT2 hT2' hTd hKd hP4;go_wp2_with fail;have hSd:w4.drew.heap[Cc]?=some (.cells #[.pointer (some ⟨Cb,0,none⟩)] 36)∧(∃ k s,w4.drew.heap[Cb]?=some (qA6 x k s))∧w4.drew.heap[x]?=some (χ t)∧w4.drew.heap[P]?=some (.cells #[.string fk,.string fv] 42):=⟨HS4.out.c,HS4.out.b,HS4.out.x_,HP4.out⟩;refine wp_region_held_drew (S:=fun W=>W.heap[Cc]?=some (.cells #[.pointer (some ⟨Cb,0,none⟩)] 36)∧(∃ k s,W.heap[Cb]?=some (qA6 x k s))∧W.heap[x]?=some (χ t)∧W.heap[P]?=some (.cells #[.string fk,.string fv] 42)) (by kernel_rfl) hSd (fun _=>?_);refine zV 0 (.pointer (some ⟨Cb,0,none⟩)) rfl (fun W hS=>by have c:=ξ hS.1 0;simp at c;clear hS;go_simp) hSd ?_;refine zV 1 (.pointer (some ⟨Cb,0,none⟩)) rfl (fun W hS=>by have c:=ξ hS.1 0;simp at c;clear hS;go_simp) hSd ?_;refine zP 2 P 0 hSd ?_;refine zV 3 (.string fk) rfl (fun W hS=>by have c:=ξ hS.2.2.2 0;simp at c;clear hS;go_simp) hSd ?_;refine zV 4 (.pointer (some ⟨Cb,0,none⟩)) rfl (fun W hS=>by have c:=ξ hS.1 0;simp at c;clear hS;go_simp) hSd ?_;refine zP 5 Cb 0 hSd ?_;refine zP 6 Cb 0 hSd ?_;refine zV 7 (.pointer (some ⟨x,0,none⟩)) rfl (fun W hS=>by obtain⟨k',s',hb⟩:=hS.2.1;have c:=ξ hb 0;simp only[qA6,zG,zH] at c;clear hS hb;go_simp) hSd ?_;refine zP 8 x 0 hSd ?_;refine zP 9 x 9 hSd ?_;refine zV 10 (.int .u64 t.ch) rfl (fun W hS=>by have c:=ξ hS.2.2.1 9;simp only[χ,zG,zH,zI] at c;clear hS;go_simp) hSd ?_;refine zP 11 Cb 0 hSd ?_;refine zP 12 Cb 1 hSd ?_;obtain⟨k',s',hb4⟩:=HS4.out.b;have hbs4:=ζ hb4;have b0:=ξ hb4 0;have b1:=ξ hb4 1;have b2:=ξ hb4 2;simp only[qA6,zG,zH,zI] at b0 b1 b2;have fb'1:=ρ hb4;refine zq 13 fun K hK=>?_;go_simp;obtain⟨w5,hw5,hb5,hK5⟩:∃ w5,w5=(w4.setCell ⟨Cb,1,none⟩ (.string fk)).drew∧w5.heap[Cb]?=some (qA6 x fk s')∧Kp [Cb] w4 w5:=⟨_,rfl,μ hb4 1 _,((Kp.refl [Cb] w4).sc _).drew⟩;rw[←hw5];clear hw5 b0 b1 b2 fb'1;have hcb:Cc≠Cb:=ω HS4.out.c hb4 (by decide);have hxb:x≠Cb:=ω HS4.out.x_ hb4 (by decide);have hpb:P≠Cb:=ω HP4.out hb4 (by decide);have hS5:w5.heap[Cc]?=some (.cells #[.pointer (some ⟨Cb,0,none⟩)] 36)∧(∃ k s,w5.heap[Cb]?=some (qA6 x k s))∧w5.heap[x]?=some (χ t)∧w5.heap[P]?=some (.cells #[.string fk,.string fv] 42):=⟨hK5.heap HS4.out.c (by simp;exact hcb),⟨_,_,hb5⟩,hK5.heap HS4.out.x_ (by simp;exact hxb),hK5.heap HP4.out (by simp;exact hpb)⟩;refine hK.out _ _ hS5 (fun _=>?_);clear hK K
  try simp only[zZ]
  refine zP 14 Cb 0 hS5 ?_;refine zP 15 Cb 2 hS5 ?_;have hbs5:=ζ hb5;have b0:=ξ hb5 0;have b1:=ξ hb5 1;have b2:=ξ hb5 2;simp only[qA6,zG,zH,zI] at b0 b1 b2;have fb'1:=ρ hb5;refine zq 16 fun K hK=>?_;go_simp;obtain⟨w6,hw6,hb6,hK6⟩:∃ w6,w6=w5.setCell ⟨Cb,2,none⟩ (.int .u64 t.ch)∧w6.heap[Cb]?=some (qA6 x fk t.ch)∧Kp [Cb] w5 w6:=⟨_,rfl,μ hb5 2 _,(Kp.refl [Cb] w5).sc _⟩;rw[←hw6];clear hw6 b0 b1 b2 fb'1;have hS6:w6.heap[Cc]?=some (.cells #[.pointer (some ⟨Cb,0,none⟩)] 36)∧(∃ k s,w6.heap[Cb]?=some (qA6 x k s))∧w6.heap[x]?=some (χ t)∧w6.heap[P]?=some (.cells #[.string fk,.string fv] 42):=⟨hK6.heap hS5.1 (by simp;exact hcb),⟨_,_,hb6⟩,hK6.heap hS5.2.2.1 (by simp;exact hxb),hK6.heap hS5.2.2.2 (by simp;exact hpb)⟩;refine hK.out _ _ hS6 (fun _=>?_);clear hK K
  try simp only[zZ]
  refine zd ?_;have hK46:Kp [Cb] w4 w6:=hK5.trans hK6 (fun _ h _=>h);have HF:Hid (w6.heap[P]?=some (.cells #[.string fk,.string fv] 42)∧w6.heap[B]?=some (.cells #[.bool fb] 4)∧w6.heap[Cb]?=some (qA6 x fk t.ch)∧∃ w1,E.toEnv.To w w1∧Kp [P,B,Cb] w1 w6):=
   ⟨hS6.2.2.2,hK46.heap HB4.out (by simp;exact ω HB4.out hb4 (by decide)),hb6,w2,HT2.out.1,(HT2.out.2.mono (S':=[P,B,Cb]) (by simp +contextual)).trans hK46 (by simp +contextual)⟩
  clear hS6 hS5 hSd hb4 hb5 hb6 hK5 hK6 hK46 hcb hxb hpb;go_wp2
  go_end0
  exact⟨rfl,HF.out⟩
 | true=>
  obtain⟨hk0,hs⟩:=hk rfl;subst hs;clear hk;go_enter func91,ntmps91;go_wp2_with fail
  go_quiet (fail)
  go_wp2_with fail;clear f0 c0 b0 b1 b2 x9 hk0;refine wp_region_held_drew (S:=MvS Cc Ff Cb x g capf t) (by kernel_rfl) (HS.out.kp (((Kp.refl [] w).drewN nq).drew) (by simp)) (fun hSd=>?_);refine zV 0 (.func (.func g) #[] capf) rfl (fun W hS=>by have c:=ξ hS.f 0;simp only[zG,zH] at c;clear hS;go_simp) hSd ?_;refine zV 1 (.pointer (some ⟨Cb,0,none⟩)) rfl (fun W hS=>by have c:=ξ hS.c 0;simp only[zG,zH] at c;clear hS;go_simp) hSd ?_;refine zP 2 Cb 0 hSd ?_;refine zP 3 Cb 0 hSd ?_;refine zV 4 (.pointer (some ⟨x,0,none⟩)) rfl (fun W hS=>by obtain⟨k',s',hb⟩:=hS.b;have c:=ξ hb 0;simp only[qA6,zG,zH] at c;clear hS hb;go_simp) hSd ?_;refine zP 5 x 0 hSd ?_;refine zP 6 x 4 hSd ?_;refine zV 7 (υ E.V t.h) rfl (fun W hS=>by have a0:=ξ hS.x_ 4;have a1:=ξ hS.x_ 5;have a2:=ξ hS.x_ 6;have a3:=ξ hS.x_ 7;have a4:=ξ hS.x_ 8;simp only[χ,hon,zG,zH,zI] at a0 a1 a2 a3 a4;clear hS;rw[υ];go_simp) hSd ?_;refine zq 8 fun K hK=>?_;go_simp;obtain⟨Wd,hWd⟩:∃ Wd,Wd=w.drewN (nq+1):=⟨_,rfl⟩;rw[←hWd];have hKd:Kp [] w Wd:=by rw[hWd];exact (Kp.refl [] w).drewN _
  clear hWd hSd;have hTd:=Env.To.of0 HD.out hKd;refine (HFI.out Wd hTd).mono ?_;rintro e w2 ⟨rfl,hT2⟩;have hT2':=hTd.trans hT2;have hS2:=(HS.out.to HD.out hT2');have hP2:=E.stay HD.out hT2' HP.out.1 (by decide);have hB2:=E.stay HD.out hT2' HP.out.2 (by decide);rw[HFV.out];refine hK.out _ _ hS2 (fun _=>?_);clear hK K
  try simp only[zZ]
  refine zU 9 (.tuple #[.agg #[.string fk,.string fv],.bool fb]) hS2 ?_;refine zU 10 (.agg #[.string fk,.string fv]) hS2 ?_;refine zU 11 (.bool fb) hS2 ?_;have hP2s:=ζ hP2;have v0:=ξ hP2;have fv'0:=ρ hP2;refine zq 12 fun K hK=>?_;go_simp;have hts:=qB2 (.string fk) (.string fv) hP2;obtain⟨w3,hw3,hP3,hK3⟩:∃ w3,w3=(w2.setCell ⟨P,0,none⟩ (.string fk)).setCell ⟨P,1,none⟩ (.string fv)∧w3.heap[P]?=some (.cells #[.string fk,.string fv] 42)∧Kp [P] w2 w3:=⟨_,rfl,hts.1,hts.2⟩;rw[←hw3];clear hw3 hts v0 fv'0;have hS3:=hS2.kp hK3 (fun k hk c u fr e=>by rw[List.mem_singleton.1 hk,hP2] at e;cases e;simp);have hB3:=hK3.heap hB2 (by simp;exact ω hB2 hP2 (by decide));refine hK.out _ _ hS3 (fun _=>?_);clear hK K
  try simp only[zZ]
  have hB3s:=ζ hB3;have b0:=ξ hB3 0;simp only[zG,zH,zI] at b0;have fb'0:=ρ hB3 0;refine zq 13 fun K hK=>?_;go_simp;obtain⟨w4,hw4,hB4,hK4⟩:∃ w4,w4=w3.setCell ⟨B,0,none⟩ (.bool fb)∧w4.heap[B]?=some (.cells #[.bool fb] 4)∧Kp [B] w3 w4:=⟨_,rfl,μ hB3 0 _,(Kp.refl _ _).sc _⟩;rw[←hw4];clear hw4 b0 fb'0;have hS4:=hS3.kp hK4 (fun k hk c u fr e=>by rw[List.mem_singleton.1 hk,hB3] at e;cases e;simp);have hP4:=hK4.heap hP3 (by simp;exact ω hP3 hB3 (by decide));refine hK.out _ _ hS4 (fun _=>?_);clear hK K
  try simp only[zZ]
  refine zd ?_;have HT2:Hid (E.toEnv.To w w2∧Kp [P,B] w2 w4):=⟨hT2',(hK3.mono (S':=[P,B]) (by simp +contextual)).trans hK4 (by simp +contextual)⟩;have HB4:=zh hB4;have HP4:=zh hP4;have HS4:=zh hS4;clear hS4 hS3 hS2 hP3 hP2 hB4 hB3 hB2 hK3 hK4 hT2 hT2' hTd hKd hP4;go_wp2_with fail;have hSd:w4.drew.heap[Cc]?=some (.cells #[.pointer (some ⟨Cb,0,none⟩)] 36)∧(∃ k s,w4.drew.heap[Cb]?=some (qA6 x k s))∧w4.drew.heap[x]?=some (χ t)∧w4.drew.heap[P]?=some (.cells #[.string fk,.string fv] 42):=⟨HS4.out.c,HS4.out.b,HS4.out.x_,HP4.out⟩;refine wp_region_held_drew (S:=fun W=>W.heap[Cc]?=some (.cells #[.pointer (some ⟨Cb,0,none⟩)] 36)∧(∃ k s,W.heap[Cb]?=some (qA6 x k s))∧W.heap[x]?=some (χ t)∧W.heap[P]?=some (.cells #[.string fk,.string fv] 42)) (by kernel_rfl) hSd (fun _=>?_);refine zV 0 (.pointer (some ⟨Cb,0,none⟩)) rfl (fun W hS=>by have c:=ξ hS.1 0;simp at c;clear hS;go_simp) hSd ?_;refine zV 1 (.pointer (some ⟨Cb,0,none⟩)) rfl (fun W hS=>by have c:=ξ hS.1 0;simp at c;clear hS;go_simp) hSd ?_;refine zP 2 P 0 hSd ?_;refine zV 3 (.string fk) rfl (fun W hS=>by have c:=ξ hS.2.2.2 0;simp at c;clear hS;go_simp) hSd ?_;refine zV 4 (.pointer (some ⟨Cb,0,none⟩)) rfl (fun W hS=>by have c:=ξ hS.1 0;simp at c;clear hS;go_simp) hSd ?_;refine zP 5 Cb 0 hSd ?_;refine zP 6 Cb 0 hSd ?_;refine zV 7 (.pointer (some ⟨x,0,none⟩)) rfl (fun W hS=>by obtain⟨k',s',hb⟩:=hS.2.1;have c:=ξ hb 0;simp only[qA6,zG,zH] at c;clear hS hb;go_simp) hSd ?_;refine zP 8 x 0 hSd ?_;refine zP 9 x 9 hSd ?_;refine zV 10 (.int .u64 t.ch) rfl (fun W hS=>by have c:=ξ hS.2.2.1 9;simp only[χ,zG,zH,zI] at c;clear hS;go_simp) hSd ?_;refine zP 11 Cb 0 hSd ?_;refine zP 12 Cb 1 hSd ?_;obtain⟨k',s',hb4⟩:=HS4.out.b;have hbs4:=ζ hb4;have b0:=ξ hb4 0;have b1:=ξ hb4 1;have b2:=ξ hb4 2;simp only[qA6,zG,zH,zI] at b0 b1 b2;have fb'1:=ρ hb4;refine zq 13 fun K hK=>?_;go_simp;obtain⟨w5,hw5,hb5,hK5⟩:∃ w5,w5=(w4.setCell ⟨Cb,1,none⟩ (.string fk)).drew∧w5.heap[Cb]?=some (qA6 x fk s')∧Kp [Cb] w4 w5:=⟨_,rfl,μ hb4 1 _,((Kp.refl [Cb] w4).sc _).drew⟩;rw[←hw5];clear hw5 b0 b1 b2 fb'1;have hcb:Cc≠Cb:=ω HS4.out.c hb4 (by decide);have hxb:x≠Cb:=ω HS4.out.x_ hb4 (by decide);have hpb:P≠Cb:=ω HP4.out hb4 (by decide);have hS5:w5.heap[Cc]?=some (.cells #[.pointer (some ⟨Cb,0,none⟩)] 36)∧(∃ k s,w5.heap[Cb]?=some (qA6 x k s))∧w5.heap[x]?=some (χ t)∧w5.heap[P]?=some (.cells #[.string fk,.string fv] 42):=⟨hK5.heap HS4.out.c (by simp;exact hcb),⟨_,_,hb5⟩,hK5.heap HS4.out.x_ (by simp;exact hxb),hK5.heap HP4.out (by simp;exact hpb)⟩;refine hK.out _ _ hS5 (fun _=>?_);clear hK K
  try simp only[zZ]
  refine zP 14 Cb 0 hS5 ?_;refine zP 15 Cb 2 hS5 ?_;have hbs5:=ζ hb5;have b0:=ξ hb5 0;have b1:=ξ hb5 1;have b2:=ξ hb5 2;simp only[qA6,zG,zH,zI] at b0 b1 b2;have fb'1:=ρ hb5;refine zq 16 fun K hK=>?_;go_simp;obtain⟨w6,hw6,hb6,hK6⟩:∃ w6,w6=w5.setCell ⟨Cb,2,none⟩ (.int .u64 t.ch)∧w6.heap[Cb]?=some (qA6 x fk t.ch)∧Kp [Cb] w5 w6:=⟨_,rfl,μ hb5 2 _,(Kp.refl [Cb] w5).sc _⟩;rw[←hw6];clear hw6 b0 b1 b2 fb'1;have hS6:w6.heap[Cc]?=some (.cells #[.pointer (some ⟨Cb,0,none⟩)] 36)∧(∃ k s,w6.heap[Cb]?=some (qA6 x k s))∧w6.heap[x]?=some (χ t)∧w6.heap[P]?=some (.cells #[.string fk,.string fv] 42):=⟨hK6.heap hS5.1 (by simp;exact hcb),⟨_,_,hb6⟩,hK6.heap hS5.2.2.1 (by simp;exact hxb),hK6.heap hS5.2.2.2 (by simp;exact hpb)⟩;refine hK.out _ _ hS6 (fun _=>?_);clear hK K
  try simp only[zZ]
  refine zd ?_;have hK46:Kp [Cb] w4 w6:=hK5.trans hK6 (fun _ h _=>h);have HF:Hid (w6.heap[P]?=some (.cells #[.string fk,.string fv] 42)∧w6.heap[B]?=some (.cells #[.bool fb] 4)∧w6.heap[Cb]?=some (qA6 x fk t.ch)∧∃ w1,E.toEnv.To w w1∧Kp [P,B,Cb] w1 w6):=
   ⟨hS6.2.2.2,hK46.heap HB4.out (by simp;exact ω HB4.out hb4 (by decide)),hb6,w2,HT2.out.1,(HT2.out.2.mono (S':=[P,B,Cb]) (by simp +contextual)).trans hK46 (by simp +contextual)⟩
  clear hS6 hS5 hSd hb4 hb5 hb6 hK5 hK6 hK46 hcb hxb hpb;go_wp2
  go_end0
  exact⟨rfl,HF.out⟩
theorem zF3(w:World)(o1 o2 o3 o4 o5 o6:Obj):∃ w1,w1=(((((w.alloc o1).alloc o2).alloc o3).alloc o4).alloc o5).alloc o6∧w1.heap[w.heap.size]?=some o1∧w1.heap[w.heap.size+1]?=some o2∧w1.heap[w.heap.size+1+1]?=some o3∧w1.heap[w.heap.size+1+1+1]?=some o4∧w1.heap[w.heap.size+1+1+1+1]?=some o5∧w1.heap[w.heap.size+1+1+1+1+1]?=some o6∧Kp [] w w1∧w1.heap.size=w.heap.size+6:=by
 obtain⟨w1,hw1,h1,h2,h3,h4,h5,hK,hs⟩:=zC1 w o1 o2 o3 o4 o5;refine⟨w1.alloc o6,by rw[hw1],η _ h1,η _ h2,η _ h3,η _ h4,η _ h5,?_,hK.alloc _,by simp[hs]⟩;have e:=κ w1 o6;rw[hs] at e;exact e
theorem zJ1(args:Array Value)(W:World):Sem.run prog (callFunc 91 args) W=.ok (.enter 91 args) W:=by
 simp[go_sem,func91]
structure CurT(E:SEnv)(w w':World)(Cb x:Nat)(t:Tx)(s:Sto)(k:ByteArray):Prop where
 dev:E.Dev w'
 hSt:w'.heap[t.St]?=some (ν 0 s)
 hC:w'.heap[Cb]?=some (qA6 x k t.ch)
 kp:Kp (t.St::Cb::E.S) w w'
theorem qS3(E:SEnv)(x A n:Nat)(t:Tx)(s:Sto)(r:Root)(Cb:Nat)(key:ByteArray)(since:Int)(call:ByteArray)(fh:Bool)(g:Nat)(capf:Array Value)(o:Option KV)(w:World)(hL:LiveT E w x A n t s r)(hC:w.heap[Cb]?=some (qA6 x key since))(hk:fh=true→key.toList.isEmpty=false∧since=t.ch)
  (hcf:∀ (args:Array Value) (W:World),Sem.run prog (callFunc g args) W=.ok (.enter g args) W)
  (hfind:∀ W,E.Dev W→RR E.toEnv W t.h r→Kp (t.St::E.S) w W→Calls prog g (#[υ E.V t.h]++capf) W fun e W'=>e=.returned (qB0 o)∧E.toEnv.To W W'):
  Calls prog 47 #[.pointer (some ⟨Cb,0,none⟩),.string call,.bool fh,.func (.func g) #[] capf] w fun e w'=>e=.returned (.tuple #[.agg #[.string (pkv o).k,.string (pkv o).v],.bool o.isSome,.nilIface])∧CurT E w w' Cb x t s (pkv o).k:=by
 have HL:=zh hL;have HK:=zh hk;have HFI:=zh hfind;have HCF:=zh hcf;have HC:=zh hC;have hxs:=ζ hL.hx;have hSs:=ζ hL.hSt;have hCSt:Cb≠t.St:=ω hC hL.hSt (by decide);clear hL hk hfind hcf;have hmf:=zM;have hCs:=ζ hC;have hCs1:Cb<w.heap.size+1:=by omega
 have hCs2:Cb<w.heap.size+1+1:=by omega
 have hCs3:Cb<w.heap.size+1+1+1:=by omega
 have hCs4:Cb<w.heap.size+1+1+1+1:=by omega
 have hCs5:Cb<w.heap.size+1+1+1+1+1:=by omega
 have hc0:=ξ hC 0;simp only[qA6,zG,zH] at hc0;go_enter func47,ntmps47;go_wp2_with fail;obtain⟨w0,hw0,hC0,hF0,hG0,hR0,hP0,hB0,hKp0,hs0⟩:=zF3 w (.cells #[.pointer (some ⟨Cb,0,none⟩)] 36) (.cells #[.bool fh] 4) (.cells #[.func (.func g) #[] capf] 93) (.cells #[.string ⟨#[]⟩,.string ⟨#[]⟩] 42) (.cells #[.string ⟨#[]⟩,.string ⟨#[]⟩] 42) (.cells #[.bool false] 4);rw[←hw0];clear hw0 hc0 hCs1 hCs2 hCs3 hCs4 hCs5;have hL0:=HL.out.more hKp0;refine (qM1 none (by decide) x t.St 91 t s s #[] #[.pointer (some ⟨w.heap.size+1,0,none⟩),.pointer (some ⟨w.heap.size,0,none⟩),.pointer (some ⟨w.heap.size+1+1,0,none⟩),.pointer (some ⟨w.heap.size+1+1+1+1,0,none⟩),.pointer (some ⟨w.heap.size+1+1+1+1+1,0,none⟩)] _ ((w.heap.size+1+1+1+1)::(w.heap.size+1+1+1+1+1)::Cb::E.S) (fun W w1=>E.Dev w1∧w1.heap[t.St]?=some (ν 1 s)∧w1.heap[w.heap.size+1+1+1+1]?=some (.cells #[.string (pkv o).k,.string (pkv o).v] 42)∧w1.heap[w.heap.size+1+1+1+1+1]?=some (.cells #[.bool o.isSome] 4)∧w1.heap[Cb]?=some (qA6 x (pkv o).k t.ch)) w0 hL0.hx hL0.over rfl hL0.hSt hL0.po hL0.xS (zJ1 _) (fun i hi=>by
  simp only[List.mem_cons] at hi;rcases hi with h|h|h|h
  ·omega
  ·omega
  ·omega
  ·exact E.low w0 hL0.dev i h) ?_).mono ?_
 ·intro W hK hS;have hd:=hL0.devS hK;have hCb:=hK.heap (hKp0.hp HC.out) (by simp;exact hCSt);have hP:=hK.ho hP0;have hB:=hK.ho hB0;refine (xR8 E (w.heap.size+1) w.heap.size (w.heap.size+1+1) (w.heap.size+1+1+1+1) (w.heap.size+1+1+1+1+1) Cb x g capf fh key since t o W ⟨hK.ho hF0,hK.ho hC0,hK.ho hG0,hP,hB,hCb,hK.heap hL0.hx (by simp;exact hL0.xS),hL0.on,hd,by omega⟩ HK.out HCF.out (fun W' hT=>HFI.out W' hT.dev ((hL0.rr.keepT hK (Apt.one hL0.hSt (by decide))).to hd hT) (((hKp0.mono (S':=t.St::E.S) (by simp)).trans hK (by simp +contextual)).trans hT.kp (by simp +contextual)))).mono ?_;rintro e w2 ⟨rfl,ha,hb,hc,w1,hT1,hK1⟩;have hCb1:=E.stay hd hT1 hCb (by decide);have hS2:w2.heap[t.St]?=some (ν 1 s):=hK1.heap (E.stay hd hT1 hS (by decide)) (by simp;exact⟨by omega,by omega,fun e=>hCSt e.symm⟩);have hoff:OffD w1 [w.heap.size+1+1+1+1,w.heap.size+1+1+1+1+1,Cb]:=(OffD.one (E.stay hd hT1 hP (by decide)) (by decide)).cons ((OffD.one (E.stay hd hT1 hB (by decide)) (by decide)).cons (OffD.one hCb1 (by decide)));exact⟨rfl,⟨E.keepX w1 w2 _ hT1.dev hK1 hoff,hS2,ha,hb,hc⟩,(hT1.kp.mono (S':=t.St::(w.heap.size+1+1+1+1)::(w.heap.size+1+1+1+1+1)::Cb::E.S) (by simp +contextual)).trans hK1 (by intro i hi _;simp at hi ⊢;rcases hi with h | h | h<;>simp[h]),hS2⟩
 rintro e w2 ⟨v,rfl,hv,hSt2,hK2,W,w1,Bb,⟨hd1,hS1,hP1,hB1,hC1⟩,hKW,hb1,hb2,hb3,hKB⟩;have hv':v=.nilIface:=hv;subst hv';have hne1:t.St<w.heap.size:=hSs;have hBb:w.heap.size+6≤Bb:=by omega
 have hPe:=hKB.ho hP1;have hBe:=hKB.ho hB1;have hCe:=hKB.heap hC1 (by simp;exact⟨hCSt,by omega⟩);have hRe:w2.heap[w.heap.size+1+1+1]?=some (.cells #[.string ⟨#[]⟩,.string ⟨#[]⟩] 42):=hK2.heap hR0 (by
  simp only[List.mem_cons,not_or];refine⟨by omega,by omega,by omega,by omega,fun h=>?_⟩;have:=E.low w HL.out.dev _ h;omega)
 have HB:Hid (CurT E w w2 Cb x t s (pkv o).k):=⟨E.keepX w1 w2 _ hd1 hKB (qM8 hS1 hb3),hSt2,hCe,(hKp0.mono (S':=t.St::Cb::E.S) (by simp)).trans hK2 (by intro i hi hlt;simp at hi ⊢;rcases hi with h | h | h | h | h;simp[h];omega;omega;simp[h];simp[h])⟩;have HLD:=zh HL.out.dev;clear hv hSt2 hK2 hd1 hS1 hP1 hB1 hC1 hKW hb3 hKB hL0 hC0 hF0 hG0 hR0 hP0 hB0 hKp0 hC hCe;obtain⟨fk,hfk⟩:∃ fk,(pkv o).k=fk:=⟨_,rfl⟩;obtain⟨fv,hfv⟩:∃ fv,(pkv o).v=fv:=⟨_,rfl⟩;obtain⟨fb,hfb⟩:∃ fb,o.isSome=fb:=⟨_,rfl⟩;rw[hfk,hfv] at hPe;rw[hfb] at hBe;have HFE:Hid ((pkv o).k=fk∧(pkv o).v=fv∧o.isSome=fb):=⟨hfk,hfv,hfb⟩;clear hfk hfv hfb;have HR2:=zh hRe;have hRs:=ζ hRe;have r0:=ξ hRe;have fr0:=ρ hRe;go_wp2_with fail;have hSd:w2.drew.heap[w.heap.size+1+1+1+1]?=some (.cells #[.string fk,.string fv] 42)∧w2.drew.heap[w.heap.size+1+1+1+1+1]?=some (.cells #[.bool fb] 4):=⟨hPe,hBe⟩;refine wp_region_held_drew (S:=fun W=>W.heap[w.heap.size+1+1+1+1]?=some (.cells #[.string fk,.string fv] 42)∧W.heap[w.heap.size+1+1+1+1+1]?=some (.cells #[.bool fb] 4)) (by kernel_rfl) hSd (fun _=>?_);refine zW 0 (.agg #[.string fk,.string fv]) hSd (·.1) ?_;refine zV 1 (.bool fb) rfl (fun W hS=>by have c:=ξ hS.2 0;simp at c;clear hS;go_simp) hSd ?_;refine zU 2 .nilIface hSd ?_;refine zq 3 fun K hK=>?_;go_simp;obtain⟨w3,hw3,hR3,hK3⟩:∃ w3,w3=((w2.setCell ⟨w.heap.size+1+1+1,0,none⟩ (.string fk)).setCell ⟨w.heap.size+1+1+1,1,none⟩ (.string fv)).drew∧w3.heap[w.heap.size+1+1+1]?=some (.cells #[.string fk,.string fv] 42)∧Kp [w.heap.size+1+1+1] w2 w3:=⟨_,rfl,(qB2 (.string fk) (.string fv) HR2.out).1,(qB2 (.string fk) (.string fv) HR2.out).2.drew⟩;rw[←hw3];clear hw3 r0 fr0;have hS3:w3.heap[w.heap.size+1+1+1+1]?=some (.cells #[.string fk,.string fv] 42)∧w3.heap[w.heap.size+1+1+1+1+1]?=some (.cells #[.bool fb] 4):=⟨hK3.heap hPe (by rw[List.mem_singleton];omega),hK3.heap hBe (by rw[List.mem_singleton];omega)⟩;refine hK.out _ _ hS3 (fun _=>?_);clear hK K
 try simp only[zZ]
 refine zq 4 fun K hK=>?_;go_simp;refine hK.out _ _ hS3 (fun _=>?_);clear hK K
 try simp only[zZ]
 refine zq 5 fun K hK=>?_;go_simp;refine hK.out _ _ hS3 (fun _=>?_);clear hK K
 try simp only[zZ]
 refine zd ?_;have HK3:=zh hK3;have t0:=ξ hR3 0;have t1:=ξ hR3 1;simp only[zG,zH,zI] at t0 t1;clear hS3 hSd hR3 hK3 hPe hBe hRe;go_wp2;refine bodyPost_ret (v:=.tuple #[.agg #[.string fk,.string fv],.bool fb,.nilIface]) (by simp[results,results47,go_sem,t0,t1]) rfl ?_;have hB:=HB.out;refine⟨by rw[HFE.out.1,HFE.out.2.1,HFE.out.2.2],E.keepX _ _ _ hB.dev HK3.out (OffD.one HR2.out (by decide)),HK3.out.ho hB.hSt,HK3.out.ho hB.hC,hB.kp.trans HK3.out (by intro i hi hlt;simp at hi;omega)⟩
theorem zK6(E:SEnv)(x A n:Nat)(t:Tx)(s:Sto)(r:Root)(Cb:Nat)(key:ByteArray)(since:Int)(call:ByteArray)(fh:Bool)(g:Nat)(capf:Array Value)(w:World)(hL:LiveT E w x A n t s r)(hC:w.heap[Cb]?=some (qA6 x key since))(hfh:fh=true)(hk:key.toList.isEmpty=true∨since≠t.ch):
  Calls prog 47 #[.pointer (some ⟨Cb,0,none⟩),.string call,.bool fh,.func (.func g) #[] capf] w fun e w'=>∃ v,e=.returned (.tuple #[.agg #[.string ⟨#[]⟩,.string ⟨#[]⟩],.bool false,v])∧ErrV w' v (some 11)∧BadT E w w' t s:=by
 have HL:=zh hL;have HK:=zh hk;have HC:=zh hC;have HFH:=zh hfh;have hxs:=ζ hL.hx;have hSs:=ζ hL.hSt;have hCSt:Cb≠t.St:=ω hC hL.hSt (by decide);clear hL hk hfh;have hmf:=zM;have hCs:=ζ hC;have hCs1:Cb<w.heap.size+1:=by omega
 have hCs2:Cb<w.heap.size+1+1:=by omega
 have hCs3:Cb<w.heap.size+1+1+1:=by omega
 have hCs4:Cb<w.heap.size+1+1+1+1:=by omega
 have hCs5:Cb<w.heap.size+1+1+1+1+1:=by omega
 have hc0:=ξ hC 0;simp only[qA6,zG,zH] at hc0;go_enter func47,ntmps47;go_wp2_with fail;obtain⟨w0,hw0,hC0,hF0,hG0,hR0,hP0,hB0,hKp0,hs0⟩:=zF3 w (.cells #[.pointer (some ⟨Cb,0,none⟩)] 36) (.cells #[.bool fh] 4) (.cells #[.func (.func g) #[] capf] 93) (.cells #[.string ⟨#[]⟩,.string ⟨#[]⟩] 42) (.cells #[.string ⟨#[]⟩,.string ⟨#[]⟩] 42) (.cells #[.bool false] 4);rw[←hw0];clear hw0 hc0 hCs1 hCs2 hCs3 hCs4 hCs5;have hL0:=HL.out.more hKp0;refine (qM1 (some 11) (by decide) x t.St 91 t s s #[] #[.pointer (some ⟨w.heap.size+1,0,none⟩),.pointer (some ⟨w.heap.size,0,none⟩),.pointer (some ⟨w.heap.size+1+1,0,none⟩),.pointer (some ⟨w.heap.size+1+1+1+1,0,none⟩),.pointer (some ⟨w.heap.size+1+1+1+1+1,0,none⟩)] _ [] (fun W w1=>E.Dev w1∧w1.heap[t.St]?=some (ν 1 s)) w0 hL0.hx hL0.over rfl hL0.hSt hL0.po hL0.xS (zJ1 _) (by simp) ?_).mono ?_
 ·intro W hK hS;have hd:=hL0.devS hK;have hCb:=hK.heap (hKp0.hp HC.out) (by simp;exact hCSt);have hF:=hK.ho hF0;rw[HFH.out] at hF;refine (xR9 E (w.heap.size+1) w.heap.size (w.heap.size+1+1) (w.heap.size+1+1+1+1) (w.heap.size+1+1+1+1+1) Cb x g capf key since t W ⟨hF,hK.ho hC0,hK.ho hG0,hK.ho hP0,hK.ho hB0,hCb,hK.heap hL0.hx (by simp;exact hL0.xS),hL0.on,hd,by omega⟩ HK.out).mono ?_;rintro e w1 ⟨rfl,hK1⟩;have hS1:=hK1.hp hS;exact⟨rfl,⟨E.keepX W w1 [] hd hK1 (fun k hk=>by simp at hk),hS1⟩,hK1.mono (by simp),hS1⟩
 rintro e w2 ⟨v,rfl,hv,hSt2,hK2,W,w1,Bb,⟨hd1,hS1⟩,hKW,hb1,hb2,hb3,hKB⟩;have hPe:=hK2.ho hP0;have hBe:=hK2.ho hB0;have hRe:=hK2.ho hR0;have HB:Hid (ErrV w2 v (some 11)∧BadT E w w2 t s):=⟨hv,E.keepX w1 w2 _ hd1 hKB (qM8 hS1 hb3),hSt2,(hKp0.mono (S':=t.St::E.S) (by simp)).trans hK2 (by intro i hi hlt;simp at hi ⊢;simp[hi])⟩;clear hv hSt2 hK2 hd1 hS1 hKW hb3 hKB hL0 hC0 hF0 hG0 hR0 hP0 hB0 hKp0 hC;obtain⟨fk,hfk⟩:∃ fk:ByteArray,⟨#[]⟩=fk:=⟨_,rfl⟩;obtain⟨fv,hfv⟩:∃ fv:ByteArray,⟨#[]⟩=fv:=⟨_,rfl⟩;obtain⟨fb,hfb⟩:∃ fb,false=fb:=⟨_,rfl⟩;have hPe':w2.heap[w.heap.size+1+1+1+1]?=some (.cells #[.string fk,.string fv] 42):=by rw[←hfk,←hfv];exact hPe
 have hBe':w2.heap[w.heap.size+1+1+1+1+1]?=some (.cells #[.bool fb] 4):=by rw[←hfb];exact hBe
 clear hPe hBe;have hPe:=hPe';have hBe:=hBe';have HFE:Hid ((⟨#[]⟩:ByteArray)=fk∧(⟨#[]⟩:ByteArray)=fv∧false=fb):=⟨hfk,hfv,hfb⟩;clear hfk hfv hfb hPe' hBe';have HR2:=zh hRe;have hRs:=ζ hRe;have r0:=ξ hRe;have fr0:=ρ hRe;go_wp2_with fail;have hSd:w2.drew.heap[w.heap.size+1+1+1+1]?=some (.cells #[.string fk,.string fv] 42)∧w2.drew.heap[w.heap.size+1+1+1+1+1]?=some (.cells #[.bool fb] 4):=⟨hPe,hBe⟩;refine wp_region_held_drew (S:=fun W=>W.heap[w.heap.size+1+1+1+1]?=some (.cells #[.string fk,.string fv] 42)∧W.heap[w.heap.size+1+1+1+1+1]?=some (.cells #[.bool fb] 4)) (by kernel_rfl) hSd (fun _=>?_);refine zW 0 (.agg #[.string fk,.string fv]) hSd (·.1) ?_;refine zV 1 (.bool fb) rfl (fun W hS=>by have c:=ξ hS.2 0;simp at c;clear hS;go_simp) hSd ?_;refine zU 2 v hSd ?_;refine zq 3 fun K hK=>?_;go_simp;obtain⟨w3,hw3,hR3,hK3⟩:∃ w3,w3=((w2.setCell ⟨w.heap.size+1+1+1,0,none⟩ (.string fk)).setCell ⟨w.heap.size+1+1+1,1,none⟩ (.string fv)).drew∧w3.heap[w.heap.size+1+1+1]?=some (.cells #[.string fk,.string fv] 42)∧Kp [w.heap.size+1+1+1] w2 w3:=⟨_,rfl,(qB2 (.string fk) (.string fv) HR2.out).1,(qB2 (.string fk) (.string fv) HR2.out).2.drew⟩;rw[←hw3];clear hw3 r0 fr0;have hS3:w3.heap[w.heap.size+1+1+1+1]?=some (.cells #[.string fk,.string fv] 42)∧w3.heap[w.heap.size+1+1+1+1+1]?=some (.cells #[.bool fb] 4):=⟨hK3.heap hPe (by rw[List.mem_singleton];omega),hK3.heap hBe (by rw[List.mem_singleton];omega)⟩;refine hK.out _ _ hS3 (fun _=>?_);clear hK K
 try simp only[zZ]
 refine zq 4 fun K hK=>?_;go_simp;refine hK.out _ _ hS3 (fun _=>?_);clear hK K
 try simp only[zZ]
 refine zq 5 fun K hK=>?_;go_simp;refine hK.out _ _ hS3 (fun _=>?_);clear hK K
 try simp only[zZ]
 refine zd ?_;have HK3:=zh hK3;have t0:=ξ hR3 0;have t1:=ξ hR3 1;simp only[zG,zH,zI] at t0 t1;clear hS3 hSd hR3 hK3 hPe hBe hRe;go_wp2;refine bodyPost_ret (v:=.tuple #[.agg #[.string fk,.string fv],.bool fb,v]) (by simp[results,results47,go_sem,t0,t1]) rfl ?_;obtain⟨hE,hB⟩:=HB.out;refine⟨v,by rw[←HFE.out.1,←HFE.out.2.1,←HFE.out.2.2],hE.keep HK3.out (fun i hi c fr e=>by rw[List.mem_singleton.1 hi,HR2.out] at e;cases e),E.keepX _ _ _ hB.dev HK3.out (OffD.one HR2.out (by decide)),HK3.out.ho hB.hSt,hB.kp.trans HK3.out (by intro i hi hlt;simp at hi;omega)⟩
theorem qS4(x:Nat)(t:Tx)(s:Sto)(Cb:Nat)(key:ByteArray)(since:Int)(call:ByteArray)(fh:Bool)(g:Nat)(capf:Array Value)(w:World)(hx:w.heap[x]?=some (χ t))(ho:t.over=true)(hSt:w.heap[t.St]?=some (ν 0 s))(hpo:s.po=false)(hxS:x≠t.St)(hC:w.heap[Cb]?=some (qA6 x key since)):
  Calls prog 47 #[.pointer (some ⟨Cb,0,none⟩),.string call,.bool fh,.func (.func g) #[] capf] w fun e w'=>∃ v,e=.returned (.tuple #[.agg #[.string ⟨#[]⟩,.string ⟨#[]⟩],.bool false,v])∧ErrV w' v (some 5)∧w'.heap[t.St]?=some (ν 0 s)∧Kp [t.St] w w':=by
 have hxs:=ζ hx;have hSs:=ζ hSt;have HXS:=zh hxS;clear hxS;have hmf:=zM;have hCs:=ζ hC;have hCs1:Cb<w.heap.size+1:=by omega
 have hCs2:Cb<w.heap.size+1+1:=by omega
 have hCs3:Cb<w.heap.size+1+1+1:=by omega
 have hCs4:Cb<w.heap.size+1+1+1+1:=by omega
 have hCs5:Cb<w.heap.size+1+1+1+1+1:=by omega
 have hc0:=ξ hC 0;simp only[qA6,zG,zH] at hc0;go_enter func47,ntmps47;go_wp2_with fail;obtain⟨w0,hw0,hC0,hF0,hG0,hR0,hP0,hB0,hKp0,hs0⟩:=zF3 w (.cells #[.pointer (some ⟨Cb,0,none⟩)] 36) (.cells #[.bool fh] 4) (.cells #[.func (.func g) #[] capf] 93) (.cells #[.string ⟨#[]⟩,.string ⟨#[]⟩] 42) (.cells #[.string ⟨#[]⟩,.string ⟨#[]⟩] 42) (.cells #[.bool false] 4);rw[←hw0];clear hw0 hc0 hCs1 hCs2 hCs3 hCs4 hCs5;refine (qT1 x t.St 91 t s #[] _ _ w0 (hKp0.hp hx) ho rfl (hKp0.hp hSt) hpo HXS.out).mono ?_;rintro e w2 ⟨v,rfl,hv,hSt2,hK2⟩;have hPe:=hK2.ho hP0;have hBe:=hK2.ho hB0;have hRe:=hK2.ho hR0;have HB:Hid (ErrV w2 v (some 5)∧w2.heap[t.St]?=some (ν 0 s)∧Kp [t.St] w w2):=⟨hv,hSt2,(hKp0.mono (by simp)).trans hK2 (fun _ h _=>h)⟩;clear hv hSt2 hK2 hC0 hF0 hG0 hR0 hP0 hB0 hKp0 hC;obtain⟨fk,hfk⟩:∃ fk:ByteArray,⟨#[]⟩=fk:=⟨_,rfl⟩;obtain⟨fv,hfv⟩:∃ fv:ByteArray,⟨#[]⟩=fv:=⟨_,rfl⟩;obtain⟨fb,hfb⟩:∃ fb,false=fb:=⟨_,rfl⟩;have hPe':w2.heap[w.heap.size+1+1+1+1]?=some (.cells #[.string fk,.string fv] 42):=by rw[←hfk,←hfv];exact hPe
 have hBe':w2.heap[w.heap.size+1+1+1+1+1]?=some (.cells #[.bool fb] 4):=by rw[←hfb];exact hBe
 clear hPe hBe;have hPe:=hPe';have hBe:=hBe';have HFE:Hid ((⟨#[]⟩:ByteArray)=fk∧(⟨#[]⟩:ByteArray)=fv∧false=fb):=⟨hfk,hfv,hfb⟩;clear hfk hfv hfb hPe' hBe';have HR2:=zh hRe;have hRs:=ζ hRe;have r0:=ξ hRe;have fr0:=ρ hRe;go_wp2_with fail;have hSd:w2.drew.heap[w.heap.size+1+1+1+1]?=some (.cells #[.string fk,.string fv] 42)∧w2.drew.heap[w.heap.size+1+1+1+1+1]?=some (.cells #[.bool fb] 4):=⟨hPe,hBe⟩;refine wp_region_held_drew (S:=fun W=>W.heap[w.heap.size+1+1+1+1]?=some (.cells #[.string fk,.string fv] 42)∧W.heap[w.heap.size+1+1+1+1+1]?=some (.cells #[.bool fb] 4)) (by kernel_rfl) hSd (fun _=>?_);refine zW 0 (.agg #[.string fk,.string fv]) hSd (·.1) ?_;refine zV 1 (.bool fb) rfl (fun W hS=>by have c:=ξ hS.2 0;simp at c;clear hS;go_simp) hSd ?_;refine zU 2 v hSd ?_;refine zq 3 fun K hK=>?_;go_simp;obtain⟨w3,hw3,hR3,hK3⟩:∃ w3,w3=((w2.setCell ⟨w.heap.size+1+1+1,0,none⟩ (.string fk)).setCell ⟨w.heap.size+1+1+1,1,none⟩ (.string fv)).drew∧w3.heap[w.heap.size+1+1+1]?=some (.cells #[.string fk,.string fv] 42)∧Kp [w.heap.size+1+1+1] w2 w3:=⟨_,rfl,(qB2 (.string fk) (.string fv) HR2.out).1,(qB2 (.string fk) (.string fv) HR2.out).2.drew⟩;rw[←hw3];clear hw3 r0 fr0;have hS3:w3.heap[w.heap.size+1+1+1+1]?=some (.cells #[.string fk,.string fv] 42)∧w3.heap[w.heap.size+1+1+1+1+1]?=some (.cells #[.bool fb] 4):=⟨hK3.heap hPe (by rw[List.mem_singleton];omega),hK3.heap hBe (by rw[List.mem_singleton];omega)⟩;refine hK.out _ _ hS3 (fun _=>?_);clear hK K
 try simp only[zZ]
 refine zq 4 fun K hK=>?_;go_simp;refine hK.out _ _ hS3 (fun _=>?_);clear hK K
 try simp only[zZ]
 refine zq 5 fun K hK=>?_;go_simp;refine hK.out _ _ hS3 (fun _=>?_);clear hK K
 try simp only[zZ]
 refine zd ?_;have HK3:=zh hK3;have t0:=ξ hR3 0;have t1:=ξ hR3 1;simp only[zG,zH,zI] at t0 t1;clear hS3 hSd hR3 hK3 hPe hBe hRe;go_wp2;refine bodyPost_ret (v:=.tuple #[.agg #[.string fk,.string fv],.bool fb,v]) (by simp[results,results47,go_sem,t0,t1]) rfl ?_;obtain⟨hE,hB1,hB2⟩:=HB.out;refine⟨v,by rw[←HFE.out.1,←HFE.out.2.1,←HFE.out.2.2],hE.keep HK3.out (fun i hi c fr e=>by rw[List.mem_singleton.1 hi,HR2.out] at e;cases e),HK3.out.ho hB1,hB2.trans HK3.out (by intro i hi hlt;simp at hi;omega)⟩
theorem jH3:Up fun _=>true:=fun _ _ _ _=>rfl
theorem xG1:qN5 fun _=>true:=fun _ _ _ _=>rfl
theorem xG2(k:ByteArray):qN5 fun a=>kl a k:=fun a b h hb=>qK3 h hb
theorem zV3(k:ByteArray)(w:World):Calls prog 50 (#[.string k]++#[]) w fun e w'=>e=.returned (.bool true)∧Kp [] w w':=by
 simp only[List.append_toArray,List.cons_append,List.nil_append];go_enter func50,ntmps50;go_wp2;go_ret;exact⟨rfl,Kp.refl _ _⟩
theorem zV5(k:ByteArray)(w:World):Calls prog 56 (#[.string k]++#[]) w fun e w'=>e=.returned (.bool true)∧Kp [] w w':=by
 simp only[List.append_toArray,List.cons_append,List.nil_append];go_enter func56,ntmps56;go_wp2;go_ret;exact⟨rfl,Kp.refl _ _⟩
theorem zW1(Kb:Nat)(key k:ByteArray)(w:World)(hK:w.heap[Kb]?=some (.cells #[.string key] 9)):Calls prog 60 (#[.string k]++#[.pointer (some ⟨Kb,0,none⟩)]) w fun e w'=>e=.returned (.bool !kl k key)∧Kp [] w w':=by
 have hs:=ζ hK;have k0:=ξ hK 0;simp only[zG,zH,zI] at k0;simp only[List.append_toArray,List.cons_append,List.nil_append];go_enter func60,ntmps60;go_wp2;go_ret;exact⟨by simp[kl],Kp.refl _ _⟩
theorem zV7(Cc Cb x:Nat)(key k:ByteArray)(since:Int)(w:World)(hC:w.heap[Cc]?=some (.cells #[.pointer (some ⟨Cb,0,none⟩)] 36))(hB:w.heap[Cb]?=some (qA6 x key since)):Calls prog 52 (#[.string k]++#[.pointer (some ⟨Cc,0,none⟩)]) w fun e w'=>e=.returned (.bool (kl key k))∧Kp [] w w':=by
 have hs:=ζ hC;have hs2:=ζ hB;have c0:=ξ hC 0;simp only[zG,zH,zI] at c0;have b1:=ξ hB 1;simp only[qA6,zG,zH,zI] at b1;simp only[List.append_toArray,List.cons_append,List.nil_append];go_enter func52,ntmps52;go_wp2;go_ret;exact⟨by rw[←zN9];rfl,Kp.refl _ _⟩
theorem zV9(Cc Cb x:Nat)(key k:ByteArray)(since:Int)(w:World)(hC:w.heap[Cc]?=some (.cells #[.pointer (some ⟨Cb,0,none⟩)] 36))(hB:w.heap[Cb]?=some (qA6 x key since)):Calls prog 58 (#[.string k]++#[.pointer (some ⟨Cc,0,none⟩)]) w fun e w'=>e=.returned (.bool (kl k key))∧Kp [] w w':=by
 have hs:=ζ hC;have hs2:=ζ hB;have c0:=ξ hC 0;simp only[zG,zH,zI] at c0;have b1:=ξ hB 1;simp only[qA6,zG,zH,zI] at b1;simp only[List.append_toArray,List.cons_append,List.nil_append];go_enter func58,ntmps58;go_wp2;go_ret;exact⟨by simp[kl],Kp.refl _ _⟩
theorem zV4(E:SEnv)(r:Root)(h:HL)(w:World)(hd:E.Dev w)(hr:RR E.toEnv w h r)(hg:RGood r):Calls prog 48 (#[υ E.V h]++#[]) w fun e w'=>e=.returned (qB0 (r.cont.find? fun _=>true))∧E.toEnv.To w w':=by
 have hmf:=zM;have HD:=zh hd;have HR:=zh hr;have HG:=zh hg;obtain⟨fk,fv,fb,hfv⟩:∃ fk fv fb,qB0 (r.cont.find? fun _=>true)=.tuple #[.agg #[.string fk,.string fv],.bool fb]:=by
  cases r.cont.find? fun _=>true with
  | none=>exact⟨_,_,_,rfl⟩
  | some p=>exact⟨_,_,_,rfl⟩
 have HFV:=zh hfv;clear hd hr hg hfv;rw[υ];simp only[List.append_toArray,List.cons_append,List.nil_append];go_enter func48,ntmps48;go_wp2_with fail;obtain⟨w0,hw0,hT0,hP0,hK0,hs0⟩:∃ w0,w0=(w.alloc (.cells #[.pointer (some ⟨E.V,0,none⟩),.string h.key,.int .i64 h.b,.int .u64 h.s,.pointer h.ptr] 89)).alloc (.cells #[.string ⟨#[]⟩,.string ⟨#[]⟩] 42)∧w0.heap[w.heap.size]?=some (.cells #[.pointer (some ⟨E.V,0,none⟩),.string h.key,.int .i64 h.b,.int .u64 h.s,.pointer h.ptr] 89)∧w0.heap[w.heap.size+1]?=some (.cells #[.string ⟨#[]⟩,.string ⟨#[]⟩] 42)∧Kp [] w w0∧w0.heap.size=w.heap.size+2:=by
  refine⟨_,rfl,η _ (κ _ _),?_,((Kp.refl _ _).alloc _).alloc _,by simp⟩;have e:=κ (w.alloc (.cells #[.pointer (some ⟨E.V,0,none⟩),.string h.key,.int .i64 h.b,.int .u64 h.s,.pointer h.ptr] 89)) (.cells #[.string ⟨#[]⟩,.string ⟨#[]⟩] 42);simpa using e
 rw[←hw0];clear hw0 hT0;have hTo0:=Env.To.of0 HD.out hK0;refine (qY8 E.toEnv r h 50 #[] (fun _=>true) w0 hTo0.dev (HR.out.keepT hK0 (Apt.nil _ _)) HG.out jH3 (fun W k _=>zV3 k W) (fun args W=>by simp[go_sem,func50])).mono ?_;rintro e w1 ⟨rfl,hT1⟩;rw[HFV.out];have hT1':=hTo0.trans hT1;have hP1:=hT1.new (k:=w.heap.size+1) HD.out (by omega) hP0;have hP1s:=ζ hP1;have z0:=ξ hP1;have fz0:=ρ hP1;have HP1:=zh hP1;have HT1:=zh hT1';clear hT1 hT1' hTo0 hP1 hP0 hK0;go_wp2;have hts:=qB2 (.string fk) (.string fv) HP1.out;have hT2:=SEnv.storeX HT1.out (by omega) (fun c t fr e=>by rw[HP1.out] at e;cases e;decide) hts.2;have t0:=ξ hts.1 0;have t1:=ξ hts.1 1;simp only[zG,zH,zI] at t0 t1;refine bodyPost_ret (v:=.tuple #[.agg #[.string fk,.string fv],.bool fb]) (by simp[results,results48,go_sem,t0,t1]) rfl ⟨by rw[HFV.out],hT2⟩
theorem zV6(E:SEnv)(r:Root)(h:HL)(w:World)(hd:E.Dev w)(hr:RR E.toEnv w h r)(hg:RGood r):Calls prog 54 (#[υ E.V h]++#[]) w fun e w'=>e=.returned (qB0 (qA9 (fun _=>true) r.cont))∧E.toEnv.To w w':=by
 have hmf:=zM;have HD:=zh hd;have HR:=zh hr;have HG:=zh hg;obtain⟨fk,fv,fb,hfv⟩:∃ fk fv fb,qB0 (qA9 (fun _=>true) r.cont)=.tuple #[.agg #[.string fk,.string fv],.bool fb]:=by
  cases qA9 (fun _=>true) r.cont with
  | none=>exact⟨_,_,_,rfl⟩
  | some p=>exact⟨_,_,_,rfl⟩
 have HFV:=zh hfv;clear hd hr hg hfv;rw[υ];simp only[List.append_toArray,List.cons_append,List.nil_append];go_enter func54,ntmps54;go_wp2_with fail;obtain⟨w0,hw0,hT0,hP0,hK0,hs0⟩:∃ w0,w0=(w.alloc (.cells #[.pointer (some ⟨E.V,0,none⟩),.string h.key,.int .i64 h.b,.int .u64 h.s,.pointer h.ptr] 89)).alloc (.cells #[.string ⟨#[]⟩,.string ⟨#[]⟩] 42)∧w0.heap[w.heap.size]?=some (.cells #[.pointer (some ⟨E.V,0,none⟩),.string h.key,.int .i64 h.b,.int .u64 h.s,.pointer h.ptr] 89)∧w0.heap[w.heap.size+1]?=some (.cells #[.string ⟨#[]⟩,.string ⟨#[]⟩] 42)∧Kp [] w w0∧w0.heap.size=w.heap.size+2:=by
  refine⟨_,rfl,η _ (κ _ _),?_,((Kp.refl _ _).alloc _).alloc _,by simp⟩;have e:=κ (w.alloc (.cells #[.pointer (some ⟨E.V,0,none⟩),.string h.key,.int .i64 h.b,.int .u64 h.s,.pointer h.ptr] 89)) (.cells #[.string ⟨#[]⟩,.string ⟨#[]⟩] 42);simpa using e
 rw[←hw0];clear hw0 hT0;have hTo0:=Env.To.of0 HD.out hK0;refine (zT7 E r h 56 #[] (fun _=>true) w0 hTo0.dev (HR.out.keepT hK0 (Apt.nil _ _)) HG.out xG1 (fun W k _=>zV5 k W) (fun args W=>by simp[go_sem,func56])).mono ?_;rintro e w1 ⟨rfl,hT1⟩;rw[HFV.out];have hT1':=hTo0.trans hT1;have hP1:=hT1.new (k:=w.heap.size+1) HD.out (by omega) hP0;have hP1s:=ζ hP1;have z0:=ξ hP1;have fz0:=ρ hP1;have HP1:=zh hP1;have HT1:=zh hT1';clear hT1 hT1' hTo0 hP1 hP0 hK0;go_wp2;have hts:=qB2 (.string fk) (.string fv) HP1.out;have hT2:=SEnv.storeX HT1.out (by omega) (fun c t fr e=>by rw[HP1.out] at e;cases e;decide) hts.2;have t0:=ξ hts.1 0;have t1:=ξ hts.1 1;simp only[zG,zH,zI] at t0 t1;refine bodyPost_ret (v:=.tuple #[.agg #[.string fk,.string fv],.bool fb]) (by simp[results,results54,go_sem,t0,t1]) rfl ⟨by rw[HFV.out],hT2⟩
theorem zW2(E:SEnv)(r:Root)(h:HL)(Kb:Nat)(key:ByteArray)(w:World)(hK:w.heap[Kb]?=some (.cells #[.string key] 9))(hd:E.Dev w)(hr:RR E.toEnv w h r)(hg:RGood r):Calls prog 59 (#[υ E.V h]++#[.pointer (some ⟨Kb,0,none⟩)]) w fun e w'=>e=.returned (qB0 (r.cont.find? fun q=>!kl q.k key))∧E.toEnv.To w w':=by
 have HK:=zh hK;clear hK;have hmf:=zM;have HD:=zh hd;have HR:=zh hr;have HG:=zh hg;obtain⟨fk,fv,fb,hfv⟩:∃ fk fv fb,qB0 (r.cont.find? fun q=>!kl q.k key)=.tuple #[.agg #[.string fk,.string fv],.bool fb]:=by
  cases r.cont.find? fun q=>!kl q.k key with
  | none=>exact⟨_,_,_,rfl⟩
  | some p=>exact⟨_,_,_,rfl⟩
 have HFV:=zh hfv;clear hd hr hg hfv;rw[υ];simp only[List.append_toArray,List.cons_append,List.nil_append];go_enter func59,ntmps59;go_wp2_with fail;obtain⟨w0,hw0,hT0,hP0,hK0,hs0⟩:∃ w0,w0=(w.alloc (.cells #[.pointer (some ⟨E.V,0,none⟩),.string h.key,.int .i64 h.b,.int .u64 h.s,.pointer h.ptr] 89)).alloc (.cells #[.string ⟨#[]⟩,.string ⟨#[]⟩] 42)∧w0.heap[w.heap.size]?=some (.cells #[.pointer (some ⟨E.V,0,none⟩),.string h.key,.int .i64 h.b,.int .u64 h.s,.pointer h.ptr] 89)∧w0.heap[w.heap.size+1]?=some (.cells #[.string ⟨#[]⟩,.string ⟨#[]⟩] 42)∧Kp [] w w0∧w0.heap.size=w.heap.size+2:=by
  refine⟨_,rfl,η _ (κ _ _),?_,((Kp.refl _ _).alloc _).alloc _,by simp⟩;have e:=κ (w.alloc (.cells #[.pointer (some ⟨E.V,0,none⟩),.string h.key,.int .i64 h.b,.int .u64 h.s,.pointer h.ptr] 89)) (.cells #[.string ⟨#[]⟩,.string ⟨#[]⟩] 42);simpa using e
 rw[←hw0];clear hw0 hT0;have hTo0:=Env.To.of0 HD.out hK0;refine (qY8 E.toEnv r h 60 #[.pointer (some ⟨Kb,0,none⟩)] (fun k=>!kl k key) w0 hTo0.dev (HR.out.keepT hK0 (Apt.nil _ _)) HG.out (zU2 key) (fun W k hT=>zW1 Kb key k W (E.stay hTo0.dev hT (hK0.hp HK.out) (by decide))) (fun args W=>by simp[go_sem,func60])).mono ?_;rintro e w1 ⟨rfl,hT1⟩;rw[HFV.out];have hT1':=hTo0.trans hT1;have hP1:=hT1.new (k:=w.heap.size+1) HD.out (by omega) hP0;have hP1s:=ζ hP1;have z0:=ξ hP1;have fz0:=ρ hP1;have HP1:=zh hP1;have HT1:=zh hT1';clear hT1 hT1' hTo0 hP1 hP0 hK0;go_wp2;have hts:=qB2 (.string fk) (.string fv) HP1.out;have hT2:=SEnv.storeX HT1.out (by omega) (fun c t fr e=>by rw[HP1.out] at e;cases e;decide) hts.2;have t0:=ξ hts.1 0;have t1:=ξ hts.1 1;simp only[zG,zH,zI] at t0 t1;refine bodyPost_ret (v:=.tuple #[.agg #[.string fk,.string fv],.bool fb]) (by simp[results,results59,go_sem,t0,t1]) rfl ⟨by rw[HFV.out],hT2⟩
theorem zV8(E:SEnv)(r:Root)(h:HL)(Cc Cb x:Nat)(key:ByteArray)(since:Int)(w:World)(hC:w.heap[Cc]?=some (.cells #[.pointer (some ⟨Cb,0,none⟩)] 36))(hB:w.heap[Cb]?=some (qA6 x key since))(hd:E.Dev w)(hr:RR E.toEnv w h r)(hg:RGood r):Calls prog 51 (#[υ E.V h]++#[.pointer (some ⟨Cc,0,none⟩)]) w fun e w'=>e=.returned (qB0 (r.cont.find? fun q=>kl key q.k))∧E.toEnv.To w w':=by
 have HC:Hid (w.heap[Cc]?=some (.cells #[.pointer (some ⟨Cb,0,none⟩)] 36)∧w.heap[Cb]?=some (qA6 x key since)):=⟨hC,hB⟩;clear hC hB;have hmf:=zM;have HD:=zh hd;have HR:=zh hr;have HG:=zh hg;obtain⟨fk,fv,fb,hfv⟩:∃ fk fv fb,qB0 (r.cont.find? fun q=>kl key q.k)=.tuple #[.agg #[.string fk,.string fv],.bool fb]:=by
  cases r.cont.find? fun q=>kl key q.k with
  | none=>exact⟨_,_,_,rfl⟩
  | some p=>exact⟨_,_,_,rfl⟩
 have HFV:=zh hfv;clear hd hr hg hfv;rw[υ];simp only[List.append_toArray,List.cons_append,List.nil_append];go_enter func51,ntmps51;go_wp2_with fail;obtain⟨w0,hw0,hT0,hP0,hK0,hs0⟩:∃ w0,w0=(w.alloc (.cells #[.pointer (some ⟨E.V,0,none⟩),.string h.key,.int .i64 h.b,.int .u64 h.s,.pointer h.ptr] 89)).alloc (.cells #[.string ⟨#[]⟩,.string ⟨#[]⟩] 42)∧w0.heap[w.heap.size]?=some (.cells #[.pointer (some ⟨E.V,0,none⟩),.string h.key,.int .i64 h.b,.int .u64 h.s,.pointer h.ptr] 89)∧w0.heap[w.heap.size+1]?=some (.cells #[.string ⟨#[]⟩,.string ⟨#[]⟩] 42)∧Kp [] w w0∧w0.heap.size=w.heap.size+2:=by
  refine⟨_,rfl,η _ (κ _ _),?_,((Kp.refl _ _).alloc _).alloc _,by simp⟩;have e:=κ (w.alloc (.cells #[.pointer (some ⟨E.V,0,none⟩),.string h.key,.int .i64 h.b,.int .u64 h.s,.pointer h.ptr] 89)) (.cells #[.string ⟨#[]⟩,.string ⟨#[]⟩] 42);simpa using e
 rw[←hw0];clear hw0 hT0;have hTo0:=Env.To.of0 HD.out hK0;refine (qY8 E.toEnv r h 52 #[.pointer (some ⟨Cc,0,none⟩)] (fun k=>kl key k) w0 hTo0.dev (HR.out.keepT hK0 (Apt.nil _ _)) HG.out (zU3 key) (fun W k hT=>zV7 Cc Cb x key k since W (E.stay hTo0.dev hT (hK0.hp HC.out.1) (by decide)) (E.stay hTo0.dev hT (hK0.hp HC.out.2) (by decide))) (fun args W=>by simp[go_sem,func52])).mono ?_;rintro e w1 ⟨rfl,hT1⟩;rw[HFV.out];have hT1':=hTo0.trans hT1;have hP1:=hT1.new (k:=w.heap.size+1) HD.out (by omega) hP0;have hP1s:=ζ hP1;have z0:=ξ hP1;have fz0:=ρ hP1;have HP1:=zh hP1;have HT1:=zh hT1';clear hT1 hT1' hTo0 hP1 hP0 hK0;go_wp2;have hts:=qB2 (.string fk) (.string fv) HP1.out;have hT2:=SEnv.storeX HT1.out (by omega) (fun c t fr e=>by rw[HP1.out] at e;cases e;decide) hts.2;have t0:=ξ hts.1 0;have t1:=ξ hts.1 1;simp only[zG,zH,zI] at t0 t1;refine bodyPost_ret (v:=.tuple #[.agg #[.string fk,.string fv],.bool fb]) (by simp[results,results51,go_sem,t0,t1]) rfl ⟨by rw[HFV.out],hT2⟩
theorem zW0(E:SEnv)(r:Root)(h:HL)(Cc Cb x:Nat)(key:ByteArray)(since:Int)(w:World)(hC:w.heap[Cc]?=some (.cells #[.pointer (some ⟨Cb,0,none⟩)] 36))(hB:w.heap[Cb]?=some (qA6 x key since))(hd:E.Dev w)(hr:RR E.toEnv w h r)(hg:RGood r):Calls prog 57 (#[υ E.V h]++#[.pointer (some ⟨Cc,0,none⟩)]) w fun e w'=>e=.returned (qB0 (qA9 (fun k=>kl k key) r.cont))∧E.toEnv.To w w':=by
 have HC:Hid (w.heap[Cc]?=some (.cells #[.pointer (some ⟨Cb,0,none⟩)] 36)∧w.heap[Cb]?=some (qA6 x key since)):=⟨hC,hB⟩;clear hC hB;have hmf:=zM;have HD:=zh hd;have HR:=zh hr;have HG:=zh hg;obtain⟨fk,fv,fb,hfv⟩:∃ fk fv fb,qB0 (qA9 (fun k=>kl k key) r.cont)=.tuple #[.agg #[.string fk,.string fv],.bool fb]:=by
  cases qA9 (fun k=>kl k key) r.cont with
  | none=>exact⟨_,_,_,rfl⟩
  | some p=>exact⟨_,_,_,rfl⟩
 have HFV:=zh hfv;clear hd hr hg hfv;rw[υ];simp only[List.append_toArray,List.cons_append,List.nil_append];go_enter func57,ntmps57;go_wp2_with fail;obtain⟨w0,hw0,hT0,hP0,hK0,hs0⟩:∃ w0,w0=(w.alloc (.cells #[.pointer (some ⟨E.V,0,none⟩),.string h.key,.int .i64 h.b,.int .u64 h.s,.pointer h.ptr] 89)).alloc (.cells #[.string ⟨#[]⟩,.string ⟨#[]⟩] 42)∧w0.heap[w.heap.size]?=some (.cells #[.pointer (some ⟨E.V,0,none⟩),.string h.key,.int .i64 h.b,.int .u64 h.s,.pointer h.ptr] 89)∧w0.heap[w.heap.size+1]?=some (.cells #[.string ⟨#[]⟩,.string ⟨#[]⟩] 42)∧Kp [] w w0∧w0.heap.size=w.heap.size+2:=by
  refine⟨_,rfl,η _ (κ _ _),?_,((Kp.refl _ _).alloc _).alloc _,by simp⟩;have e:=κ (w.alloc (.cells #[.pointer (some ⟨E.V,0,none⟩),.string h.key,.int .i64 h.b,.int .u64 h.s,.pointer h.ptr] 89)) (.cells #[.string ⟨#[]⟩,.string ⟨#[]⟩] 42);simpa using e
 rw[←hw0];clear hw0 hT0;have hTo0:=Env.To.of0 HD.out hK0;refine (zT7 E r h 58 #[.pointer (some ⟨Cc,0,none⟩)] (fun k=>kl k key) w0 hTo0.dev (HR.out.keepT hK0 (Apt.nil _ _)) HG.out (xG2 key) (fun W k hT=>zV9 Cc Cb x key k since W (E.stay hTo0.dev hT (hK0.hp HC.out.1) (by decide)) (E.stay hTo0.dev hT (hK0.hp HC.out.2) (by decide))) (fun args W=>by simp[go_sem,func58])).mono ?_;rintro e w1 ⟨rfl,hT1⟩;rw[HFV.out];have hT1':=hTo0.trans hT1;have hP1:=hT1.new (k:=w.heap.size+1) HD.out (by omega) hP0;have hP1s:=ζ hP1;have z0:=ξ hP1;have fz0:=ρ hP1;have HP1:=zh hP1;have HT1:=zh hT1';clear hT1 hT1' hTo0 hP1 hP0 hK0;go_wp2;have hts:=qB2 (.string fk) (.string fv) HP1.out;have hT2:=SEnv.storeX HT1.out (by omega) (fun c t fr e=>by rw[HP1.out] at e;cases e;decide) hts.2;have t0:=ξ hts.1 0;have t1:=ξ hts.1 1;simp only[zG,zH,zI] at t0 t1;refine bodyPost_ret (v:=.tuple #[.agg #[.string fk,.string fv],.bool fb]) (by simp[results,results57,go_sem,t0,t1]) rfl ⟨by rw[HFV.out],hT2⟩
end Go.Proofs.YtdohpenfkdckiaaGreatDoor
