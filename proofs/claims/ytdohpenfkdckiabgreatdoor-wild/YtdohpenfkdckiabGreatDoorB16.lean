import Derived.Test.YtdohpenfkdckiabGreatDoorB15
set_option linter.all false
set_option maxRecDepth 100000
set_option maxHeartbeats 20000000
namespace Go.Proofs.YtdohpenfkdckiabGreatDoor
open Go.Proofs.Tryz
open Go.RowKit
def qO6:(n:Nat)→Nat→Tn n→List (Nat × List KV)
 | 0,b,t=>[(b,prs t)]
 | n+1,_,t=>(η t).flatMap (fun m=>match m.ref with | some x=>qO6 n x.1 m.sub | none=>[])
theorem zC7{N:Nat}{l:List UInt8}{n b:Nat}{s:Int}{t:Tn (n+1)}(h:Laid N l (n+1) b s t):∀ m∈η t,∃ x,m.ref=some x∧Laid N l n x.1 x.2 m.sub:=by
 obtain⟨_,_,_,hs,hb,_⟩:=h;intro m hm;obtain⟨i,hi,rfl⟩:=List.getElem_of_mem hm;have hr:=(hb.2 i (by rw[hb.1];exact hi) hi).2
 cases hx:(η t)[i].ref with
 | none=>rw[hx] at hr;obtain⟨_,_,q,_,hf⟩:=hr;exact hf.elim
 | some x=>rw[hx] at hr;exact⟨x,rfl,hr.2.2.2⟩
theorem xY0{α β:Type}{l:List α}{f g:α→List β}(h:∀ a∈l,f a=g a):l.flatMap f=l.flatMap g:=by rw[List.flatMap_def,List.flatMap_def,List.map_congr_left h]
theorem zX9{N:Nat}{l:List UInt8}:∀ (n b:Nat) (s:Int) (t:Tn n),Laid N l n b s t→(qO6 n b t).flatMap Prod.snd=cont n t
 | 0,b,s,t,h=>by
  show prs t++[]=prs t;rw[List.append_nil]
 | n+1,b,s,t,h=>by
  have hd:=zC7 h;show ((η t).flatMap _).flatMap Prod.snd=(η t).flatMap fun m=>cont n m.sub;rw[List.flatMap_assoc];refine xY0 fun m hm=>?_;obtain⟨x,hx,hl⟩:=hd m hm;rw[hx];exact zX9 n x.1 x.2 m.sub hl
theorem zX8{N:Nat}{l:List UInt8}:∀ (n b:Nat) (s:Int) (t:Tn n),Laid N l n b s t→∀ y∈qO6 n b t,y.1<N∧ι l y.1=toB (qA1 0 y.2 [])∧(∀ p∈y.2,qC3 p)∧2+meas ν y.2≤128
 | 0,b,s,t,h,y,hy=>by
  obtain⟨h1,h2,h3,h4,h5,h6,h7⟩:=h;rw[List.mem_singleton.1 hy];exact⟨h2,h4,h5,h6⟩
 | n+1,b,s,t,h,y,hy=>by
  obtain⟨m,hm,hy⟩:=List.mem_flatMap.1 hy;obtain⟨x,hx,hl⟩:=zC7 h m hm;rw[hx] at hy;exact zX8 n x.1 x.2 m.sub hl y hy
theorem zY0{N:Nat}{l:List UInt8}:∀ (n b:Nat) (s:Int) (t:Tn n) (lo:ByteArray),Laid N l n b s t→Good n lo t→1≤cnt n t→∀ y∈qO6 n b t,y.2≠[]
 | 0,b,s,t,lo,h,hg,hc,y,hy=>by
  rw[List.mem_singleton.1 hy];intro e;have:(prs t).length=0:=by rw[show prs t=[] from e];rfl
  have hc':1≤(prs t).length:=hc;omega
 | n+1,b,s,t,lo,h,hg,hc,y,hy=>by
  obtain⟨m,hm,hy⟩:=List.mem_flatMap.1 hy;obtain⟨x,hx,hl⟩:=zC7 h m hm;rw[hx] at hy;have ha:=hg.all m hm;exact zY0 n x.1 x.2 m.sub m.key hl ha.1 (by omega) y hy
theorem xA1{N:Nat}{l:List UInt8}:∀ (n b:Nat) (s:Int) (t:Tn n) (lo:ByteArray),Laid N l n b s t→Good n lo t→min n 1<cnt n t→qB1 n t+1≤2*(qO6 n b t).length
 | 0,b,s,t,lo,h,hg,hc=>by simp[qB1,qO6]
 | n+1,b,s,t,lo,h,hg,hc=>by
  have hd:=zC7 h;have hall:∀ m∈η t,3≤cnt n m.sub∧Good n m.key m.sub:=fun m hm=>⟨(hg.all m hm).2.1,(hg.all m hm).1⟩;have hc':1<(η t).length:=by
   have h1:min (n+1) 1=1:=by omega
   rw[h1] at hc;exact hc
  have key:∀ ls:List (Lnk (Tn n)),(∀ m∈ls,∃ x,m.ref=some x∧Laid N l n x.1 x.2 m.sub)→(∀ m∈ls,3≤cnt n m.sub∧Good n m.key m.sub)→meas (fun m:Lnk (Tn n)=>qB1 n m.sub) ls+ls.length≤2*(ls.flatMap (fun m=>match m.ref with | some x=>qO6 n x.1 m.sub | none=>[])).length:=by
   intro ls
   induction ls with
   | nil=>intro _ _;simp[qC9]
   | cons a ls ih=>
    intro h1 h2;have i1:=ih (fun m hm=>h1 m (by simp[hm])) (fun m hm=>h2 m (by simp[hm]));obtain⟨x,hx,hl⟩:=h1 a (by simp);obtain⟨g1,g2⟩:=h2 a (by simp);have i2:=xA1 n x.1 x.2 a.sub a.key hl g2 (by omega);rw[qE0,List.length_cons,List.flatMap_cons,List.length_append,hx];simp only;omega
  have h1:=key (η t) hd hall;show 1+meas (fun m:Lnk (Tn n)=>qB1 n m.sub) (η t)+1≤2*((η t).flatMap _).length;omega
theorem xV8{a:List Nat}{N:Nat}(h:a.Nodup)(hl:∀ x∈a,x<N):a.length≤N:=by
 have h1:=zB4 a (List.range N) h;have h2:a.filter (fun k=>decide (k ∉ List.range N))=[]:=by
  rw[List.filter_eq_nil_iff];intro x hx;have:=hl x hx;simp[List.mem_range,this]
 rw[h2,List.length_range] at h1;simpa using h1
theorem jJ1(ys:List (Nat × List KV))(h:∀ y∈ys,y.2.length≤63):(ys.flatMap Prod.snd).length≤ys.length*63:=by
 induction ys with
 | nil=>simp
 | cons a ys ih=>
  have:=ih (fun y hy=>h y (by simp[hy]));have:=h a (by simp);rw[List.flatMap_cons,List.length_append,List.length_cons,Nat.add_mul];omega
theorem zJ3(ps:List KV)(h:∀ p∈ps,qC3 p):2*ps.length≤meas ν ps:=by
 induction ps with
 | nil=>simp
 | cons a ps ih=>
  have:=ih (fun p hp=>h p (by simp[hp]));have h1:=(h a (by simp)).1;have h2:ν a=1+a.k.size+a.v.size:=rfl;rw[qE0,List.length_cons];omega
theorem jI4{N:Nat}{l:List UInt8}{rb rs:Int}{r:Root}(h:Lie N l rb rs r)(hg:RGood r)(hN:N≤400):qB9 r≤800∧r.cont.length≤25200:=by
 cases r with
 | none=>exact⟨Nat.zero_le _,Nat.zero_le _⟩
 | «at» n L=>
  obtain⟨b,rfl,h2,h3⟩:=h;obtain⟨_,g2,g3⟩:=hg;have hat:=zX8 n b rs L.sub h3;have hne:=zY0 n b rs L.sub L.key h3 g2 (by omega);have hc:=zX9 n b rs L.sub h3;have hso:=(qK4 n L.key L.sub g2).1;rw[←hc] at hso;have hpw:=(List.pairwise_flatMap.1 hso).2;have hnd:((qO6 n b L.sub).map Prod.fst).Nodup:=by
   refine List.pairwise_map.2 (hpw.imp_of_mem fun {x y} hx hy hr=>?_);intro e;obtain⟨x1,x2,x3,x4⟩:=hat x hx;obtain⟨y1,y2,y3,y4⟩:=hat y hy;rw[e,y2] at x2;have l1:=zJ3 x.2 x3;have l2:=zJ3 y.2 y3;have e2:=qT5 (qH0 0 y.2 [] (by omega) (by omega) (by simp;omega) y3 (by simp)) (qH0 0 x.2 [] (by omega) (by omega) (by simp;omega) x3 (by simp)) x2;obtain⟨_,hl,q,q',e3⟩:=qV0 e2;have e4:=zK9 y.2 x.2 _ _ y3 x3 (by simpa using hl) e3;obtain⟨p,hp⟩:=List.exists_mem_of_ne_nil _ (hne x hx);have:=hr p hp p (by rw[e4];exact hp);rw[qS1] at this;cases this
  have hlen:=xV8 hnd (fun z hz=>by
   obtain⟨y,hy,rfl⟩:=List.mem_map.1 hz;exact (hat y hy).1)
  rw[List.length_map] at hlen;have hn:=xA1 n b rs L.sub L.key h3 g2 g3;have hm:=jJ1 (qO6 n b L.sub) (fun y hy=>by have:=zJ3 y.2 (hat y hy).2.2.1;have:=(hat y hy).2.2.2;omega);rw[hc] at hm;have h4:qB9 (.at n L)=qB1 n L.sub:=rfl;have h5:(Root.at n L).cont=cont n L.sub:=rfl;have h6:(qO6 n b L.sub).length*63≤400*63:=Nat.mul_le_mul_right _ (by omega);rw[h4,h5];omega
variable {κ:Nat}
theorem xR8(f:Nat)(cap:Array Value)(call:ByteArray)(k:Int)(w:World)(R Rb:World→Prop)(hcf:∀ W:World,Sem.run prog (callFunc f cap) W=.ok (.enter f cap) W)
  (hw:Calls prog f cap ((w.alloc (.cells #[.string call] 9)).alloc (.cells #[.nilIface] 35)) fun e w'=>((e=.returned (.tuple #[])∧R w')∨(e=.panicked [{ v:=.iface 162 (.agg #[.iface 46 (.int .i64 k)]),recovered:=false }]∧Rb w'))∧w'.heap[w.heap.size+1]?=some (.cells #[.nilIface] 35)∧w'.heap[w.heap.size]?=some (.cells #[.string call] 9)):
  Calls prog 70 #[.string call,.func (.func f) #[] cap] w fun e w'=>(e=.returned .nilIface∧∃ w1,R w1∧w'=w1.setCell ⟨w.heap.size+1,0,none⟩ .nilIface)∨
   ∃ F,e=.returned (.iface 180 (.pointer (some ⟨F,0,none⟩)))∧w'.heap[F]?=some (.cells #[.string call,.iface 46 (.int .i64 k)] 183)∧∃ w1,Rb w1∧w1.heap.size≤F∧Kp [w.heap.size+1] w1 w':=by
 have hmf:=zM;have HW:=zh hw;clear hw
 go_enter_defers func70,ntmps70
 go_wp2_with fail;refine (show Calls _ _ _ _ _ from HW.out).mono ?_;rintro e w1 ⟨hres,hE,hB⟩;rcases hres with⟨rfl,hR⟩|⟨rfl,hR⟩
 ·have HR:=zh hR;clear hR;have e0:=ξ hE 0;simp at e0;have ef:=ρ hE 0;go_wp2;refine leaves_cons (f:=108) (args:=#[.pointer (some ⟨w.heap.size,0,none⟩),.pointer (some ⟨w.heap.size+1,0,none⟩)]) (by simp) (by simp[go_sem]) ?_;refine (zR0 ⟨w.heap.size,0,none⟩ ⟨w.heap.size+1,0,none⟩ _).mono ?_;rintro e u' w'' ⟨rfl,rfl,rfl⟩;simp[Leaves,settle,results,results70,go_sem,e0];exact⟨w1,HR.out,rfl⟩
 ·have HR:=zh hR;clear hR;go_wp2;refine leaves_cons (f:=108) (args:=#[.pointer (some ⟨w.heap.size,0,none⟩),.pointer (some ⟨w.heap.size+1,0,none⟩)]) (by simp) (by simp[go_sem]) ?_;refine (zG7 w.heap.size (w.heap.size+1) k call _ hB (by omega) hE).mono ?_;rintro e u' w2 ⟨rfl,rfl,F,hF,hF2,hE2,hK2⟩;have e0:=ξ hE2 0;simp at e0;simp[Leaves,settle,results,results70,go_sem,e0];exact⟨hF2,w1,HR.out,hF,hK2⟩
theorem jL7(D X A n C:Nat)(calls writes:Int)(l:List UInt8)(w:World)(hD:w.heap[D]?=some (.cells #[.iface 23 (.pointer (some ⟨A,0,none⟩))] 129))(hX:w.heap[X]?=some (.cells #[.pointer none] 24))(h:w.heap[A]?=some (χ (l.length / 128) n C (.slice none 0 0) calls writes))(h0:0≤calls)(h1:calls≤999999000)
  (h8:8≤n) (h400:n≤400) (hC:w.heap[C]?=some (.cells (enc l) 87)) (hs:n*128≤l.length) (hAC:C≠A) (hXA:X≠A) (hXC:X≠C):
  Calls prog 71 #[.pointer (some ⟨D,0,none⟩),.pointer (some ⟨X,0,none⟩)] w fun e w'=>((e=.returned (.tuple #[])∧
   (∃ V M St Db N rb rs r,w.heap.size≤V∧w.heap.size≤M∧w.heap.size≤St∧w.heap.size≤Db∧Devl V A n C l writes w'∧w'.heap[M]?=some (.map #[] 0)∧w'.heap[St]?=some (τ 0 ⟨V,M,N,rb,rs,qB9 r,false,0,0⟩)∧w'.heap[Db]?=some (.cells #[.pointer (some ⟨St,0,none⟩)] 95)∧w'.heap[X]?=some (.cells #[.pointer (some ⟨Db,0,none⟩)] 24)∧Lie n l rb rs r∧RGood r∧qP2 N rb rs∧(qJ0 l 0 N rb rs∨qJ0 l 1 N rb rs)))∨
   (e=.panicked cor∧w'.heap[X]?=some (.cells #[.pointer none] 24)∧(∃ c,w'.heap[A]?=some (χ (l.length / 128) n C (.slice none 0 0) c writes))))∧Kp [A,C,X] w w':=by
 have hDs:=ζ hD;have hXs:=ζ hX;have hA:=ζ h;have hCs:=ζ hC;have HCHK:Hid (∀ V W rb rs,V≠A→0≤rb→0≤rs→Devl V A n C l writes W→Calls prog 75 #[φ V ⟨⟨#[]⟩,rb,rs,none⟩] W fun e w'=>(e=.panicked cor∨∃ r,e=.returned (.int .i64 (qB9 r))∧Lie n l rb rs r∧RGood r∧qB9 r≤177156)∧Devl V A n C l writes w'∧Kp [A] W w'):=fun V W rb rs hv q1 q2 hd=>jQ5 V A n C l writes (by omega) hs hAC hv rb rs q1 q2 W hd;have c0:=ξ hD 0;simp at c0;go_enter func71,ntmps71;go_wp2_with fail;refine (zD7 A n C (.slice none 0 0) calls writes _ h h8 h400).mono ?_;rintro e w1 ⟨V,rfl,hVs,hV1,hK1⟩;have hA1:=hK1.hp h;have hC1:=hK1.hp hC;have hX1:=hK1.hp hX;have hK1':Kp [A,C,X] w w1:=hK1.mono (by simp);have HVA:Hid (V≠A):=by show V≠A;omega
 have HXA:Hid (X≠A∧X≠C):=⟨hXA,hXC⟩;clear hK1 hXA hXC;go_wp2_with fail;refine (jK2 V A n C calls writes l w1 hV1 hA1 h0 (by omega) h8 (by omega) hC1 hs hAC HVA.out).mono ?_;rintro e w2 ⟨N,rb,rs,q,rfl,hfit,hval,hA2,hK2⟩;have hV2:=hK2.heap hV1 (by simp[HVA.out]);have hX2:=hK2.heap hX1 (by simp[HXA.out.1]);have hC2:=hK2.heap hC1 (by simp[hAC]);have hK2':Kp [A,C,X] w w2:=hK1'.trans hK2 (by simp +contextual);have hs1:=hK1'.size;have hs2:=hK2.size;have hVl:=ζ hV1;clear hK2 hK1' hA1 hC1 hV1 hX1 c0
 cases q with
 | false=>
  clear hval hfit;go_wp2;exact⟨rfl,rfl,.inr ⟨rfl,θ _ hX2,⟨_,θ _ hA2⟩⟩,hK2'.alloc _⟩
 | true=>
  have HVL:Hid (qP2 N rb rs∧(qJ0 l 0 N rb rs∨qJ0 l 1 N rb rs)):=⟨hfit,hval rfl⟩;have HCK:=Hid.mk' (fun W hd=>HCHK.out V W rb rs HVA.out hfit.2.2.1 hfit.2.2.2.2.1 hd);clear hval hfit;go_wp2_with fail;obtain⟨H,hHd⟩:∃ H,H=w2.heap.size:=⟨_,rfl⟩;rw[←hHd];obtain⟨W3,hW3,hK3,hD3,hX3,hH3⟩:∃ W3,W3=w2.alloc (.cells #[.int .u64 N,.int .i64 rb,.int .u64 rs] 116)∧Kp [A,C,X] w W3∧Devl V A n C l writes W3∧W3.heap[X]?=some (.cells #[.pointer none] 24)∧W3.heap[H]?=some (.cells #[.int .u64 N,.int .i64 rb,.int .u64 rs] 116):=
   ⟨_,rfl,hK2'.alloc _,⟨θ _ hV2,⟨_,θ _ hA2⟩,θ _ hC2⟩,θ _ hX2,by rw[hHd];exact μ _ _⟩
  rw[←hW3];have hHb:w2.heap.size≤H:=by omega
  clear hW3 hK2' hA2 hX2 hV2 hHd hC2;have hHs:=ζ hH3;refine (zM6 V rb rs _).mono ?_;rintro e W4 ⟨rfl,hK40⟩;have hX4:=hK40.hp hX3;have hD4:Devl V A n C l writes W4:=qD4 hD3 hK40 (by intro k hk;cases hk);have hH4:=hK40.hp hH3;have hK4:Kp [A,C,X] w W4:=hK3.tr hK40;have hs4:=hK40.size;clear hK40 hX3 hD3 hH3 hK3;go_wp2_with fail;refine (show Calls _ _ _ _ _ from HCK.out W4 hD4).mono ?_;rintro e W5 ⟨hres,hD5,hK50⟩;have hX5:=hK50.heap hX4 (by simp[HXA.out.1]);have hH5:=hK50.ho hH4;have hK5:Kp [A,C,X] w W5:=hK4.tr hK50;have hs5:=hK50.size;obtain⟨c5,hA5⟩:=hD5.hA;clear hK50 hX4 hD4 hH4 hK4;rcases hres with rfl|⟨r,rfl,t1,t2,t3⟩
  ·go_wp2;exact⟨rfl,.inr ⟨rfl,hX5,⟨_,hA5⟩⟩,hK5⟩
  have HR:Hid (Lie n l rb rs r∧RGood r):=⟨t1,t2⟩;clear t1 t2;go_wp2_with fail;refine (zF7 V A n C W5.heap.size (.slice none 0 0) [] c5 writes l W5 hD5.hV hA5 (World.ownsRow_nil _ _ _ _) (by simp) (by simp) (by omega) hD5.hC hs hAC).mono ?_;rintro e W6 ⟨rfl,hA6,hC6,hK60⟩;have hVC:V≠C:=by omega
  have hX6:=hK60.heap hX5 (by simp[HXA.out.1,HXA.out.2]);have hV6:=hK60.heap hD5.hV (by simp[HVA.out,hVC]);have hH6:=hK60.ho hH5;have hK6:Kp [A,C,X] w W6:=hK5.trans hK60 (by simp +contextual);have hs6:=hK60.size;have HXH:Hid (X≠H):=by show X≠H;omega
  have HXV:Hid (X≠V):=by show X≠V;omega
  have hsW6:=hK6.size;clear hK60 hA5 hX5 hD5 hH5 hK5;have hmm:=@run_makeMap prog;have z0:=ξ hH6;have x0:=ξ hX6 0;simp only[zG,zH,zI] at x0;have fx0:=ρ hX6 0;have hX6s:=ζ hX6;have hX6a:X<W6.heap.size+1:=by omega
  have hX6b:X<W6.heap.size+1+1:=by omega
  go_wp2
  go_end0
  obtain⟨U,hU,hKU,hAU,hCU,hVU,hXU,hsU⟩:∃ U,U=W6.setCell ⟨X,0,none⟩ (.pointer (some ⟨W6.heap.size+1+1,0,none⟩))∧Kp [A,C,X] w U∧U.heap[A]?=some (χ (l.length / 128) n C (.slice none 0 0) (nx c5) writes)∧U.heap[C]?=some (.cells (enc l) 87)∧U.heap[V]?=some (qB8 A n)∧U.heap[X]?=some (.cells #[.pointer (some ⟨W6.heap.size+1+1,0,none⟩)] 24)∧U.heap.size=W6.heap.size:=
   ⟨_,rfl,hK6.sc _,(qA7 (fun e=>HXA.out.1 e.symm) _ _).trans hA6,(qA7 (fun e=>HXA.out.2 e.symm) _ _).trans hC6,(qA7 (fun e=>HXV.out e.symm) _ _).trans hV6,ω hX6 0 _,by simp[World.setCell]⟩
  rw[←hU];have e1:=μ U (.map #[] 0);have e2:=μ (U.alloc (.map #[] 0)) (τ 0 ⟨V,W6.heap.size,N,rb,rs,qB9 r,false,0,0⟩);have e3:=μ ((U.alloc (.map #[] 0)).alloc (τ 0 ⟨V,W6.heap.size,N,rb,rs,qB9 r,false,0,0⟩)) (.cells #[.pointer (some ⟨W6.heap.size+1,0,none⟩)] 95);rw[hsU] at e1;rw[show (U.alloc (.map #[] 0)).heap.size=W6.heap.size+1 from by simp[hsU]] at e2;rw[show ((U.alloc (.map #[] 0)).alloc (τ 0 ⟨V,W6.heap.size,N,rb,rs,qB9 r,false,0,0⟩)).heap.size=W6.heap.size+1+1 from by simp[hsU]] at e3;exact⟨.inl ⟨rfl,V,W6.heap.size,W6.heap.size+1,W6.heap.size+1+1,N,rb,rs,r,hVs,by omega,by omega,by omega,⟨θ _ (θ _ (θ _ hVU)),⟨_,θ _ (θ _ (θ _ hAU))⟩,θ _ (θ _ (θ _ hCU))⟩,θ _ (θ _ e1),θ _ e2,e3,θ _ (θ _ (θ _ hXU)),HR.out.1,HR.out.2,HVL.out⟩,((hKU.alloc _).alloc _).alloc _⟩
def Made0(w0 w:World)(A n C:Nat)(l:List UInt8)(writes:Int)(V M St Db:Nat)(N rb rs:Int)(r:Root):Prop:=
 w0.heap.size≤V∧w0.heap.size≤M∧w0.heap.size≤St∧w0.heap.size≤Db∧Devl V A n C l writes w∧w.heap[M]?=some (.map #[] 0)∧w.heap[St]?=some (τ 0 ⟨V,M,N,rb,rs,qB9 r,false,0,0⟩)∧w.heap[Db]?=some (.cells #[.pointer (some ⟨St,0,none⟩)] 95)∧Lie n l rb rs r∧RGood r∧qP2 N rb rs∧(qJ0 l 0 N rb rs∨qJ0 l 1 N rb rs)
theorem xL4(A n C:Nat)(calls writes:Int)(l:List UInt8)(w:World)(h:w.heap[A]?=some (χ (l.length / 128) n C (.slice none 0 0) calls writes))(h0:0≤calls)(h1:calls≤999999000)
  (h8:8≤n) (h400:n≤400) (hC:w.heap[C]?=some (.cells (enc l) 87)) (hs:n*128≤l.length) (hAC:C≠A):
  Calls prog 16 #[.pointer (some ⟨A,0,none⟩)] w fun e w'=>((∃ V M St Db N rb rs r,e=.returned (.tuple #[.pointer (some ⟨Db,0,none⟩),.nilIface])∧Made0 w w' A n C l writes V M St Db N rb rs r)∨
   ∃ F call,e=.returned (.tuple #[.pointer none,.iface 180 (.pointer (some ⟨F,0,none⟩))])∧w.heap.size≤F∧w'.heap[F]?=some (.cells #[.string call,.iface 46 (.int .i64 9)] 183)∧∃ c,w'.heap[A]?=some (χ (l.length / 128) n C (.slice none 0 0) c writes))∧Kp [A,C] w w':=by
 have hA:=ζ h;have hCs:=ζ hC;have HO:Hid (∀ D X W,W.heap[D]?=some (.cells #[.iface 23 (.pointer (some ⟨A,0,none⟩))] 129)→W.heap[X]?=some (.cells #[.pointer none] 24)→W.heap[A]?=some (χ (l.length / 128) n C (.slice none 0 0) calls writes)→W.heap[C]?=some (.cells (enc l) 87)→X≠A→X≠C→
  Calls prog 71 #[.pointer (some ⟨D,0,none⟩),.pointer (some ⟨X,0,none⟩)] W fun e w'=>((e=.returned (.tuple #[])∧
   (∃ V M St Db N rb rs r,W.heap.size≤V∧W.heap.size≤M∧W.heap.size≤St∧W.heap.size≤Db∧Devl V A n C l writes w'∧w'.heap[M]?=some (.map #[] 0)∧w'.heap[St]?=some (τ 0 ⟨V,M,N,rb,rs,qB9 r,false,0,0⟩)∧w'.heap[Db]?=some (.cells #[.pointer (some ⟨St,0,none⟩)] 95)∧w'.heap[X]?=some (.cells #[.pointer (some ⟨Db,0,none⟩)] 24)∧Lie n l rb rs r∧RGood r∧qP2 N rb rs∧(qJ0 l 0 N rb rs∨qJ0 l 1 N rb rs)))∨
   (e=.panicked cor∧w'.heap[X]?=some (.cells #[.pointer none] 24)∧(∃ c,w'.heap[A]?=some (χ (l.length / 128) n C (.slice none 0 0) c writes))))∧Kp [A,C,X] W w'):=fun D X W q1 q2 q3 q4 q5 q6=>jL7 D X A n C calls writes l W q1 q2 q3 h0 h1 h8 h400 q4 hs hAC q5 q6
 have hmf:=zM;go_enter func16,ntmps16
 go_wp2_with (go_at_call 42;go_in)
 obtain⟨W0,hW0,hK0,hs0⟩:∃ W0,W0=(w.alloc (.cells #[.iface 23 (.pointer (some ⟨A,0,none⟩))] 129)).alloc (.cells #[.pointer none] 24)∧Kp [] w W0∧W0.heap.size=w.heap.size+2:=⟨_,rfl,((Kp.refl _ _).alloc _).alloc _,by simp⟩;have hD0:W0.heap[w.heap.size]?=some (.cells #[.iface 23 (.pointer (some ⟨A,0,none⟩))] 129):=by rw[hW0];exact θ _ (μ _ _)
 have hX0:W0.heap[w.heap.size+1]?=some (.cells #[.pointer none] 24):=by
  rw[hW0];have e:=μ (w.alloc (.cells #[.iface 23 (.pointer (some ⟨A,0,none⟩))] 129)) (.cells #[.pointer none] 24);simpa using e
 rw[←hW0];clear hW0;have hA0:=hK0.hp h;have hC0:=hK0.hp hC;refine (xR8 71 _ _ 9 _ (fun w'=>(∃ V M St Db N rb rs r,W0.heap.size+2≤V∧W0.heap.size+2≤M∧W0.heap.size+2≤St∧W0.heap.size+2≤Db∧Devl V A n C l writes w'∧w'.heap[M]?=some (.map #[] 0)∧w'.heap[St]?=some (τ 0 ⟨V,M,N,rb,rs,qB9 r,false,0,0⟩)∧w'.heap[Db]?=some (.cells #[.pointer (some ⟨St,0,none⟩)] 95)∧w'.heap[w.heap.size+1]?=some (.cells #[.pointer (some ⟨Db,0,none⟩)] 24)∧Lie n l rb rs r∧RGood r∧qP2 N rb rs∧(qJ0 l 0 N rb rs∨qJ0 l 1 N rb rs))∧Kp [A,C] w w')
   (fun w'=>w'.heap[w.heap.size+1]?=some (.cells #[.pointer none] 24)∧(∃ c,w'.heap[A]?=some (χ (l.length / 128) n C (.slice none 0 0) c writes))∧Kp [A,C] w w') (fun W=>zF1 _ W) ?_).mono ?_
 ·refine (HO.out w.heap.size (w.heap.size+1) _ (θ _ (θ _ hD0)) (θ _ (θ _ hX0)) (θ _ (θ _ hA0)) (θ _ (θ _ hC0)) (by omega) (by omega)).mono ?_;rintro e w1 ⟨hres,hK1⟩;have hKw:Kp [A,C] w w1:=(((hK0.mono (S':=[A,C]) (by simp)).alloc _).alloc _).trans hK1 (by intro i hi hlt;simp at hi ⊢;omega);refine⟨?_,hK1.heap ?_ (by simp;omega),hK1.heap ?_ (by simp;omega)⟩
  ·rcases hres with⟨rfl,V,M,St,Db,N,rb,rs,r,hV,hM,hSt,hDb,q⟩|⟨rfl,q1,q2⟩
   ·exact .inl ⟨rfl,⟨V,M,St,Db,N,rb,rs,r,by simpa using hV,by simpa using hM,by simpa using hSt,by simpa using hDb,q⟩,hKw⟩
   ·exact .inr ⟨rfl,q1,q2,hKw⟩
  ·have e:=μ (W0.alloc (.cells #[.string ⟨#[79,112,101,110]⟩] 9)) (.cells #[.nilIface] 35);simpa using e
  ·exact θ _ (μ _ _)
 rintro e w2 hres;rcases hres with⟨rfl,w1,⟨⟨V,M,St,Db,N,rb,rs,r,hV,hM,hSt,hDb,r1,rm,r2,r3,r4,r5⟩,hK1⟩,rfl⟩|⟨F,rfl,hF2,w1,⟨q1,⟨c,q2⟩,hK1⟩,hF,hK2⟩
 ·have x0:=ξ r4 0;simp at x0;have HR:=Hid.mk' r5;clear r5;go_wp2
  go_ret2
  obtain⟨ca,hAd⟩:=r1.hA;exact⟨.inl ⟨V,M,St,Db,N,rb,rs,r,rfl,by omega,by omega,by omega,by omega,⟨(qA7 (by omega) _ _).trans r1.hV,⟨_,(qA7 (by omega) _ _).trans hAd⟩,(qA7 (by omega) _ _).trans r1.hC⟩,(qA7 (by omega) _ _).trans rm,(qA7 (by omega) _ _).trans r2,(qA7 (by omega) _ _).trans r3,HR.out⟩,hK1.setCell (Or.inr (by simp;omega)) _⟩
 ·have hX2:=hK2.ho q1;have hAf:=hK2.ho q2;have x0:=ξ hX2 0;simp at x0;have hs1:=hK1.size;go_wp2
  go_ret2
  exact⟨.inr ⟨F,_,rfl,by omega,hF2,c,hAf⟩,hK1.trans hK2 (by intro i hi hlt;simp at hi;omega)⟩
end Go.Proofs.YtdohpenfkdckiabGreatDoor
namespace Go.Proofs.YtdohpenfkdckiabGreatDoor
open Go.Proofs.Tryz
open Go.RowKit
open Go.Maps (Keyed)
theorem Made0.shop{w0 w:World}{A n C:Nat}{l:List UInt8}{writes:Int}{V M St Db:Nat}{N rb rs:Int}{r:Root}(h:Made0 w0 w A n C l writes V M St Db N rb rs r)(h8:8≤n)(h4:n≤400)(hs:n*128≤l.length):Shop0 w 25200 Db St A C n 0 ⟨V,M,N,rb,rs,qB9 r,false,0,0⟩ emp l writes r∧qB9 r≤800:=by
 obtain⟨_,_,_,_,q1,q2,q3,q4,hl,hg,hf,_⟩:=h;obtain⟨s1,s2⟩:=jI4 hl hg h4;exact⟨{ hDb:=q4,hSt:=q3,po:=rfl,hM:=⟨#[],0,q2,⟨by simp,MapKept.stamped_empty 0,by simp⟩,Nat.le_refl _,rfl⟩,m4:=by simp[emp,Maps.size],n1:=by omega,dev:=q1,N8:=h8,N4:=h4,len:=hs,lie:=hl,good:=hg,sz:=s2,bl0:=Int.natCast_nonneg _,bl1:=by have:=qT3 hg;show ((qB9 r:Nat):Int)≤_;omega,sN0:=hf.1,bg0:=Int.le_refl _,kb:=fun k hk=>by simp[emp,Maps.has] at hk,rd:=fun x h hk=>by simp[emp,Maps.has] at hk },s1⟩
end Go.Proofs.YtdohpenfkdckiabGreatDoor
