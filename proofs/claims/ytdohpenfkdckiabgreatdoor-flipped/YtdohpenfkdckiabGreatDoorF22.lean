import Derived.Test.YtdohpenfkdckiabGreatDoorF21
import Derived.Test.YtdohpenfkdckiabGreatDoorRows
import Derived.ChangeSame
import Derived.ChangeVars
import Derived.JoinedOf
import Derived.RowKit
import Derived.LaidLaws
import Derived.LaidHandle
import Derived.Deep.Slices
import Derived.Stop.Joined
import Derived.Lay
set_option linter.all false
set_option maxRecDepth 100000
set_option maxHeartbeats 20000000
namespace Go.Proofs.YtdohpenfkdckiabGreatDoor
open Go.Proofs.Tryz
open Go.RowKit
def qO0:(n:Nat)→Nat→Tn n→List (Nat × List KV)
 | 0,b,t=>[(b,prs t)]
 | n+1,_,t=>(η t).flatMap (fun m=>match m.ref with | some x=>qO0 n x.1 m.sub | none=>[])
theorem zB5{N:Nat}{l:List UInt8}{n b:Nat}{s:Int}{t:Tn (n+1)}(h:Laid N l (n+1) b s t):∀ m∈η t,∃ x,m.ref=some x∧Laid N l n x.1 x.2 m.sub:=by
 obtain⟨_,_,_,hs,hb,_⟩:=h;intro m hm;obtain⟨i,hi,rfl⟩:=List.getElem_of_mem hm;have hr:=(hb.2 i (by rw[hb.1];exact hi) hi).2
 cases hx:(η t)[i].ref with
 | none=>rw[hx] at hr;obtain⟨_,_,q,_,hf⟩:=hr;exact hf.elim
 | some x=>rw[hx] at hr;exact⟨x,rfl,hr.2.2.2⟩
theorem xR6{α β:Type}{l:List α}{f g:α→List β}(h:∀ a∈l,f a=g a):l.flatMap f=l.flatMap g:=by rw[List.flatMap_def,List.flatMap_def,List.map_congr_left h]
theorem zW5{N:Nat}{l:List UInt8}:∀ (n b:Nat) (s:Int) (t:Tn n),Laid N l n b s t→(qO0 n b t).flatMap Prod.snd=cont n t
 | 0,b,s,t,h=>by
  show prs t++[]=prs t;rw[List.append_nil]
 | n+1,b,s,t,h=>by
  have hd:=zB5 h;show ((η t).flatMap _).flatMap Prod.snd=(η t).flatMap fun m=>cont n m.sub;rw[List.flatMap_assoc];refine xR6 fun m hm=>?_;obtain⟨x,hx,hl⟩:=hd m hm;rw[hx];exact zW5 n x.1 x.2 m.sub hl
theorem zW4{N:Nat}{l:List UInt8}:∀ (n b:Nat) (s:Int) (t:Tn n),Laid N l n b s t→∀ y∈qO0 n b t,y.1<N∧qA0 l y.1=toB (qA1 0 y.2 [])∧(∀ p∈y.2,qC5 p)∧2+meas μ y.2≤128
 | 0,b,s,t,h,y,hy=>by
  obtain⟨h1,h2,h3,h4,h5,h6,h7⟩:=h;rw[List.mem_singleton.1 hy];exact⟨h2,h4,h5,h6⟩
 | n+1,b,s,t,h,y,hy=>by
  obtain⟨m,hm,hy⟩:=List.mem_flatMap.1 hy;obtain⟨x,hx,hl⟩:=zB5 h m hm;rw[hx] at hy;exact zW4 n x.1 x.2 m.sub hl y hy
theorem zW6{N:Nat}{l:List UInt8}:∀ (n b:Nat) (s:Int) (t:Tn n) (lo:ByteArray),Laid N l n b s t→Good n lo t→1≤cnt n t→∀ y∈qO0 n b t,y.2≠[]
 | 0,b,s,t,lo,h,hg,hc,y,hy=>by
  rw[List.mem_singleton.1 hy];intro e;have:(prs t).length=0:=by rw[show prs t=[] from e];rfl
  have hc':1≤(prs t).length:=hc;omega
 | n+1,b,s,t,lo,h,hg,hc,y,hy=>by
  obtain⟨m,hm,hy⟩:=List.mem_flatMap.1 hy;obtain⟨x,hx,hl⟩:=zB5 h m hm;rw[hx] at hy;have ha:=hg.all m hm;exact zW6 n x.1 x.2 m.sub m.key hl ha.1 (by omega) y hy
theorem zY6{N:Nat}{l:List UInt8}:∀ (n b:Nat) (s:Int) (t:Tn n) (lo:ByteArray),Laid N l n b s t→Good n lo t→min n 1<cnt n t→qB3 n t+1≤2*(qO0 n b t).length
 | 0,b,s,t,lo,h,hg,hc=>by simp[qB3,qO0]
 | n+1,b,s,t,lo,h,hg,hc=>by
  have hd:=zB5 h;have hall:∀ m∈η t,3≤cnt n m.sub∧Good n m.key m.sub:=fun m hm=>⟨(hg.all m hm).2.1,(hg.all m hm).1⟩;have hc':1<(η t).length:=by
   have h1:min (n+1) 1=1:=by omega
   rw[h1] at hc;exact hc
  have key:∀ ls:List (Lnk (Tn n)),(∀ m∈ls,∃ x,m.ref=some x∧Laid N l n x.1 x.2 m.sub)→(∀ m∈ls,3≤cnt n m.sub∧Good n m.key m.sub)→meas (fun m:Lnk (Tn n)=>qB3 n m.sub) ls+ls.length≤2*(ls.flatMap (fun m=>match m.ref with | some x=>qO0 n x.1 m.sub | none=>[])).length:=by
   intro ls
   induction ls with
   | nil=>intro _ _;simp[qD1]
   | cons a ls ih=>
    intro h1 h2;have i1:=ih (fun m hm=>h1 m (by simp[hm])) (fun m hm=>h2 m (by simp[hm]));obtain⟨x,hx,hl⟩:=h1 a (by simp);obtain⟨g1,g2⟩:=h2 a (by simp);have i2:=zY6 n x.1 x.2 a.sub a.key hl g2 (by omega);rw[qE0,List.length_cons,List.flatMap_cons,List.length_append,hx];simp only;omega
  have h1:=key (η t) hd hall;show 1+meas (fun m:Lnk (Tn n)=>qB3 n m.sub) (η t)+1≤2*((η t).flatMap _).length;omega
theorem xP3{a:List Nat}{N:Nat}(h:a.Nodup)(hl:∀ x∈a,x<N):a.length≤N:=by
 have h1:=zA1 a (List.range N) h;have h2:a.filter (fun k=>decide (k ∉ List.range N))=[]:=by
  rw[List.filter_eq_nil_iff];intro x hx;have:=hl x hx;simp[List.mem_range,this]
 rw[h2,List.length_range] at h1;simpa using h1
theorem jD9(ys:List (Nat × List KV))(h:∀ y∈ys,y.2.length≤63):(ys.flatMap Prod.snd).length≤ys.length*63:=by
 induction ys with
 | nil=>simp
 | cons a ys ih=>
  have:=ih (fun y hy=>h y (by simp[hy]));have:=h a (by simp);rw[List.flatMap_cons,List.length_append,List.length_cons,Nat.add_mul];omega
theorem zI4(ps:List KV)(h:∀ p∈ps,qC5 p):2*ps.length≤meas μ ps:=by
 induction ps with
 | nil=>simp
 | cons a ps ih=>
  have:=ih (fun p hp=>h p (by simp[hp]));have h1:=(h a (by simp)).1;have h2:μ a=1+a.k.size+a.v.size:=rfl;rw[qE0,List.length_cons];omega
theorem jD2{N:Nat}{l:List UInt8}{rb rs:Int}{r:Root}(h:Lie N l rb rs r)(hg:RGood r)(hN:N≤400):qC3 r≤800∧r.cont.length≤25200:=by
 cases r with
 | none=>exact⟨Nat.zero_le _,Nat.zero_le _⟩
 | «at» n L=>
  obtain⟨b,rfl,h2,h3⟩:=h;obtain⟨_,g2,g3⟩:=hg;have hat:=zW4 n b rs L.sub h3;have hne:=zW6 n b rs L.sub L.key h3 g2 (by omega);have hc:=zW5 n b rs L.sub h3;have hso:=(qM2 n L.key L.sub g2).1;rw[←hc] at hso;have hpw:=(List.pairwise_flatMap.1 hso).2;have hnd:((qO0 n b L.sub).map Prod.fst).Nodup:=by
   refine List.pairwise_map.2 (hpw.imp_of_mem fun {x y} hx hy hr=>?_);intro e;obtain⟨x1,x2,x3,x4⟩:=hat x hx;obtain⟨y1,y2,y3,y4⟩:=hat y hy;rw[e,y2] at x2;have l1:=zI4 x.2 x3;have l2:=zI4 y.2 y3;have e2:=qS7 (qG9 0 y.2 [] (by omega) (by omega) (by simp;omega) y3 (by simp)) (qG9 0 x.2 [] (by omega) (by omega) (by simp;omega) x3 (by simp)) x2;obtain⟨_,hl,q,q',e3⟩:=qU3 e2;have e4:=zK1 y.2 x.2 _ _ y3 x3 (by simpa using hl) e3;obtain⟨p,hp⟩:=List.exists_mem_of_ne_nil _ (hne x hx);have:=hr p hp p (by rw[e4];exact hp);rw[qT5] at this;cases this
  have hlen:=xP3 hnd (fun z hz=>by
   obtain⟨y,hy,rfl⟩:=List.mem_map.1 hz;exact (hat y hy).1)
  rw[List.length_map] at hlen;have hn:=zY6 n b rs L.sub L.key h3 g2 g3;have hm:=jD9 (qO0 n b L.sub) (fun y hy=>by have:=zI4 y.2 (hat y hy).2.2.1;have:=(hat y hy).2.2.2;omega);rw[hc] at hm;have h4:qC3 (.at n L)=qB3 n L.sub:=rfl;have h5:(Root.at n L).cont=cont n L.sub:=rfl;have h6:(qO0 n b L.sub).length*63≤400*63:=Nat.mul_le_mul_right _ (by omega);rw[h4,h5];omega
variable {κ:Nat}
theorem xK4(f:Nat)(cap:Array Value)(call:ByteArray)(k:Int)(w:World)(R Rb:World→Prop)(hcf:∀ W:World,Sem.run prog (callFunc f cap) W=.ok (.enter f cap) W)
  (hw:Calls prog f cap ((w.alloc (.cells #[.string call] 9)).alloc (.cells #[.nilIface] 35)) fun e w'=>((e=.returned (.tuple #[])∧R w')∨(e=.panicked [{ v:=.iface 162 (.agg #[.iface 46 (.int .i64 k)]),recovered:=false }]∧Rb w'))∧w'.heap[w.heap.size+1]?=some (.cells #[.nilIface] 35)∧w'.heap[w.heap.size]?=some (.cells #[.string call] 9)):
  Calls prog 70 #[.string call,.func (.func f) #[] cap] w fun e w'=>(e=.returned .nilIface∧∃ w1,R w1∧w'=w1.setCell ⟨w.heap.size+1,0,none⟩ .nilIface)∨
   ∃ F,e=.returned (.iface 180 (.pointer (some ⟨F,0,none⟩)))∧w'.heap[F]?=some (.cells #[.string call,.iface 46 (.int .i64 k)] 183)∧∃ w1,Rb w1∧w1.heap.size≤F∧Kp [w.heap.size+1] w1 w':=by
 have hmf:=zM;have HW:=zh hw;clear hw
 go_enter_defers func70,ntmps70
 go_wp2_with fail;refine (show Calls _ _ _ _ _ from HW.out).mono ?_;rintro e w1 ⟨hres,hE,hB⟩;rcases hres with⟨rfl,hR⟩|⟨rfl,hR⟩
 ·have HR:=zh hR;clear hR;have e0:=ξ hE 0;simp at e0;have ef:=ω hE 0;go_wp2;refine leaves_cons (f:=108) (args:=#[.pointer (some ⟨w.heap.size,0,none⟩),.pointer (some ⟨w.heap.size+1,0,none⟩)]) (by simp) (by simp[go_sem]) ?_;refine (zP1 ⟨w.heap.size,0,none⟩ ⟨w.heap.size+1,0,none⟩ _).mono ?_;rintro e u' w'' ⟨rfl,rfl,rfl⟩;simp[Leaves,settle,results,results70,go_sem,e0];exact⟨w1,HR.out,rfl⟩
 ·have HR:=zh hR;clear hR;go_wp2;refine leaves_cons (f:=108) (args:=#[.pointer (some ⟨w.heap.size,0,none⟩),.pointer (some ⟨w.heap.size+1,0,none⟩)]) (by simp) (by simp[go_sem]) ?_;refine (zP2 w.heap.size (w.heap.size+1) k call _ hB (by omega) hE).mono ?_;rintro e u' w2 ⟨rfl,rfl,F,hF,hF2,hE2,hK2⟩;have e0:=ξ hE2 0;simp at e0;simp[Leaves,settle,results,results70,go_sem,e0];exact⟨hF2,w1,HR.out,hF,hK2⟩
theorem jK5(D X A n C:Nat)(calls writes:Int)(l:List UInt8)(w:World)(hD:w.heap[D]?=some (.cells #[.iface 23 (.pointer (some ⟨A,0,none⟩))] 129))(hX:w.heap[X]?=some (.cells #[.pointer none] 24))(h:w.heap[A]?=some (χ (l.length / 128) n C (.slice none 0 0) calls writes))(h0:0≤calls)(h1:calls≤999999000)
  (h8:8≤n) (h400:n≤400) (hC:w.heap[C]?=some (.cells (enc l) 87)) (hs:n*128≤l.length) (hAC:C≠A) (hXA:X≠A) (hXC:X≠C):
  Calls prog 71 #[.pointer (some ⟨D,0,none⟩),.pointer (some ⟨X,0,none⟩)] w fun e w'=>((e=.returned (.tuple #[])∧
   (∃ V M St Db N rb rs r,w.heap.size≤V∧w.heap.size≤M∧w.heap.size≤St∧w.heap.size≤Db∧Devl V A n C l writes w'∧w'.heap[M]?=some (.map #[] 0)∧w'.heap[St]?=some (τ 0 ⟨V,M,N,rb,rs,qC3 r,false,0,0⟩)∧w'.heap[Db]?=some (.cells #[.pointer (some ⟨St,0,none⟩)] 95)∧w'.heap[X]?=some (.cells #[.pointer (some ⟨Db,0,none⟩)] 24)∧Lie n l rb rs r∧RGood r∧qO4 N rb rs∧(qI8 l 0 N rb rs∨qI8 l 1 N rb rs)))∨
   (e=.panicked cor∧w'.heap[X]?=some (.cells #[.pointer none] 24)∧(∃ c,w'.heap[A]?=some (χ (l.length / 128) n C (.slice none 0 0) c writes))))∧Kp [A,C,X] w w':=by
 have hDs:=ζ hD;have hXs:=ζ hX;have hA:=ζ h;have hCs:=ζ hC;have HCHK:Hid (∀ V W rb rs,V≠A→0≤rb→0≤rs→Devl V A n C l writes W→Calls prog 75 #[υ V ⟨⟨#[]⟩,rb,rs,none⟩] W fun e w'=>(e=.panicked cor∨∃ r,e=.returned (.int .i64 (qC3 r))∧Lie n l rb rs r∧RGood r∧qC3 r≤177156)∧Devl V A n C l writes w'∧Kp [A] W w'):=fun V W rb rs hv q1 q2 hd=>jQ2 V A n C l writes (by omega) hs hAC hv rb rs q1 q2 W hd;have c0:=ξ hD 0;simp at c0;go_enter func71,ntmps71;go_wp2_with fail;refine (zJ6 A n C (.slice none 0 0) calls writes _ h h8 h400).mono ?_;rintro e w1 ⟨V,rfl,hVs,hV1,hK1⟩;have hA1:=hK1.hp h;have hC1:=hK1.hp hC;have hX1:=hK1.hp hX;have hK1':Kp [A,C,X] w w1:=hK1.mono (by simp);have HVA:Hid (V≠A):=by show V≠A;omega
 have HXA:Hid (X≠A∧X≠C):=⟨hXA,hXC⟩;clear hK1 hXA hXC;go_wp2_with fail;refine (jF1 V A n C calls writes l w1 hV1 hA1 h0 (by omega) h8 (by omega) hC1 hs hAC HVA.out).mono ?_;rintro e w2 ⟨N,rb,rs,q,rfl,hfit,hval,hA2,hK2⟩;have hV2:=hK2.heap hV1 (by simp[HVA.out]);have hX2:=hK2.heap hX1 (by simp[HXA.out.1]);have hC2:=hK2.heap hC1 (by simp[hAC]);have hK2':Kp [A,C,X] w w2:=hK1'.trans hK2 (by simp +contextual);have hs1:=hK1'.size;have hs2:=hK2.size;have hVl:=ζ hV1;clear hK2 hK1' hA1 hC1 hV1 hX1 c0
 cases q with
 | false=>
  clear hval hfit;go_wp2;exact⟨rfl,rfl,.inr ⟨rfl,θ _ hX2,⟨_,θ _ hA2⟩⟩,hK2'.alloc _⟩
 | true=>
  have HVL:Hid (qO4 N rb rs∧(qI8 l 0 N rb rs∨qI8 l 1 N rb rs)):=⟨hfit,hval rfl⟩;have HCK:=Hid.mk' (fun W hd=>HCHK.out V W rb rs HVA.out hfit.2.2.1 hfit.2.2.2.2.1 hd);clear hval hfit;go_wp2_with fail;obtain⟨H,hHd⟩:∃ H,H=w2.heap.size:=⟨_,rfl⟩;rw[←hHd];obtain⟨W3,hW3,hK3,hD3,hX3,hH3⟩:∃ W3,W3=w2.alloc (.cells #[.int .u64 N,.int .i64 rb,.int .u64 rs] 116)∧Kp [A,C,X] w W3∧Devl V A n C l writes W3∧W3.heap[X]?=some (.cells #[.pointer none] 24)∧W3.heap[H]?=some (.cells #[.int .u64 N,.int .i64 rb,.int .u64 rs] 116):=
   ⟨_,rfl,hK2'.alloc _,⟨θ _ hV2,⟨_,θ _ hA2⟩,θ _ hC2⟩,θ _ hX2,by rw[hHd];exact ν _ _⟩
  rw[←hW3];have hHb:w2.heap.size≤H:=by omega
  clear hW3 hK2' hA2 hX2 hV2 hHd hC2;have hHs:=ζ hH3;refine (zN7 V rb rs _).mono ?_;rintro e W4 ⟨rfl,hK40⟩;have hX4:=hK40.hp hX3;have hD4:Devl V A n C l writes W4:=qD9 hD3 hK40 (by intro k hk;cases hk);have hH4:=hK40.hp hH3;have hK4:Kp [A,C,X] w W4:=hK3.tr hK40;have hs4:=hK40.size;clear hK40 hX3 hD3 hH3 hK3;go_wp2_with fail;refine (show Calls _ _ _ _ _ from HCK.out W4 hD4).mono ?_;rintro e W5 ⟨hres,hD5,hK50⟩;have hX5:=hK50.heap hX4 (by simp[HXA.out.1]);have hH5:=hK50.ho hH4;have hK5:Kp [A,C,X] w W5:=hK4.tr hK50;have hs5:=hK50.size;obtain⟨c5,hA5⟩:=hD5.hA;clear hK50 hX4 hD4 hH4 hK4;rcases hres with rfl|⟨r,rfl,t1,t2,t3⟩
  ·go_wp2;exact⟨rfl,.inr ⟨rfl,hX5,⟨_,hA5⟩⟩,hK5⟩
  have HR:Hid (Lie n l rb rs r∧RGood r):=⟨t1,t2⟩;clear t1 t2;go_wp2_with fail;refine (zL0 V A n C W5.heap.size (.slice none 0 0) [] c5 writes l W5 hD5.hV hA5 (World.ownsRow_nil _ _ _ _) (by simp) (by simp) (by omega) hD5.hC hs hAC).mono ?_;rintro e W6 ⟨rfl,hA6,hC6,hK60⟩;have hVC:V≠C:=by omega
  have hX6:=hK60.heap hX5 (by simp[HXA.out.1,HXA.out.2]);have hV6:=hK60.heap hD5.hV (by simp[HVA.out,hVC]);have hH6:=hK60.ho hH5;have hK6:Kp [A,C,X] w W6:=hK5.trans hK60 (by simp +contextual);have hs6:=hK60.size;have HXH:Hid (X≠H):=by show X≠H;omega
  have HXV:Hid (X≠V):=by show X≠V;omega
  have hsW6:=hK6.size;clear hK60 hA5 hX5 hD5 hH5 hK5;have hmm:=@run_makeMap prog;have z0:=ξ hH6;have x0:=ξ hX6 0;simp only[zG,zH,zI] at x0;have fx0:=ω hX6 0;have hX6s:=ζ hX6;have hX6a:X<W6.heap.size+1:=by omega
  have hX6b:X<W6.heap.size+1+1:=by omega
  go_wp2
  go_end0
  obtain⟨U,hU,hKU,hAU,hCU,hVU,hXU,hsU⟩:∃ U,U=W6.setCell ⟨X,0,none⟩ (.pointer (some ⟨W6.heap.size+1+1,0,none⟩))∧Kp [A,C,X] w U∧U.heap[A]?=some (χ (l.length / 128) n C (.slice none 0 0) (nx c5) writes)∧U.heap[C]?=some (.cells (enc l) 87)∧U.heap[V]?=some (qB6 A n)∧U.heap[X]?=some (.cells #[.pointer (some ⟨W6.heap.size+1+1,0,none⟩)] 24)∧U.heap.size=W6.heap.size:=
   ⟨_,rfl,hK6.sc _,(qA6 (fun e=>HXA.out.1 e.symm) _ _).trans hA6,(qA6 (fun e=>HXA.out.2 e.symm) _ _).trans hC6,(qA6 (fun e=>HXV.out e.symm) _ _).trans hV6,ψ hX6 0 _,by simp[World.setCell]⟩
  rw[←hU];have e1:=ν U (.map #[] 0);have e2:=ν (U.alloc (.map #[] 0)) (τ 0 ⟨V,W6.heap.size,N,rb,rs,qC3 r,false,0,0⟩);have e3:=ν ((U.alloc (.map #[] 0)).alloc (τ 0 ⟨V,W6.heap.size,N,rb,rs,qC3 r,false,0,0⟩)) (.cells #[.pointer (some ⟨W6.heap.size+1,0,none⟩)] 95);rw[hsU] at e1;rw[show (U.alloc (.map #[] 0)).heap.size=W6.heap.size+1 from by simp[hsU]] at e2;rw[show ((U.alloc (.map #[] 0)).alloc (τ 0 ⟨V,W6.heap.size,N,rb,rs,qC3 r,false,0,0⟩)).heap.size=W6.heap.size+1+1 from by simp[hsU]] at e3;exact⟨.inl ⟨rfl,V,W6.heap.size,W6.heap.size+1,W6.heap.size+1+1,N,rb,rs,r,hVs,by omega,by omega,by omega,⟨θ _ (θ _ (θ _ hVU)),⟨_,θ _ (θ _ (θ _ hAU))⟩,θ _ (θ _ (θ _ hCU))⟩,θ _ (θ _ e1),θ _ e2,e3,θ _ (θ _ (θ _ hXU)),HR.out.1,HR.out.2,HVL.out⟩,((hKU.alloc _).alloc _).alloc _⟩
def Made0(w0 w:World)(A n C:Nat)(l:List UInt8)(writes:Int)(V M St Db:Nat)(N rb rs:Int)(r:Root):Prop:=
 w0.heap.size≤V∧w0.heap.size≤M∧w0.heap.size≤St∧w0.heap.size≤Db∧Devl V A n C l writes w∧w.heap[M]?=some (.map #[] 0)∧w.heap[St]?=some (τ 0 ⟨V,M,N,rb,rs,qC3 r,false,0,0⟩)∧w.heap[Db]?=some (.cells #[.pointer (some ⟨St,0,none⟩)] 95)∧Lie n l rb rs r∧RGood r∧qO4 N rb rs∧(qI8 l 0 N rb rs∨qI8 l 1 N rb rs)
theorem jK7(A n C:Nat)(calls writes:Int)(l:List UInt8)(w:World)(h:w.heap[A]?=some (χ (l.length / 128) n C (.slice none 0 0) calls writes))(h0:0≤calls)(h1:calls≤999999000)
  (h8:8≤n) (h400:n≤400) (hC:w.heap[C]?=some (.cells (enc l) 87)) (hs:n*128≤l.length) (hAC:C≠A):
  Calls prog 16 #[.pointer (some ⟨A,0,none⟩)] w fun e w'=>((∃ V M St Db N rb rs r,e=.returned (.tuple #[.pointer (some ⟨Db,0,none⟩),.nilIface])∧Made0 w w' A n C l writes V M St Db N rb rs r)∨
   ∃ F call,e=.returned (.tuple #[.pointer none,.iface 180 (.pointer (some ⟨F,0,none⟩))])∧w.heap.size≤F∧w'.heap[F]?=some (.cells #[.string call,.iface 46 (.int .i64 9)] 183)∧∃ c,w'.heap[A]?=some (χ (l.length / 128) n C (.slice none 0 0) c writes))∧Kp [A,C] w w':=by
 have hA:=ζ h;have hCs:=ζ hC;have HO:Hid (∀ D X W,W.heap[D]?=some (.cells #[.iface 23 (.pointer (some ⟨A,0,none⟩))] 129)→W.heap[X]?=some (.cells #[.pointer none] 24)→W.heap[A]?=some (χ (l.length / 128) n C (.slice none 0 0) calls writes)→W.heap[C]?=some (.cells (enc l) 87)→X≠A→X≠C→
  Calls prog 71 #[.pointer (some ⟨D,0,none⟩),.pointer (some ⟨X,0,none⟩)] W fun e w'=>((e=.returned (.tuple #[])∧
   (∃ V M St Db N rb rs r,W.heap.size≤V∧W.heap.size≤M∧W.heap.size≤St∧W.heap.size≤Db∧Devl V A n C l writes w'∧w'.heap[M]?=some (.map #[] 0)∧w'.heap[St]?=some (τ 0 ⟨V,M,N,rb,rs,qC3 r,false,0,0⟩)∧w'.heap[Db]?=some (.cells #[.pointer (some ⟨St,0,none⟩)] 95)∧w'.heap[X]?=some (.cells #[.pointer (some ⟨Db,0,none⟩)] 24)∧Lie n l rb rs r∧RGood r∧qO4 N rb rs∧(qI8 l 0 N rb rs∨qI8 l 1 N rb rs)))∨
   (e=.panicked cor∧w'.heap[X]?=some (.cells #[.pointer none] 24)∧(∃ c,w'.heap[A]?=some (χ (l.length / 128) n C (.slice none 0 0) c writes))))∧Kp [A,C,X] W w'):=fun D X W q1 q2 q3 q4 q5 q6=>jK5 D X A n C calls writes l W q1 q2 q3 h0 h1 h8 h400 q4 hs hAC q5 q6
 have hmf:=zM;go_enter func16,ntmps16
 go_wp2_with (go_at_call 42;go_in)
 obtain⟨W0,hW0,hK0,hs0⟩:∃ W0,W0=(w.alloc (.cells #[.iface 23 (.pointer (some ⟨A,0,none⟩))] 129)).alloc (.cells #[.pointer none] 24)∧Kp [] w W0∧W0.heap.size=w.heap.size+2:=⟨_,rfl,((Kp.refl _ _).alloc _).alloc _,by simp⟩;have hD0:W0.heap[w.heap.size]?=some (.cells #[.iface 23 (.pointer (some ⟨A,0,none⟩))] 129):=by rw[hW0];exact θ _ (ν _ _)
 have hX0:W0.heap[w.heap.size+1]?=some (.cells #[.pointer none] 24):=by
  rw[hW0];have e:=ν (w.alloc (.cells #[.iface 23 (.pointer (some ⟨A,0,none⟩))] 129)) (.cells #[.pointer none] 24);simpa using e
 rw[←hW0];clear hW0;have hA0:=hK0.hp h;have hC0:=hK0.hp hC;refine (xK4 71 _ _ 9 _ (fun w'=>(∃ V M St Db N rb rs r,W0.heap.size+2≤V∧W0.heap.size+2≤M∧W0.heap.size+2≤St∧W0.heap.size+2≤Db∧Devl V A n C l writes w'∧w'.heap[M]?=some (.map #[] 0)∧w'.heap[St]?=some (τ 0 ⟨V,M,N,rb,rs,qC3 r,false,0,0⟩)∧w'.heap[Db]?=some (.cells #[.pointer (some ⟨St,0,none⟩)] 95)∧w'.heap[w.heap.size+1]?=some (.cells #[.pointer (some ⟨Db,0,none⟩)] 24)∧Lie n l rb rs r∧RGood r∧qO4 N rb rs∧(qI8 l 0 N rb rs∨qI8 l 1 N rb rs))∧Kp [A,C] w w')
   (fun w'=>w'.heap[w.heap.size+1]?=some (.cells #[.pointer none] 24)∧(∃ c,w'.heap[A]?=some (χ (l.length / 128) n C (.slice none 0 0) c writes))∧Kp [A,C] w w') (fun W=>zP5 _ W) ?_).mono ?_
 ·refine (HO.out w.heap.size (w.heap.size+1) _ (θ _ (θ _ hD0)) (θ _ (θ _ hX0)) (θ _ (θ _ hA0)) (θ _ (θ _ hC0)) (by omega) (by omega)).mono ?_;rintro e w1 ⟨hres,hK1⟩;have hKw:Kp [A,C] w w1:=(((hK0.mono (S':=[A,C]) (by simp)).alloc _).alloc _).trans hK1 (by intro i hi hlt;simp at hi ⊢;omega);refine⟨?_,hK1.heap ?_ (by simp;omega),hK1.heap ?_ (by simp;omega)⟩
  ·rcases hres with⟨rfl,V,M,St,Db,N,rb,rs,r,hV,hM,hSt,hDb,q⟩|⟨rfl,q1,q2⟩
   ·exact .inl ⟨rfl,⟨V,M,St,Db,N,rb,rs,r,by simpa using hV,by simpa using hM,by simpa using hSt,by simpa using hDb,q⟩,hKw⟩
   ·exact .inr ⟨rfl,q1,q2,hKw⟩
  ·have e:=ν (W0.alloc (.cells #[.string ⟨#[79,112,101,110]⟩] 9)) (.cells #[.nilIface] 35);simpa using e
  ·exact θ _ (ν _ _)
 rintro e w2 hres;rcases hres with⟨rfl,w1,⟨⟨V,M,St,Db,N,rb,rs,r,hV,hM,hSt,hDb,r1,rm,r2,r3,r4,r5⟩,hK1⟩,rfl⟩|⟨F,rfl,hF2,w1,⟨q1,⟨c,q2⟩,hK1⟩,hF,hK2⟩
 ·have x0:=ξ r4 0;simp at x0;have HR:=Hid.mk' r5;clear r5;go_wp2
  go_ret2
  obtain⟨ca,hAd⟩:=r1.hA;exact⟨.inl ⟨V,M,St,Db,N,rb,rs,r,rfl,by omega,by omega,by omega,by omega,⟨(qA6 (by omega) _ _).trans r1.hV,⟨_,(qA6 (by omega) _ _).trans hAd⟩,(qA6 (by omega) _ _).trans r1.hC⟩,(qA6 (by omega) _ _).trans rm,(qA6 (by omega) _ _).trans r2,(qA6 (by omega) _ _).trans r3,HR.out⟩,hK1.setCell (Or.inr (by simp;omega)) _⟩
 ·have hX2:=hK2.ho q1;have hAf:=hK2.ho q2;have x0:=ξ hX2 0;simp at x0;have hs1:=hK1.size;go_wp2
  go_ret2
  exact⟨.inr ⟨F,_,rfl,by omega,hF2,c,hAf⟩,hK1.trans hK2 (by intro i hi hlt;simp at hi;omega)⟩
end Go.Proofs.YtdohpenfkdckiabGreatDoor
namespace Go.Proofs.YtdohpenfkdckiabGreatDoor
open Go.Proofs.Tryz
open Go.RowKit
open Go.Maps (Keyed)
theorem Made0.shop{w0 w:World}{A n C:Nat}{l:List UInt8}{writes:Int}{V M St Db:Nat}{N rb rs:Int}{r:Root}(h:Made0 w0 w A n C l writes V M St Db N rb rs r)(h8:8≤n)(h4:n≤400)(hs:n*128≤l.length):Shop0 w 25200 Db St A C n 0 ⟨V,M,N,rb,rs,qC3 r,false,0,0⟩ emp l writes r∧qC3 r≤800:=by
 obtain⟨_,_,_,_,q1,q2,q3,q4,hl,hg,hf,_⟩:=h;obtain⟨s1,s2⟩:=jD2 hl hg h4;exact⟨{ hDb:=q4,hSt:=q3,po:=rfl,hM:=⟨#[],0,q2,⟨by simp,MapKept.stamped_empty 0,by simp⟩,Nat.le_refl _,rfl⟩,m4:=by simp[emp,Maps.size],n1:=by omega,dev:=q1,N8:=h8,N4:=h4,len:=hs,lie:=hl,good:=hg,sz:=s2,bl0:=Int.natCast_nonneg _,bl1:=by have:=qU6 hg;show ((qC3 r:Nat):Int)≤_;omega,sN0:=hf.1,bg0:=Int.le_refl _,kb:=fun k hk=>by simp[emp,Maps.has] at hk,rd:=fun x h hk=>by simp[emp,Maps.has] at hk },s1⟩
end Go.Proofs.YtdohpenfkdckiabGreatDoor
namespace Go.Proofs.YtdohpenfkdckiabGreatDoor
open Go.Proofs.Tryz
open Go.RowKit
theorem zN0(ps:List KV):(qB5 ps).length≤ps.length:=by
 unfold qB5 qF9;rw[List.length_take];have:=List.length_filter_le (inR ⟨#[]⟩ qR8) ps;omega
theorem zS6{N:Nat}{l l':List UInt8}{a b:List KV}(h:TwoHeads N l a b)(hN:N≤1000)(h2:2≤N)(h1:∀ k,k<N→One (qA0 l k) (qA0 l' k)){M rb rs:Int}{r:Root}(hv:qI8 l' 0 M rb rs∨qI8 l' 1 M rb rs)(hl:Lie N l' rb rs r):r.cont=a∨r.cont=b:=by
 obtain⟨N0,rb0,rs0,N1,rb1,rs1,r0,r1,e0,e1,o0,o1,l0,g0,l1,g1,hc⟩:=h;rcases hv with hv|hv
 ·obtain⟨_,e2,e3⟩:=xD4 e0 o0 (h1 0 (by omega)) hv;rw[e2,e3] at hl;have e:=zX1 hN h1 l0 hl;rcases hc with⟨c1,c2⟩|⟨c1,c2⟩
  ·exact .inl (e.trans c1)
  ·exact .inr (e.trans c1)
 ·obtain⟨_,e2,e3⟩:=xD4 e1 o1 (h1 1 (by omega)) hv;rw[e2,e3] at hl;have e:=zX1 hN h1 l1 hl;rcases hc with⟨c1,c2⟩|⟨c1,c2⟩
  ·exact .inr (e.trans c2)
  ·exact .inl (e.trans c2)
theorem xR0(a b bit:Int)(ha0:-9223372036854775808≤a)(ha1:a≤9223372036854775807)(hb0:-9223372036854775808≤b)(hb1:b≤9223372036854775807)(hc0:-9223372036854775808≤bit)(hc1:bit≤9223372036854775807)(w:World)(h0s:0<w.heap.size)(hg:w.cell? ⟨0,0,none⟩=some qN7):
  Calls prog 7 #[.int .i64 a,.int .i64 b,.int .i64 bit] w fun e w'=>e=.returned (.bool true)∧Kp [] w w':=by
 have HG:Hid (0<w.heap.size∧w.cell? ⟨0,0,none⟩=some qN7):=⟨h0s,hg⟩;have HBT:Hid (-9223372036854775808≤bit∧bit≤9223372036854775807):=⟨hc0,hc1⟩;have HB:Hid (Calls prog 9 #[.int .i64 100,.int .i64 a] w fun e w'=>∃ db St A C s l wr nw v,e=.returned (.tuple #[.pointer (some ⟨A,0,none⟩),.pointer (some ⟨db,0,none⟩),v])∧Shop w' 300 db St A C 100 1 s emp l wr nw∧OPA w' w.heap.size v (qB5 nw.cont)∧s.wr=0∧s.bg=2∧s.N≤10∧nw.cont.length≤43∧(⟨qG4,qN5⟩:KV)∈nw.cont∧w.heap.size≤A∧w.heap.size≤C∧w.heap.size≤St∧w.heap.size≤db∧w.heap.size≤s.M∧Kp [] w w'∧TwoHeads 100 l [] nw.cont):=xX7 100 300 (by omega) (by omega) (by omega) (by omega) a ha0 ha1 w;clear h0s hg hc0 hc1;go_enter func7,ntmps7;go_wp2_with fail;refine (show Calls _ _ _ _ _ from HB.out).mono ?_;rintro e w1 ⟨db,St,A,C,s,l,wr,nw,v,rfl,hS1,ho1,hwr,hbg,hsN,hnw,_,gA,gC,gSt,gdb,gM,hK1,hTW⟩;have HS1:=zh hS1;obtain⟨ob,oc,rfl⟩:=qL0 ho1;obtain⟨sl,hsl⟩:∃ sl,sl=(qB5 nw.cont).length:=⟨_,rfl⟩;rw[←hsl] at ho1 ⊢;have HL:=zh hsl;have HO1:=zh ho1;have HK1:=zh hK1;have HTW:=zh hTW;clear hS1 ho1 hK1 HB hsl hTW;go_wp2_with fail;refine (zH2 b 20 hb0 hb1 (by omega) (by omega) w1).mono ?_;rintro e w1' ⟨⟨k,rfl,hk0,hk40⟩,hw⟩;rw[hw];clear hw w1';obtain⟨m,hm⟩:∃ m:Nat,(m:Int)=1+k:=⟨(1+k).toNat,by omega⟩;have HW:Hid (Calls prog 11 #[.pointer (some ⟨db,0,none⟩),.int .i64 b,.int .i64 (1+k)] w1 fun e w'=>∃ x t r v,e=.returned (.tuple #[.pointer (some ⟨x,0,none⟩),v])∧w1.heap.size≤x∧OPA w' w1.heap.size v (qB5 r.cont)∧r.cont.length≤63∧Kp [St,A] w1 w'∧Wrt w' 300 db St A C 100 1 s.wrote emp l wr nw x t r (s.bg+1)):=by
  rw[←hm];refine (zU7 HS1.out hwr (by omega) b hb0 hb1 m (by omega) (fun r' hg hz=>?_)).mono ?_
  ·have h1:=qU7 hg;have h2:=HS1.out.bl1;omega
  ·rintro e w' ⟨x,t,r,v,e1,e0,e2,e5,_,_,e3,e4⟩;exact⟨x,t,r,v,e1,e0,e2,by omega,e3,e4⟩
 clear hm;go_wp2_with fail;refine (show Calls _ _ _ _ _ from HW.out).mono ?_;rintro e w2 ⟨x,t,r,v2,rfl,hx2,ho2,hr2,hK2,hW2⟩;have hs1:=HK1.out.size;have HO2:Hid (OPA w2 w.heap.size (.slice ob sl oc) (qB5 nw.cont)):=OPA.keep HO1.out hK2 (fun k hk=>HS1.out.nopair k (by simp at hk ⊢;rcases hk with h | h<;>simp[h]));have HK2:Hid (Kp [] w w2):=HK1.out.trans hK2 (by intro i hi hlt;simp at hi;omega);have HP2:Hid (OPA w2 w.heap.size v2 (qB5 r.cont)):=qI7 ho2 (by omega);obtain⟨pb,pc,rfl⟩:=qL0 ho2;obtain⟨pl,hpl⟩:∃ pl,pl=(qB5 r.cont).length:=⟨_,rfl⟩;rw[←hpl] at HP2 ⊢;have HPL:=zh hpl;have HC:Hid (Calls prog 14 #[.pointer (some ⟨x,0,none⟩)] w2 fun e w'=>e=.returned .nilIface∧∃ l' wr' c,w'.heap[A]?=some (χ (l'.length / 128) 100 C (.slice none 0 0) c wr')∧w'.heap[C]?=some (.cells (enc l') 87)∧100*128≤l'.length∧(TwoHeads 100 l' [] nw.cont∨TwoHeads 100 l' nw.cont r.cont)∧Kp [St,x,s.M,A,C] w2 w'):=by
  have h1:=qU7 hW2.live.good;have h2:=qU6 hW2.live.good;have h3:=qU6 hW2.shop.good;have h4:Maps.size emp=0:=by simp[emp,Maps.size]
  refine (hW2.shop.commits hW2.live hW2.st hW2.wrt (by rw[hW2.nr];omega) (by rw[hW2.nr];omega) (by omega) (by show s.N≤_;omega) (by rw[h4];omega)).mono ?_;rintro e w' ⟨c0,s',l',wr',nt,c1,c2,c3,c4,c5,c6,c7,c8,c9,c10⟩;obtain⟨c,hA⟩:=c1.hA;refine⟨c0,l',wr',c,hA,c1.dev.hC,c1.len,?_,c9⟩;rcases c10.two with h|⟨h,_⟩
  ·exact .inr h
  ·rw[h];exact .inl HTW.out
 have HN2:Hid (∀ k∈[St,x,s.M,A,C],∀ c fr,w2.heap[k]?≠some (.cells c 64 fr)):=by
  show ∀ k∈[St,x,s.M,A,C],∀ c fr,w2.heap[k]?≠some (.cells c 64 fr);intro k hk c fr e;have hnp:=hW2.shop.nopair;simp only[List.mem_cons,List.not_mem_nil,or_false] at hk;rcases hk with rfl|rfl|rfl|rfl|rfl
  ·exact hnp _ (by simp) c fr e
  ·rw[hW2.live.hx] at e;simp[qA9] at e
  ·exact hnp s.M (by simp[Sto.wrote]) c fr e
  ·exact hnp _ (by simp) c fr e
  ·exact hnp _ (by simp) c fr e
 have HX2:=zh hx2;clear hK2 hW2 HW HO1 ho2 hpl hx2;go_wp2_with fail;refine (show Calls _ _ _ _ _ from HC.out).mono ?_;rintro e w3 ⟨rfl,l',wr',c3,hA3,hC3,hl3,hT3,hK3⟩;have hs2:=HK2.out.size;have HO3:Hid (OPA w3 w.heap.size (.slice ob sl oc) (qB5 nw.cont)):=OPA.keep HO2.out hK3 HN2.out;have HP3:Hid (OPA w3 w.heap.size (.slice pb pl pc) (qB5 r.cont)):=OPA.keep HP2.out hK3 HN2.out;have HK3:Hid (Kp [] w w3):=HK2.out.trans hK3 (by intro i hi hlt;have:=HX2.out;simp at hi;omega);have HT3:=zh hT3;have HTU:Hid (Calls prog 31 #[.pointer (some ⟨A,0,none⟩),.int .i64 bit] w3 fun e w'=>∃ A' C' l2,e=.returned (.pointer (some ⟨A',0,none⟩))∧w3.heap.size≤A'∧w3.heap.size≤C'∧C'≠A'∧w'.heap[A']?=some (χ (l2.length / 128) 100 C' (.slice none 0 0) 0 0)∧w'.heap[C']?=some (.cells (enc l2) 87)∧100*128≤l2.length∧(∀ k,k<100→One (qA0 l' k) (qA0 l2 k))∧Kp [] w3 w'):=jR5 A 100 C c3 wr' bit l' w3 hA3 (by omega) (by omega) hC3 hl3 HBT.out.1 HBT.out.2;clear hK3 hA3 hC3 hl3 hT3 HC HO2 HP2 HN2 HK2 HS1 HTW;go_wp2_with fail;refine (show Calls _ _ _ _ _ from HTU.out).mono ?_;rintro e w4 ⟨A4,C4,l2,rfl,gA4,gC4,hne4,hA4,hC4,hl4,h14,hK4⟩;have hs3:=HK3.out.size;have HO4:Hid (OPA w4 w.heap.size (.slice ob sl oc) (qB5 nw.cont)):=OPA.keep HO3.out hK4 (by simp);have HP4:Hid (OPA w4 w.heap.size (.slice pb pl pc) (qB5 r.cont)):=OPA.keep HP3.out hK4 (by simp);have HK4:Hid (Kp [] w w4):=HK3.out.tr hK4;have HOP:Hid (Calls prog 16 #[.pointer (some ⟨A4,0,none⟩)] w4 fun e w'=>((∃ V M St Db N rb rs r,e=.returned (.tuple #[.pointer (some ⟨Db,0,none⟩),.nilIface])∧Made0 w4 w' A4 100 C4 l2 0 V M St Db N rb rs r)∨
   ∃ F call,e=.returned (.tuple #[.pointer none,.iface 180 (.pointer (some ⟨F,0,none⟩))])∧w4.heap.size≤F∧w'.heap[F]?=some (.cells #[.string call,.iface 46 (.int .i64 9)] 183)∧∃ c,w'.heap[A4]?=some (χ (l2.length / 128) 100 C4 (.slice none 0 0) c 0))∧Kp [A4,C4] w4 w'):=jK7 A4 100 C4 0 0 l2 w4 hA4 (by omega) (by omega) (by omega) (by omega) hC4 hl4 hne4
 have HN4:Hid (∀ k∈[A4,C4],∀ c fr,w4.heap[k]?≠some (.cells c 64 fr)):=by
  show ∀ k∈[A4,C4],∀ c fr,w4.heap[k]?≠some (.cells c 64 fr);intro k hk c fr e;simp only[List.mem_cons,List.not_mem_nil,or_false] at hk;rcases hk with rfl|rfl
  ·rw[hA4] at e;simp[χ] at e
  ·rw[hC4] at e;simp at e
 have HD4:Hid (100*128≤l2.length∧(∀ k,k<100→One (qA0 l' k) (qA0 l2 k))):=⟨hl4,h14⟩;clear hA4 hC4 hK4 hl4 h14 HTU HO3 HP3 HK3;go_wp2_with fail;refine (show Calls _ _ _ _ _ from HOP.out).mono ?_;rintro e w5 ⟨hres,hK5⟩;have hs4:=HK4.out.size;have HO5:Hid (OPA w5 w.heap.size (.slice ob sl oc) (qB5 nw.cont)):=OPA.keep HO4.out hK5 HN4.out;have HP5:Hid (OPA w5 w.heap.size (.slice pb pl pc) (qB5 r.cont)):=OPA.keep HP4.out hK5 HN4.out;have HK5:Hid (Kp [] w w5):=HK4.out.trans hK5 (by intro i hi hlt;simp at hi;omega);have hs5:=hK5.size;clear hK5 HOP HO4 HP4 HK4 HN4;rcases hres with⟨V,M,St2,Db,N,rb,rs,r2,rfl,hM0⟩|⟨F,call,rfl,hF,hF2,_⟩
 ·obtain⟨hS0,hr8⟩:=hM0.shop (by omega) (by omega) HD4.out.1;have hM0':=hM0;obtain⟨m1,m2,m3,m4,_,_,_,_,m9,_,_,m12⟩:=hM0';have HCONT:Hid (r2.cont=[]∨r2.cont=nw.cont∨r2.cont=r.cont):=by
   rcases HT3.out with h|h
   ·rcases zS6 h (by omega) (by omega) HD4.out.2 m12 m9 with e|e
    ·exact .inl e
    ·exact .inr (.inl e)
   ·rcases zS6 h (by omega) (by omega) HD4.out.2 m12 m9 with e|e
    ·exact .inr (.inl e)
    ·exact .inr (.inr e)
  have HNOW:Hid (Calls prog 17 #[.pointer (some ⟨Db,0,none⟩)] w5 fun e w'=>∃ v,e=.returned (.tuple #[v,.bool true])∧OPA w' w5.heap.size v (qB5 r2.cont)∧Kp [St2,M,A4] w5 w'):=by
   refine (jA8 hS0 (by simp[emp,Maps.size]) (by omega) (by show (0:Int)≤_;omega) (by show (0:Int)≤0;omega) ⟨by omega,by show ((qC3 r2:Nat):Int)≤1000;omega⟩).mono ?_;rintro e w' ⟨v,e1,e2,_,e3⟩;exact⟨v,e1,e2,e3⟩
  have HN5:Hid (∀ k∈[St2,M,A4],∀ c fr,w5.heap[k]?≠some (.cells c 64 fr)):=by
   show ∀ k∈[St2,M,A4],∀ c fr,w5.heap[k]?≠some (.cells c 64 fr);intro k hk c fr e;obtain⟨cA,hA⟩:=hS0.hA;simp only[List.mem_cons,List.not_mem_nil,or_false] at hk;rcases hk with rfl|rfl|rfl
   ·rw[hS0.hSt] at e;simp[τ] at e
   ·exact absurd rfl (qE3 e hS0.hM)
   ·rw[hA] at e;simp[χ] at e
  have HM:Hid (w4.heap.size≤St2∧w4.heap.size≤M∧w.heap.size≤w4.heap.size):=⟨m3,m2,hs4⟩;have HSZ:=zh hS0.sz;clear hM0 hS0 hr8 m1 m2 m3 m4 m9 m12;go_wp2_with fail;refine (show Calls _ _ _ _ _ from HNOW.out).mono ?_;rintro e w6 ⟨v6,rfl,ho6,hK6⟩;have HO6:Hid (OPA w6 w.heap.size (.slice ob sl oc) (qB5 nw.cont)):=OPA.keep HO5.out hK6 HN5.out;have HP6:Hid (OPA w6 w.heap.size (.slice pb pl pc) (qB5 r.cont)):=OPA.keep HP5.out hK6 HN5.out;have HK6:Hid (Kp [] w w6):=HK5.out.trans hK6 (by intro i hi hlt;have:=HM.out;simp at hi;omega);have HQ6:=zh ho6;have hal:(qB5 r2.cont).length≤1000000:=by have:=zN0 r2.cont;have:=HSZ.out;omega
  have HS1:Hid (Calls prog 18 #[v6,.slice ob sl oc] w6 fun e w'=>e=.returned (.bool (decide (qB5 r2.cont=qB5 nw.cont)))∧Kp [] w6 w'):=zU6 _ _ _ _ _ _ w6 ho6 HO6.out hal;obtain⟨ob6,oc6,rfl⟩:=qL0 ho6;obtain⟨ql,hql⟩:∃ ql,ql=(qB5 r2.cont).length:=⟨_,rfl⟩;rw[←hql] at HS1 HQ6 ⊢;have HQL:=zh hql;have HAL:=zh hal;clear ho6 hK6 HNOW HO5 HP5 HK5 HN5 hql hal;go_wp2_with fail;refine (show Calls _ _ _ _ _ from HS1.out).mono ?_;rintro e w7 ⟨rfl,hK7⟩;have HS2:Hid (Calls prog 18 #[.slice ob6 ql oc6,.slice pb pl pc] w7 fun e w'=>e=.returned (.bool (decide (qB5 r2.cont=qB5 r.cont)))∧Kp [] w7 w'):=zU6 _ _ _ _ _ _ w7 (OPA.keep HQ6.out hK7 (by simp)) (OPA.keep HP6.out hK7 (by simp)) HAL.out;have HK7:Hid (Kp [] w w7):=HK6.out.tr hK7;obtain⟨q1,hq1⟩:∃ q1,q1=decide (qB5 r2.cont=qB5 nw.cont):=⟨_,rfl⟩;rw[←hq1];have HQ1:=zh hq1;clear hK7 HS1 HO6 HP6 HK6 HQ6 hq1;go_wp2_with fail;refine (show Calls _ _ _ _ _ from HS2.out).mono ?_;rintro e w8 ⟨rfl,hK8⟩;have HK8:Hid (Kp [] w w8):=HK7.out.tr hK8;obtain⟨q2,hq2⟩:∃ q2,q2=decide (qB5 r2.cont=qB5 r.cont):=⟨_,rfl⟩;rw[←hq2];have HOR:Hid (q1=true∨q2=true∨ql=0):=by
   rcases HCONT.out with e|e|e
   ·refine .inr (.inr ?_);have:=zN0 r2.cont;rw[HQL.out,e];rfl
   ·exact .inl (by rw[HQ1.out,e];simp)
   ·exact .inr (.inl (by rw[hq2,e];simp))
  clear hK8 HS2 HK7 hq2;rcases HOR.out with h|h|h
  ·subst h;go_wp2;go_ret;exact⟨rfl,HK8.out⟩
  ·subst h;cases q1
   all_goals
    go_wp2;go_ret;exact⟨rfl,HK8.out⟩
  ·subst h;cases q1<;>cases q2
   all_goals
    go_wp2;go_ret;exact⟨rfl,HK8.out⟩
 ·have hg5:w5.cell? ⟨0,0,none⟩=some qN7:=by
   have h:=HG.out;exact Kp.zero HK5.out h.1 h.2
  have HTD:Hid (Calls prog 21 #[.iface 180 (.pointer (some ⟨F,0,none⟩))] w5 fun e w'=>e=.returned (.int .i64 9)∧Kp [] w5 w'):=jR1 F call 9 w5 hg5 hF2;clear hF2 hg5;go_wp2_with fail;refine (show Calls _ _ _ _ _ from HTD.out).mono ?_;rintro e w6 ⟨rfl,hK6⟩;have HK6:Hid (Kp [] w w6):=HK5.out.tr hK6;clear hK6 HTD;go_wp2;go_ret;exact⟨rfl,HK6.out⟩
end Go.Proofs.YtdohpenfkdckiabGreatDoor
namespace Go.Proofs.YtdohpenfkdckiabGreatDoor
open Go.Proofs.Tryz
open Go.ChangeShapes Go.WideShapes Go.RowKit Go.Deep
theorem zM0{n:Int}(h:(Lit.int .i64 n).wf=true):-9223372036854775808≤n∧n≤9223372036854775807:=by
 simp[Lit.wf,IntKind.min,IntKind.max,IntKind.bits,IntKind.signed] at h;omega
theorem jB5:laidOutB prog=true:=by kernel_rfl
theorem jN7:ownKnob prog.godebug=none:=by kernel_rfl
theorem jN4:prog.globalNamed "errors.errorType"=some 0:=by kernel_rfl
theorem jN8:(prog.cutTypes.find? (·.1 == "internal/reflectlite.rtype")).map (·.2)=some 196:=by kernel_rfl
theorem jN6:((List.range 345).filter fun t=>prog.rowNamed t [101,114,114,111,114])=[35]:=by kernel_rfl
theorem jN9:prog.types.size=345:=by kernel_rfl
theorem xU3{W:World}(h:laidMetH prog Rows.flippedRow.laid W):W.cell? ⟨0,0,none⟩=some qN7:=by
 have h':laidMet prog (Rows.flippedRow.laid.filter fun x=>x.2.handleName?.isNone) W∧handlesMet prog [("errors.errorType",Rows.laid_errors_errorType)] W:=h;obtain⟨name,u,ty,e1,e2,e3,e4,e5⟩:=h'.2 _ (List.mem_singleton.2 rfl);have en:name=[101,114,114,111,114]:=(Option.some.inj e1).symm;subst en;obtain rfl:=Option.some.inj (jN8.symm.trans e2);have hm:ty∈(List.range 345).filter fun t=>prog.rowNamed t [101,114,114,111,114]:=List.mem_filter.2 ⟨List.mem_range.2 (by rw[←jN9];exact e3),e4⟩;rw[jN6] at hm;obtain rfl:=List.mem_singleton.1 hm;have hh:typeHandle prog 35=.pointer (some ⟨5,35,none⟩):=by kernel_rfl
 rw[hh] at e5;simpa [qN7] using World.var?_cell jN4 e5 0
theorem jO0(os:Os)(H:Type)(enc:TypeId × Value→H):
  ∃ (w:World) (tape:Tape) (i:Input),w.os=os∧(w.forCall tape i).Shaped prog∧i.vars=[]∧Input.okWide prog (w.forCall tape i) .any w.heap.size 7 i∧
   ((Rows.flippedSpec.pre enc prog f7 [] false (w.forCall tape i).memory i.args∧laidMetH prog Rows.flippedRow.laid (w.forCall tape i).memory)∧sizedMet enc prog f7 (OpenSpec.ofChange Rows.flippedSpec) false (w.forCall tape i).memory i.args)∧({}:Assume).holds prog (lone (Frame.enter prog 7 i.args .normal) [] (w.forCall tape i)):=
 ChangeSpec.witness_at (enc:=enc) (C:=checked) (os:=os) (X:=fun w _=>laidMetH prog Rows.flippedRow.laid w) false ({ World.laidAll prog os (Rows.flippedRow.laid.filter fun x=>x.2.handleName?.isNone) with heap:=(World.laidAll prog os (Rows.flippedRow.laid.filter fun x=>x.2.handleName?.isNone)).heap.modify 0 fun o=>match o with | .cells _ t frozen=>.cells #[qN7] t frozen | o=>o }) #[.int .i64 0,.int .i64 0,.int .i64 0] 8 rfl (by kernel_rfl) (by kernel_rfl) (by kernel_rfl) (by kernel_rfl) (by kernel_rfl) (laidMetH_of_parts (laidMet_of_run' 8 (by kernel_rfl) (by kernel_rfl)) (by kernel_rfl))
end Go.Proofs.YtdohpenfkdckiabGreatDoor
namespace Go.Proofs.YtdohpenfkdckiabGreatDoor
open Go.Proofs.Tryz
open Go Go.ChangeShapes Go.WideShapes Go.RowKit Go.Deep
theorem xQ9(os:Os)(started:os.Started)(H:Type)(enc:TypeId × Value→H):
  ReturnsInHanded {} checked os 7 .any (fun w args=>(Rows.flippedSpec.pre enc prog f7 [] false w args∧laidMetH prog Rows.flippedRow.laid w)∧sizedMet enc prog f7 (OpenSpec.ofChange Rows.flippedSpec) false w args)
   (Rows.flippedSpec.post enc prog f7 false true false false):=by
 refine returnsInHanded_of_change_and (C:=checked) (X:=fun w _=>laidMetH prog Rows.flippedRow.laid w) (fun _ _ _ hh h=>h.of_heap hh) jN7 started (by kernel_rfl) func7 (jO0 os H enc) ?_;intro W base args ds gs before hval0 hW _ _ hL _;have hval:∀ (j:Nat) t v,f7.params[j]?=some t→args[j]?=some v→Value.okWide prog W .any base t v:=hval0;have hW':=hW;obtain⟨p,q,hA0,hV,rfl,_,_⟩:=hW;have hA:DataW.TrodAll enc prog W 0 (fun _=>true) true f7.params.toList args.toList ds p:=hA0;rw[params7] at hA hval;obtain⟨v0,v1,v2,d0,d1,d2,p0,p1,p2,rfl,rfl,rfl,h0,h1,h2⟩:=trodAll_three hA;obtain⟨rfl,rfl⟩:=trodVars_none hV;clear hA0 hval0;simp only[List.append_nil] at hW';obtain⟨a,rfl,rfl,rfl,wa⟩:=open_int underlying3 (hval 0 3 v0 rfl rfl) h0;obtain⟨b,rfl,rfl,rfl,wb⟩:=open_int underlying3 (hval 1 3 v1 rfl rfl) h1;obtain⟨c,rfl,rfl,rfl,wc⟩:=open_int underlying3 (hval 2 3 v2 rfl rfl) h2;have hg:=xU3 hL;have h0s:0<W.heap.size:=by
  unfold World.cell? at hg
  cases hb:W.heap[0]? with
  | none=>simp[hb] at hg
  | some o=>exact ζ hb
 have e1:Rows.flippedSpec.fn H ([.lit (.int .i64 a),.lit (.int .i64 b),.lit (.int .i64 c)]++[])={ results:=[.lit (.bool true)],args:=[.lit (.int .i64 a),.lit (.int .i64 b),.lit (.int .i64 c)] }:=by simp[Rows.flippedSpec]
 obtain⟨ha0,ha1⟩:=zM0 wa;obtain⟨hb0,hb1⟩:=zM0 wb;obtain⟨hc0,hc1⟩:=zM0 wc;refine (xR0 a b c ha0 ha1 hb0 hb1 hc0 hc1 W h0s hg).mono fun e W' ⟨he,hK⟩=>?_;subst he;have hb:Below W.heap.size W W':=hK.below (Nat.le_refl _) (by simp);refine⟨_,rfl,_,_,_,[],[],[],hW',?_,?_,?_,hb.frame _,fun h=>by cases h⟩
 ·rw[e1];exact trodAll_mk1 (shut_bool underlying4 true)
 ·rw[e1];exact trodAll_mk3 (shut_int underlying3 wa) (shut_int underlying3 wb) (shut_int underlying3 wc)
 ·rw[e1];rfl
end Go.Proofs.YtdohpenfkdckiabGreatDoor
