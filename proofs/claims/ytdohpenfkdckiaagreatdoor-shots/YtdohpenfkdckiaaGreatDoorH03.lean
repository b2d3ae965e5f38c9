import Derived.Test.YtdohpenfkdckiaaGreatDoorB20
import Derived.Test.YtdohpenfkdckiaaGreatDoorH02
import Derived.Test.YtdohpenfkdckiaaGreatDoorRows
import Derived.ChangeSame
import Derived.ChangeVars
import Derived.JoinedOf
import Derived.RowKit
import Derived.LaidLaws
import Derived.LaidHandle
import Derived.Deep.Slices
import Derived.Stop.Joined
import Derived.Lay
set_option linter.all false
set_option maxRecDepth 100000
set_option maxHeartbeats 20000000
namespace Go.Proofs.YtdohpenfkdckiaaGreatDoor
open Go.Proofs.Tryz
open Go.RowKit
theorem zB0(Tc Kc Wc x:Nat)(t:Tx)(w:World)(hTc:w.heap[Tc]?=some (.cells #[.pointer (some ⟨x,0,none⟩)] 32))(hx:w.heap[x]?=some (χ t))(hwr:t.wrt=false):
  Calls prog 100 #[.pointer (some ⟨Tc,0,none⟩),.pointer (some ⟨Kc,0,none⟩),.pointer (some ⟨Wc,0,none⟩)] w fun e w'=>e=qC4 (some 6)∧w'=w:=by
 have hs:=ζ hTc;have hxs:=ζ hx;have c0:=ξ hTc 0;simp only[zG,zH,zI] at c0;have x2:=ξ hx 2;simp only[χ,zG,zH,zI] at x2;rw[hwr] at x2;go_enter func100,ntmps100;go_wp2;exact⟨rfl,rfl,rfl,rfl⟩
theorem qZ4(Tc Kc Wc x:Nat)(t:Tx)(k:ByteArray)(w:World)(hTc:w.heap[Tc]?=some (.cells #[.pointer (some ⟨x,0,none⟩)] 32))(hKc:w.heap[Kc]?=some (.cells #[.string k] 9))(hx:w.heap[x]?=some (χ t))(hwr:t.wrt=true)(hk:k.size<1∨8<k.size):
  Calls prog 100 #[.pointer (some ⟨Tc,0,none⟩),.pointer (some ⟨Kc,0,none⟩),.pointer (some ⟨Wc,0,none⟩)] w fun e w'=>e=qC4 (some 1)∧w'=w:=by
 have hs:=ζ hTc;have hxs:=ζ hx;have hks:=ζ hKc;have c0:=ξ hTc 0;simp only[zG,zH,zI] at c0;have k0:=ξ hKc 0;simp only[zG,zH,zI] at k0;have x2:=ξ hx 2;simp only[χ,zG,zH,zI] at x2;rw[hwr] at x2;have HK:=zh hk;clear hk;go_enter func100,ntmps100;go_wp2_with fail;refine (zC7 k _ HK.out).mono ?_;rintro e w1 ⟨rfl,rfl⟩;simp only[qC4];go_wp2;exact⟨rfl,rfl,rfl⟩
theorem qN8(j:Int)(Tc Kc Wc x f:Nat)(t:Tx)(key:ByteArray)(first cap:Array Value)(R:World→Prop)(w:World)(hTc:w.heap[Tc]?=some (.cells #[.pointer (some ⟨x,0,none⟩)] 32))(hKc:w.heap[Kc]?=some (.cells #[.string key] 9))(hWc:w.heap[Wc]?=some (.cells #[.func (.func f) first cap] 1))(hx:w.heap[x]?=some (χ t))(hwr:t.wrt=true)(hk1:1≤key.size)(hk8:key.size≤8)
  (hcf:∀ W:World,Sem.run prog (callFunc f (first++cap)) W=.ok (.enter f (first++cap)) W)
  (hw:Calls prog f (first++cap) w fun e w'=>e=qC4 (some j)∧R w'):
  Calls prog 100 #[.pointer (some ⟨Tc,0,none⟩),.pointer (some ⟨Kc,0,none⟩),.pointer (some ⟨Wc,0,none⟩)] w fun e w'=>e=qC4 (some j)∧R w':=by
 have hs:=ζ hTc;have hxs:=ζ hx;have hks:=ζ hKc;have hws:=ζ hWc;have c0:=ξ hTc 0;simp only[zG,zH,zI] at c0;have k0:=ξ hKc 0;simp only[zG,zH,zI] at k0;have f0:=ξ hWc 0;simp only[zG,zH,zI] at f0;have x2:=ξ hx 2;simp only[χ,zG,zH,zI] at x2;rw[hwr] at x2;have HW:=zh hw;clear hw;go_enter func100,ntmps100;go_wp2_with fail;refine (zT4 key _ hk1 hk8).mono ?_;rintro e w1 ⟨rfl,rfl⟩;simp only[qC4];go_wp2_with fail;refine (show Calls _ _ _ _ _ from HW.out).mono ?_;rintro e w1 ⟨rfl,hR⟩;have HR:=zh hR;clear hR;simp only[qC4];go_wp2;exact⟨rfl,rfl,HR.out⟩
theorem zC3(E:SEnv)(j:Int)(hj:j≠8)(x A n f:Nat)(t:Tx)(s:Sto)(r:Root)(key call:ByteArray)(first cap:Array Value)(w:World)(hL:LiveT E w x A n t s r)
  (hw:∀ (W:World) (Tc Kc Wc:Nat),Kp [t.St] w W→E.Dev W→W.heap[x]?=some (χ t)→W.heap[t.St]?=some (ν 1 s)→W.heap[Tc]?=some (.cells #[.pointer (some ⟨x,0,none⟩)] 32)→W.heap[Kc]?=some (.cells #[.string key] 9)→W.heap[Wc]?=some (.cells #[.func (.func f) first cap] 1)→
   Calls prog 100 #[.pointer (some ⟨Tc,0,none⟩),.pointer (some ⟨Kc,0,none⟩),.pointer (some ⟨Wc,0,none⟩)] W fun e w1=>e=qC4 (some j)∧E.To W w1):
  Calls prog 61 #[.pointer (some ⟨x,0,none⟩),.string call,.string key,.func (.func f) first cap] w fun e w'=>∃ v,e=.returned v∧ErrV w' v (some j)∧BadT E w w' t s:=by
 refine (xF5 (some j) (by simpa using hj) x f t s key call first cap E.S (fun W w1=>E.To W w1∧w1.heap[t.St]?=some (ν 1 s)) w hL.hx hL.over hL.hSt hL.po hL.xS (fun i hi=>E.low w hL.dev i hi) ?_).mono ?_
 ·intro W Tc Kc Wc hK _ _ _ hS hT hKc hWc;have hx:=hK.heap hL.hx (by simp;exact hL.xS);have hd:=hL.devS hK;refine (hw W Tc Kc Wc hK hd hx hS hT hKc hWc).mono ?_;rintro e w1 ⟨rfl,hT1⟩;have hS1:=E.stay hd hT1 hS (by decide);exact⟨rfl,⟨hT1,hS1⟩,hT1.kp.mono (by simp +contextual),hS1⟩
 ·rintro e w' ⟨v,rfl,hv,hSt,hK,W,w1,B,⟨hT1,hS1⟩,hKW,hB1,hB2,hB3,hKB⟩;exact⟨v,rfl,hv,E.keepX w1 w' _ hT1.dev hKB (qP0 hS1 hB3),hSt,hK⟩
theorem BadT.from{E:SEnv}{w w0 w':World}{t:Tx}{s:Sto}(hK:Kp [] w w0)(h:BadT E w0 w' t s):BadT E w w' t s:=
 { h with kp:=(hK.mono (by simp)).trans h.kp (fun _ h _=>h) }
def qB4(t:Tx)(p:KV)(full:Bool):Option Int:=
 if t.wrt=false then some 6 else if qM2 p.k=false then some 1 else if 12<p.v.size then some 2 else if full then some 3 else none
theorem zI7{k:ByteArray}(h:qM2 k=false):k.size<1∨8<k.size:=by
 have:=mt (zC6 k).2 (by simp[h]);omega
theorem zN6(E:SEnv)(x A n:Nat)(t:Tx)(s:Sto)(r:Root)(p:KV)(j:Int)(w:World)(hL:LiveT E w x A n t s r)(hj:qB4 t p (decide ((n:Int)-2-s.bl<((r.put p).news:Int)))=some j):
  Calls prog 34 #[.pointer (some ⟨x,0,none⟩),.string p.k,.string p.v] w fun e w'=>∃ v,e=.returned v∧ErrV w' v (some j)∧BadT E w w' t s:=by
 have HL:=zh hL;have HJ:=zh hj;have hxs:=ζ hL.hx;have hSs:=ζ hL.hSt;clear hL hj;have hmf:=zM;go_enter func34,ntmps34;go_wp2_with fail;obtain⟨w0,hw0,hT0,hK0,hV0,hKp0,hs0⟩:∃ w0,w0=((w.alloc (.cells #[.pointer (some ⟨x,0,none⟩)] 32)).alloc (.cells #[.string p.k] 9)).alloc (.cells #[.string p.v] 9)∧w0.heap[w.heap.size]?=some (.cells #[.pointer (some ⟨x,0,none⟩)] 32)∧w0.heap[w.heap.size+1]?=some (.cells #[.string p.k] 9)∧w0.heap[w.heap.size+2]?=some (.cells #[.string p.v] 9)∧Kp [] w w0∧w0.heap.size=w.heap.size+3:=by
  refine⟨_,rfl,θ _ (θ _ (κ _ _)),θ _ ?_,?_,(((Kp.refl _ _).alloc _).alloc _).alloc _,by simp⟩
  ·have e:=κ (w.alloc (.cells #[.pointer (some ⟨x,0,none⟩)] 32)) (.cells #[.string p.k] 9);simpa using e
  ·have e:=κ ((w.alloc (.cells #[.pointer (some ⟨x,0,none⟩)] 32)).alloc (.cells #[.string p.k] 9)) (.cells #[.string p.v] 9);simpa using e
 rw[←hw0];clear hw0;have hj8:j≠8:=by
  have h:=HJ.out;unfold qB4 at h
  repeat' split at h
  all_goals first | (cases h;decide) | cases h
 refine (zC3 E j hj8 x A n 72 t s r p.k _ #[] #[.pointer (some ⟨w.heap.size+2,0,none⟩),.pointer (some ⟨w.heap.size,0,none⟩),.pointer (some ⟨w.heap.size+1,0,none⟩)] w0 (HL.out.more hKp0) ?_).mono ?_
 ·intro W Tc Kc Wc hK hd hx hS hTc hKc hWc;have h:=HJ.out;unfold qB4 at h;by_cases hwr:t.wrt=false
  ·rw[if_pos hwr] at h;cases h;exact (zB0 Tc Kc Wc x t W hTc hx hwr).mono fun e w' ⟨a,b⟩=>⟨a,by rw[b];exact Env.To.of0 hd (Kp.refl _ _)⟩
  ·rw[if_neg hwr] at h;have hwr':t.wrt=true:=by simpa using hwr
   by_cases hk:qM2 p.k=false
   ·rw[if_pos hk] at h;cases h;exact (qZ4 Tc Kc Wc x t p.k W hTc hKc hx hwr' (zI7 hk)).mono fun e w' ⟨a,b⟩=>⟨a,by rw[b];exact Env.To.of0 hd (Kp.refl _ _)⟩
   ·rw[if_neg hk] at h;have hk':=(zC6 p.k).1 (by simpa using hk);by_cases hv:12<p.v.size
    ·rw[if_pos hv] at h;cases h;refine qN8 2 Tc Kc Wc x 72 t p.k #[] _ (fun w1=>E.To W w1) W hTc hKc hWc hx hwr' hk'.1 hk'.2 (zT2 _) ?_;exact (zN4 (w.heap.size+2) w.heap.size (w.heap.size+1) p.v W (hK.ho hV0) hv).mono fun e w' ⟨a,b⟩=>⟨a,by rw[b];exact Env.To.of0 hd (Kp.refl _ _)⟩
    ·rw[if_neg hv] at h;by_cases hr:(n:Int)-2-s.bl<((r.put p).news:Int)
     ·rw[if_pos (by simpa using hr)] at h;cases h;refine qN8 3 Tc Kc Wc x 72 t p.k #[] _ (fun w1=>E.To W w1) W hTc hKc hWc hx hwr' hk'.1 hk'.2 (zT2 _) ?_;have hV:=hK.heap (hKp0.hp HL.out.hV) (by simp;exact fun e=>qA7 HL.out.hV HL.out.hSt (by decide) e);have hrr:=(HL.out.more hKp0).rr.keepT hK (Apt.one (hKp0.hp HL.out.hSt) (by decide));exact zN5 E (w.heap.size+2) w.heap.size (w.heap.size+1) x A n t s r p W ⟨hK.ho hV0,hK.ho hT0,hK.ho hK0,hx,HL.out.on,hS,HL.out.sV,hV,HL.out.n1,HL.out.bl0,HL.out.bl1,hd,HL.out.vS,hrr,HL.out.good,HL.out.sz⟩ ⟨hk'.1,hk'.2,by omega⟩ hr
     ·rw[if_neg (by simpa using hr)] at h;cases h
 ·rintro e w1 ⟨v,rfl,hv,hB⟩;have HB:Hid (ErrV w1 v (some j)∧BadT E w w1 t s):=⟨hv,hB.from hKp0⟩;clear hv hB;go_wp2;go_ret;exact⟨v,rfl,HB.out⟩
section
variable {w:World} {kc db St A C N nM:Nat} {s:Sto} {D:DataW Unit} {l:List UInt8} {wr:Int} {nw:Root}
theorem Shop.nopair(hS:Shop w kc db St A C N nM s D l wr nw):∀ k∈[St,s.M,A,C],∀ c fr,w.heap[k]?≠some (.cells c 42 fr):=by
 intro k hk c fr e;obtain⟨cA,hA⟩:=hS.hA;simp only[List.mem_cons,List.not_mem_nil,or_false] at hk;rcases hk with rfl|rfl|rfl|rfl
 ·rw[hS.hSt] at e;simp[ν] at e
 ·exact absurd rfl (qF2 e hS.hM)
 ·rw[hA] at e;simp[ψ] at e
 ·rw[hS.dev.hC] at e;simp at e
end
theorem zF3(St:Nat)(s:Sto)(h:HL)(w:World)(hSt:w.heap[St]?=some (ν 1 s))
  (heq:∀ W:World,Sem.run prog (Op.equalIn 10000 89 (τ s.V h) (τ s.V ⟨⟨#[]⟩,s.rb,s.rs,none⟩)) W=.ok true W):
  Calls prog 70 #[.pointer (some ⟨St,0,none⟩),τ s.V h] w fun e w'=>e=.returned (.tuple #[])∧Kp [] w w':=by
 have HS:=zh hSt;clear hSt;rw[τ,show τ s.V ⟨⟨#[]⟩,s.rb,s.rs,none⟩=.agg #[.pointer (some ⟨s.V,0,none⟩),.string ⟨#[]⟩,.int .i64 s.rb,.int .u64 s.rs,.pointer none] from rfl] at heq;rw[τ];go_enter func70,ntmps70;go_wp2_with fail;obtain⟨w0,hw0,hT0,hK0,hs0'⟩:=qG8 w (.cells #[.pointer (some ⟨s.V,0,none⟩),.string h.key,.int .i64 h.b,.int .u64 h.s,.pointer h.ptr] 89);rw[←hw0];clear hw0;refine (qX3 St 1 s w0 (hK0.hp HS.out)).mono ?_;rintro e w1 ⟨rfl,hK1⟩;rw[show τ s.V ⟨⟨#[]⟩,s.rb,s.rs,none⟩=.agg #[.pointer (some ⟨s.V,0,none⟩),.string ⟨#[]⟩,.int .i64 s.rb,.int .u64 s.rs,.pointer none] from rfl];have hT1:=hK1.hp hT0;have hT1s:=ζ hT1;have t:=ξ hT1;have HK1:Hid (Kp [] w w1):=hK0.tr hK1;clear hK0 hK1 hT0 hT1;go_wp2;refine bodyPost_ret (results_none results70 _ _ _) rfl ?_;exact⟨rfl,HK1.out.alloc _⟩
section
variable {w:World} {kc db St A C N nM:Nat} {s:Sto} {D:DataW Unit} {l:List UInt8} {wr:Int} {nw:Root}
theorem LiveT.lie{E':SEnv}{x:Nat}{t:Tx}{r:Root}{hN:N≤1000}{hs:l.length=N*128}{hAC:C≠A}{hVA:s.V≠A}(hL:LiveT (EL s.V A N C l wr hN hs hAC hVA) w x A N t s r)(hp:t.h.p=none):Lie N l t.h.b t.h.s r:=by
 have hr:=hL.rr
 cases r with
 | none=>rw[show t.h=_ from hr];exact⟨rfl,rfl⟩
 | «at» n L=>
  have h2:=hr.2
  cases hx:L.ref with
  | none=>
   rw[hx] at h2;obtain⟨_,_,q,e,_⟩:=h2;rw[hp] at e;cases e
  | some x=>
   rw[hx] at h2;obtain⟨e1,e2,_,e4⟩:=h2;refine⟨x.1,e1,?_,?_⟩
   ·rw[hx,e2]
   ·rw[e2];exact e4
theorem Shop.commits(hS:Shop w kc db St A C N nM s D l wr nw){x:Nat}{t:Tx}{r:Root}(hL:LiveT hS.E w x A N t s r)(hst:t.St=St)(hwr:t.wrt=true)(h0:0≤t.nr)(h1:t.nr≤1000000000)(hrk:r.cont.length≤kc)(hN9:s.N≤999999999)
  (hfit:qE2 r+r.news+Maps.size D*kc+qE2 nw+2≤N):
  Calls prog 31 #[.pointer (some ⟨x,0,none⟩)] w fun e w'=>e=.returned .nilIface∧∃ s' l' wr' nt,Shop w' kc db St A C N nM s' (D.del (qA0 t.nr)) l' wr' nt∧nt.cont=r.cont∧s'.N≤s.N+2∧s'.bg=s.bg∧s'.wr=(s.left t.nr).wr∧s'.V=s.V∧s'.M=s.M∧w'.heap[x]?=some (χ t.ended)∧Kp [St,x,s.M,A,C] w w'∧∀ y rb rs r0,Maps.has (D.del (qA0 t.nr)) (qA0 y)=true→(∀ zd,(D.del (qA0 t.nr)).atKey (qA0 y) zd=qE8 ⟨⟨#[]⟩,rb,rs,none⟩)→Lie N l rb rs r0→Lie N l' rb rs r0:=by
 have htd:=hS.hM.tidy qM3;have hsd:=Maps.size_del (k:=qA0 t.nr) htd;have hle:Maps.size (D.del (qA0 t.nr))≤Maps.size D:=by omega
 have hdl:∀ k,Maps.has (D.del (qA0 t.nr)) k=true→Maps.has D k=true∧∀ zd,(D.del (qA0 t.nr)).atKey k zd=D.atKey k zd:=fun k hk=>by
  by_cases e:k=qA0 t.nr
  ·rw[e,Maps.has_del_same] at hk;cases hk
  ·rw[Maps.has_del_other e] at hk;exact⟨hk,fun zd=>Maps.atKey_del_other e zd⟩
 have hgo:(∀ W:World,Sem.run prog (Op.equalIn 10000 89 (τ s.V t.h) (τ s.V ⟨⟨#[]⟩,s.rb,s.rs,none⟩)) W=.ok false W)→Calls prog 31 #[.pointer (some ⟨x,0,none⟩)] w fun e w'=>e=.returned .nilIface∧∃ s' l' wr' nt,Shop w' kc db St A C N nM s' (D.del (qA0 t.nr)) l' wr' nt∧nt.cont=r.cont∧s'.N≤s.N+2∧s'.bg=s.bg∧s'.wr=(s.left t.nr).wr∧s'.V=s.V∧s'.M=s.M∧w'.heap[x]?=some (χ t.ended)∧Kp [St,x,s.M,A,C] w w'∧∀ y rb rs r0,Maps.has (D.del (qA0 t.nr)) (qA0 y)=true→(∀ zd,(D.del (qA0 t.nr)).atKey (qA0 y) zd=qE8 ⟨⟨#[]⟩,rb,rs,none⟩)→Lie N l rb rs r0→Lie N l' rb rs r0:=fun heq=>by
  refine (xG5 hS x t r hL hst hwr h0 h1 heq hrk hN9 hdl (by have:=hS.m4;omega) (by have:=Nat.mul_le_mul_right kc hle;omega)).mono ?_;rintro e w' ⟨e0,s',l',nt,c1,c2,c3,c4⟩;exact⟨e0,s',l',_,nt,c1,c2,by omega,c4⟩
 cases hp:t.h.p with
 | some q=>exact hgo (fun W=>xG8 s.V q t.h s.rb s.rs hp hL.key W)
 | none=>
  by_cases he:t.h.b=s.rb∧t.h.s=s.rs
  ·have heq:∀ W:World,Sem.run prog (Op.equalIn 10000 89 (τ s.V t.h) (τ s.V ⟨⟨#[]⟩,s.rb,s.rs,none⟩)) W=.ok true W:=fun W=>by rw[qU7 s.V t.h s.rb s.rs hp hL.key W];simp[he]
   have hlie:Lie N l s.rb s.rs r:=by
    have h:=LiveT.lie (E':=hS.E) hL hp;rw[he.1,he.2] at h;exact h
   subst hst;obtain⟨cA,hA⟩:=hS.hA;have hMS:s.M≠t.St:=(qF2 hS.hSt hS.hM).symm;have hxM:x≠s.M:=qF2 hL.hx hS.hM;have hoff:OffD w [t.St,x,s.M]:=(OffD.one hL.hSt (by decide)).cons ((OffD.one hL.hx (by decide)).cons (fun k hk c ty fr e=>by rw[List.mem_singleton.1 hk] at e;exact absurd rfl (qF2 e hS.hM)));obtain⟨n1,n2,n3,n4⟩:=hS.neDb;refine (xG7 x nM s.V t s D [] (fun W w1=>Kp [] W w1) w hL.hx hL.over hS.hSt hS.po hS.hM h0 h1 hMS hL.xS hxM hS.hM.lt hL.on hwr (by simp) ?_).mono ?_
   ·intro W hK hx' hS' hM';refine (zF3 t.St (s.left t.nr) t.h W hS' heq).mono ?_;rintro e w1 ⟨rfl,hK1⟩;exact⟨rfl,⟨_,hK1.hp hS'⟩,hK1,hK1.mono (by simp)⟩
   ·rintro e w' ⟨rfl,hKw,W,w1,B,s',hK,hx',hS',hM',hR,_,hs1,hs2,hB0,hB1,hKB⟩;have hse:s'=s.left t.nr:=by
     rw[hR.hp hS'] at hs1;exact (xG6 (Option.some.inj hs1)).symm
    rw[hse] at hs2 hs1;have hxs:=ζ hL.hx;have hMs:=hS.hM.lt;refine⟨rfl,s.left t.nr,l,wr,nw,?_,(Lie.one hS.N1 hS.lie hlie).1,by show s.N≤s.N+2;omega,rfl,rfl,rfl,rfl,hKB.heap (hR.hp hx') (by simp[hL.xS];omega),hKw.mono (by intro i hi _;simp at hi ⊢;omega),fun _ _ _ _ _ _ h=>h⟩;refine hS.turn hKw (by simp[n1,n4];exact qA7 hS.hDb hL.hx (by decide)) (qM1 (qM1 (qM1 hS.dev hK hoff) hR (by intro k hk;cases hk)) hKB (qP0 hs1 hB1)) ⟨rfl,rfl,rfl,rfl,rfl,rfl⟩ hs2 ((hM'.kp hR (by simp)).kp hKB (by simp[hMS];omega)) (by have:=hS.m4;omega) hS.n1 hS.bg0 (fun k hk=>hS.kb k (hdl k hk).1) (fun y h g1 g2 g3=>?_);obtain⟨f1,f2⟩:=hdl _ g1;exact hS.rd y h f1 (fun zd=>(f2 zd).symm.trans (g2 zd)) g3
  ·exact hgo (fun W=>by rw[qU7 s.V t.h s.rb s.rs hp hL.key W];simp[he])
end
end Go.Proofs.YtdohpenfkdckiaaGreatDoor
namespace Go.Proofs.YtdohpenfkdckiaaGreatDoor
open Go.Proofs.Tryz
open Go.RowKit
open Go.Maps (Keyed)
theorem zE8(Tc x n V:Nat)(t:Tx)(s:Sto)(D:DataW Unit)(w:World)(hTc:w.heap[Tc]?=some (.cells #[.pointer (some ⟨x,0,none⟩)] 32))(hx:w.heap[x]?=some (χ t))(hSt:w.heap[t.St]?=some (ν 1 s))(hM:RM w s.V s.M n D)(h0:0≤t.nr)(h1:t.nr≤1000000000)(hMS:s.M≠t.St)(hxS:x≠t.St)(hxM:x≠s.M)(hTM:Tc≠s.M)(hMs:s.M<w.heap.size)(hon:t.on=some ⟨V,0,none⟩)(hwr:t.wrt=false):
  Calls prog 68 #[.pointer (some ⟨Tc,0,none⟩)] w fun e w'=>e=qC4 none∧w'.heap[x]?=some (χ t.ended)∧w'.heap[t.St]?=some (ν 1 (s.left t.nr))∧RM w' s.V s.M n (D.del (qA0 t.nr))∧Kp [t.St,x,s.M] w w':=by
 have hxs:=ζ hx;have hTs:=ζ hTc;have hSs:=ζ hSt;have hTx:Tc≠x:=zI5 hTc hx (by decide);have hTS:Tc≠t.St:=zI5 hTc hSt (by decide);have tc0:=ξ hTc 0;simp only[zG,zH,zI] at tc0;have x4:=ξ hx 4;have x5:=ξ hx 5;have x6:=ξ hx 6;have x7:=ξ hx 7;have x8:=ξ hx 8;simp only[χ,zG,zH,zI] at x4 x5 x6 x7 x8;rw[hon] at x4;have HX:=zh hx;have HT:=zh hTc;have HS:=zh hSt;have HM:=zh hM;have HN:Hid (s.M≠t.St∧x≠t.St∧x≠s.M∧Tc≠s.M∧Tc≠x∧Tc≠t.St):=⟨hMS,hxS,hxM,hTM,hTx,hTS⟩;clear hx hTc hSt hM hMS hxS hxM hTM hTx hTS;go_enter func68,ntmps68;go_wp2_with fail;obtain⟨w0,hw0,hB0,hK0,hs0⟩:∃ w0,w0=w.alloc (.cells #[.pointer (some ⟨V,0,none⟩),.string t.h.key,.int .i64 t.h.b,.int .u64 t.h.s,.pointer t.h.ptr] 89)∧w0.heap[w.heap.size]?=some (.cells #[.pointer (some ⟨V,0,none⟩),.string t.h.key,.int .i64 t.h.b,.int .u64 t.h.s,.pointer t.h.ptr] 89)∧Kp [] w w0∧w0.heap.size=w.heap.size+1:=⟨_,rfl,κ _ _,(Kp.refl _ _).alloc _,by simp⟩;rw[←hw0];clear hw0 tc0 x4 x5 x6 x7 x8;obtain⟨n1,n2,n3,n4,n5,n6⟩:=HN.out;refine (zP4 x n t s D w0 (hK0.hp HX.out) (hK0.hp HS.out) (HM.out.kp hK0 (by simp)) h0 h1 n1 n2 n3).mono ?_;rintro e w1 ⟨rfl,hx1,hS1,hM1,hK1⟩;have hKw:Kp [t.St,x,s.M] w w1:=(hK0.mono (by simp)).trans hK1 (fun _ h _=>h);have hT1:=hKw.heap HT.out (by simp;exact⟨n6,n5,n4⟩);have hT1s:=ζ hT1;have hx1s:=ζ hx1;have tc0:=ξ hT1 0;simp only[zG,zH,zI] at tc0;have x2:=ξ hx1 2;simp only[χ,Tx.ended,zG,zH,zI] at x2;rw[hwr] at x2;have HEND:Hid (w1.heap[x]?=some (χ t.ended)∧w1.heap[t.St]?=some (ν 1 (s.left t.nr))∧RM w1 s.V s.M n (D.del (qA0 t.nr))∧Kp [t.St,x,s.M] w w1):=⟨hx1,hS1,hM1,hKw⟩;clear hKw hS1 hM1 hK1 hT1 hx1;go_wp2
 go_end0
 exact⟨rfl,HEND.out⟩
theorem xH3(x n V:Nat)(t:Tx)(s:Sto)(D:DataW Unit)(w:World)(hx:w.heap[x]?=some (χ t))(ho:t.over=false)(hSt:w.heap[t.St]?=some (ν 0 s))(hpo:s.po=false)(hM:RM w s.V s.M n D)(h0:0≤t.nr)(h1:t.nr≤1000000000)(hMS:s.M≠t.St)(hxS:x≠t.St)(hxM:x≠s.M)(hMs:s.M<w.heap.size)(hon:t.on=some ⟨V,0,none⟩)(hwr:t.wrt=false):
  Calls prog 31 #[.pointer (some ⟨x,0,none⟩)] w fun e w'=>e=.returned .nilIface∧w'.heap[x]?=some (χ t.ended)∧w'.heap[t.St]?=some (ν 0 (s.left t.nr))∧RM w' s.V s.M n (D.del (qA0 t.nr))∧Kp [t.St,x,s.M] w w':=by
 have hmf:=zM;have hxs:=ζ hx;have hSs:=ζ hSt;go_enter func31,ntmps31;go_wp2_with fail;obtain⟨w0,hw0,hB0,hK0,hs0⟩:∃ w0,w0=w.alloc (.cells #[.pointer (some ⟨x,0,none⟩)] 32)∧w0.heap[w.heap.size]?=some (.cells #[.pointer (some ⟨x,0,none⟩)] 32)∧Kp [] w w0∧w0.heap.size=w.heap.size+1:=⟨_,rfl,κ _ _,(Kp.refl _ _).alloc _,by simp⟩;rw[←hw0];clear hw0;refine (qP3 none (by decide) x t.St 68 t s (s.left t.nr) #[] #[.pointer (some ⟨w.heap.size,0,none⟩)] _ [x,s.M] (fun W w1=>w1.heap[x]?=some (χ t.ended)∧RM w1 s.V s.M n (D.del (qA0 t.nr))) w0 (hK0.hp hx) ho rfl (hK0.hp hSt) hpo hxS (xF4 _) (by intro i hi;simp at hi;omega) ?_).mono ?_
 ·intro W hK hS;have hKw:Kp [t.St] w W:=(hK0.mono (by simp)).trans hK (fun _ h _=>h);have hTne:w.heap.size≠t.St:=by omega
  refine (zE8 w.heap.size x n V t s D W (hK.heap hB0 (by simp;exact hTne)) (hKw.heap hx (by simp;exact hxS)) hS (hM.kp hKw (by simp;exact hMS)) h0 h1 hMS hxS hxM (by omega) (by have:=hKw.size;omega) hon hwr).mono ?_;rintro e w1 ⟨rfl,e1,e2,e3,e4⟩;exact⟨rfl,⟨e1,e3⟩,e4,e2⟩
 rintro e w2 ⟨v,rfl,hv,hSt2,hK2,W,w1,Bb,⟨ha,hb⟩,hKW,hB1,hB2,hB3,hKB⟩;have hv':v=.nilIface:=hv;subst hv';have HE:Hid (w2.heap[x]?=some (χ t.ended)∧w2.heap[t.St]?=some (ν 0 (s.left t.nr))∧RM w2 s.V s.M n (D.del (qA0 t.nr))∧Kp [t.St,x,s.M] w w2):=⟨hKB.heap ha (by simp;exact⟨hxS,by omega⟩),hSt2,hb.kp hKB (by simp;exact⟨hMS,by omega⟩),(hK0.mono (by simp)).trans hK2 (fun _ h _=>h)⟩;clear hv ha hb hSt2 hK2 hKW hKB hB3 hMS hxS hxM;go_wp2;go_ret;exact⟨rfl,HE.out⟩
structure Rdr(w:World)(kc St N:Nat)(s:Sto)(D:DataW Unit)(l:List UInt8)(x:Nat)(t:Tx)(r:Root):Prop where
 hx:w.heap[x]?=some (χ t)
 over:t.over=false
 on:t.on=some ⟨s.V,0,none⟩
 st:t.St=St
 h:∃ rb rs,t.h=⟨⟨#[]⟩,rb,rs,none⟩
 wrt:t.wrt=false
 ch:t.ch=0
 nr0:1≤t.nr
 nr1:t.nr≤s.bg
 has:Maps.has D (qA0 t.nr)=true
 at_:∀ zd,D.atKey (qA0 t.nr) zd=qE8 t.h
 lie:Lie N l t.h.b t.h.s r
 good:RGood r
 sz:r.cont.length≤kc
section
variable {w:World} {kc db St A C N nM:Nat} {s:Sto} {D:DataW Unit} {l:List UInt8} {wr:Int} {nw:Root}
theorem Rdr.live{x:Nat}{t:Tx}{r:Root}(hR:Rdr w kc St N s D l x t r)(hS:Shop w kc db St A C N nM s D l wr nw):LiveT hS.E w x A N t s r:=
 { hx:=hR.hx,over:=hR.over,on:=hR.on,hSt:=by rw[hR.st];exact hS.hSt,po:=hS.po,sV:=rfl,hV:=hS.dev.hV,n1:=hS.N1,bl0:=hS.bl0,bl1:=by have:=hS.bl1;have:=hS.sz;have:=hS.kc1;omega,dev:=hS.dev,vS:=by show s.V ∉ [A];simpa using hS.VA,rr:=by obtain⟨rb,rs,e⟩:=hR.h;have h:=hR.lie.rr hR.good (V:=s.V) (A:=A) (C:=C) (wr:=wr) (hN:=hS.N1) (hs:=hS.len) (hAC:=hS.AC) (hVA:=hS.VA) w;rw[e] at h ⊢;exact h,good:=hR.good,sz:=by have:=hR.sz;have:=hS.kc1;omega,ch0:=by rw[hR.ch];exact Int.le_refl _,ch1:=by rw[hR.ch];decide }
theorem Rdr.keep{x:Nat}{t:Tx}{r:Root}(hR:Rdr w kc St N s D l x t r){w':World}{S:List Nat}(hK:Kp S w w')(hx:x ∉ S){s':Sto}(hV:s'.V=s.V)(hb:s.bg≤s'.bg){D':DataW Unit}(hh:Maps.has D' (qA0 t.nr)=true∧∀ zd,D'.atKey (qA0 t.nr) zd=D.atKey (qA0 t.nr) zd){l':List UInt8}(hl:Lie N l t.h.b t.h.s r→Lie N l' t.h.b t.h.s r):Rdr w' kc St N s' D' l' x t r:=
 { hR with hx:=hK.heap hR.hx hx,on:=by rw[hV];exact hR.on,nr1:=by have:=hR.nr1;omega,has:=hh.1,at_:=fun zd=>(hh.2 zd).trans (hR.at_ zd),lie:=hl hR.lie }
theorem qP8{a b:Int}(h:a≠b):qA0 a≠qA0 b:=fun e=>by cases e;exact h rfl
theorem Rdr.cycle{x:Nat}{t:Tx}{r:Root}(hR:Rdr w kc St N s D l x t r)(n:Int)(hn:s.bg<n)(v:DataW Unit):Maps.has ((D.put (qA0 n) v).del (qA0 n)) (qA0 t.nr)=true∧∀ zd,((D.put (qA0 n) v).del (qA0 n)).atKey (qA0 t.nr) zd=D.atKey (qA0 t.nr) zd:=by
 have hne:qA0 t.nr≠qA0 n:=qP8 (by have:=hR.nr1;omega);exact⟨by rw[Maps.has_del_other hne,Maps.has_put_other hne];exact hR.has,fun zd=>by rw[Maps.atKey_del_other hne,Maps.atKey_put_other hne]⟩
theorem Rdr.gone{x:Nat}{t:Tx}{r:Root}(hR:Rdr w kc St N s D l x t r)(n:Int)(hn:t.nr≠n):Maps.has (D.del (qA0 n)) (qA0 t.nr)=true∧∀ zd,(D.del (qA0 n)).atKey (qA0 t.nr) zd=D.atKey (qA0 t.nr) zd:=by
 have hne:qA0 t.nr≠qA0 n:=qP8 hn;exact⟨by rw[Maps.has_del_other hne];exact hR.has,fun zd=>Maps.atKey_del_other hne zd⟩
theorem Rdr.ne{x:Nat}{t:Tx}{r:Root}(hR:Rdr w kc St N s D l x t r)(hS:Shop w kc db St A C N nM s D l wr nw):x≠St∧x≠s.M∧x≠A∧x≠C:=by
 obtain⟨c,hA⟩:=hS.hA;exact⟨qA7 hR.hx hS.hSt (by decide),qF2 hR.hx hS.hM,qA7 hR.hx hA (by decide),qA7 hR.hx hS.dev.hC (by decide)⟩
theorem xD6{D:DataW Unit}(htd:Maps.Tidy D)(n:Int)(v:DataW Unit)(hno:Maps.has D (qA0 n)=false)(ht2:Maps.Tidy (D.put (qA0 n) v)):Maps.size ((D.put (qA0 n) v).del (qA0 n))=Maps.size D:=by
 have h1:=Maps.size_put (k:=qA0 n) htd v;have h2:=Maps.size_del (k:=qA0 n) ht2;rw[if_neg (by simp[hno])] at h1;rw[if_pos (Maps.has_put_same htd.isMap (show WideAt.IsKeyLit (qA0 _) from trivial) v)] at h2;omega
theorem Wrt.other{x:Nat}{t:Tx}{r:Root}{nr:Int}(h:Wrt w kc db St A C N nM s D l wr nw x t r nr){w':World}{nM':Nat}{s':Sto}{D':DataW Unit}(hS:Shop w' kc db St A C N nM' s' D' l wr nw)(hK:Kp [St,s.M,A] w w')(hV:s'.V=s.V):Wrt w' kc db St A C N nM' s' D' l wr nw x t r nr:=by
 obtain⟨c,hA⟩:=h.shop.hA;have h1:x≠St:=by rw[←h.st];exact h.live.xS
 have h2:x≠s.M:=qF2 h.live.hx h.shop.hM;have h3:x≠A:=qA7 h.live.hx hA (by decide);have hapM:Apt w [s.M] qF4:=fun k hk c ty fr e=>by rw[List.mem_singleton.1 hk] at e;exact absurd rfl (qF2 e h.shop.hM)
 have hap:Apt w [St,s.M,A] qF4:=(Apt.one h.shop.hSt (by decide)).cons (hapM.cons (Apt.one hA (by decide)));have hrr:=h.live.rr.keepT hK hap;refine⟨hS,{ hx:=hK.heap h.live.hx (by simp[h1,h2,h3]),over:=h.live.over,on:=?_,hSt:=by rw[h.st];exact hS.hSt,po:=hS.po,sV:=rfl,hV:=hS.dev.hV,n1:=hS.N1,bl0:=hS.bl0,bl1:=by have:=hS.bl1;have:=hS.sz;have:=hS.kc1;omega,dev:=hS.dev,vS:=by show s'.V ∉ [A];simpa using hS.VA,rr:=?_,good:=h.live.good,sz:=h.live.sz,ch0:=h.live.ch0,ch1:=h.live.ch1 },h.st,h.nr,h.wrt⟩
 ·show t.on=some ⟨s'.V,0,none⟩;rw[hV];exact h.live.on
 ·cases r with
  | none=>exact hrr
  | «at» n L=>exact hrr
theorem Shop.busyW(hS:Shop w kc db St A C N nM s D l wr nw)(hw:s.wr≠0):
  Calls prog 29 #[.pointer (some ⟨db,0,none⟩),.bool true] w fun e w'=>∃ v,e=.returned (.tuple #[.pointer none,v])∧ErrV w' v (some 4)∧Shop w' kc db St A C N nM s D l wr nw∧Kp [St] w w':=by
 refine (qW8 db St s w hS.hDb hS.hSt hS.po hS.neDb.1 hw).mono ?_;rintro e w' ⟨v,rfl,hv,hSt,hK⟩;have h1:s.M≠St:=(qF2 hS.hSt hS.hM).symm;exact⟨v,rfl,hv,hS.turn hK (by simpa using hS.neDb.1) (qM1 hS.dev hK (OffD.one hS.hSt (by decide))) ⟨rfl,rfl,rfl,rfl,rfl,rfl⟩ hSt (hS.hM.kp hK (by simpa using h1)) hS.m4 hS.n1 hS.bg0 hS.kb hS.rd,hK⟩
end
end Go.Proofs.YtdohpenfkdckiaaGreatDoor
namespace Go.Proofs.YtdohpenfkdckiaaGreatDoor
open Go.Proofs.Tryz
open Go.RowKit
attribute [local go_sem] Oper.semAt_some
theorem qW4(x:Nat)(t:Tx)(s:Sto)(B Lc Hc l m:Nat)(Jx:World→Prop)(w:World)(hx:w.heap[x]?=some (χ t))(ho:t.over=true)(hSt:w.heap[t.St]?=some (ν 0 s))(hpo:s.po=false)(hxS:x≠t.St)(hB:w.heap[B]?=some (.cells #[.pointer (some ⟨x,0,none⟩)] 32))
  (hY:∀ W F call,Kp [t.St] w W→W.heap[t.St]?=some (ν 0 s)→W.heap[F]?=some (.cells #[.string call,.iface 45 (.int .i64 5)] 246)→YieldAt Fence.wide (m-1) prog l #[.agg #[.string ⟨#[]⟩,.string ⟨#[]⟩],.iface 243 (.pointer (some ⟨F,0,none⟩))] W fun e W'=>e=.returned (.bool false)∧Jx W'):
  CallsIn Fence.wide m prog 176 #[.func (.yield l) #[] #[],.pointer (some ⟨B,0,none⟩),.pointer (some ⟨Lc,0,none⟩),.pointer (some ⟨Hc,0,none⟩)] w fun e w'=>(∃ v,e=.returned v)∧Jx w':=by
 have hmf:=zM;have HY:=zh hY;have HX:Hid (w.heap[x]?=some (χ t)∧x≠t.St∧w.heap[t.St]?=some (ν 0 s)):=⟨hx,hxS,hSt⟩;have hB0:=θ (.cells #[.pointer none,.string ⟨#[]⟩,.int .i64 0,.int .u64 0,.pointer none] 89) hB;have b0:=ξ hB0 0;simp only[zG,zH] at b0;have hBs:=ζ hB;have hSs:=ζ hSt;clear hY hB0 hx hxS hSt hB;refine callsIn_of_wp func176 rfl trivial ?_ rfl;simp only[ntmps176,List.size_toArray,List.length_cons,List.length_nil,Nat.reduceAdd,Nat.reduceSub,Array.replicate_succ,Array.replicate_zero,List.push_toArray,List.append_toArray,List.nil_append,List.cons_append]
 gi_wp2_with fail
 refine⟨trivial,fun h=>(by cases h),?_⟩;obtain⟨w0,hw0,hK0⟩:∃ w0,w0=w.alloc (.cells #[.pointer none,.string ⟨#[]⟩,.int .i64 0,.int .u64 0,.pointer none] 89)∧Kp [] w w0:=⟨_,rfl,(Kp.refl _ _).alloc _⟩;rw[←hw0];clear hw0 b0;refine callsIn_wide.2 ((zC4 x t.St 177 t s #[] _ _ w0 (hK0.hp HX.out.1) ho rfl (hK0.hp HX.out.2.2) hpo HX.out.2.1).mono ?_);rintro e w1 ⟨v,rfl,⟨F,call,rfl,hF⟩,hSt1,hK1⟩;have hK1':Kp [t.St] w w1:=(hK0.mono (by simp)).trans hK1 (fun _ h _=>h);have hq:∀ W:World,Sem.run prog (binOp .eql 38 (.iface 243 (.pointer (some ⟨F,0,none⟩))) .nilIface) W=.ok (.bool false) W:=fun W=>by kernel_rfl
 have hKa:Kp [] w1 (w1.alloc (.cells #[.func (.func 178) #[] #[.pointer (some ⟨Lc,0,none⟩)]] 92)):=(Kp.refl _ _).alloc _;obtain⟨w2,hw2⟩:∃ w2,w2=w1.alloc (.cells #[.func (.func 178) #[] #[.pointer (some ⟨Lc,0,none⟩)]] 92):=⟨_,rfl⟩;rw[←hw2] at hKa;obtain⟨fn,tmps,assign,body,hy,hR⟩:=HY.out w2 F call (hK1'.tr hKa) (hKa.hp hSt1) (hKa.hp hF);clear hK0 hK1 hK1' hKa hSt1 hF
 gi_wp2_with fail
 rw[←hw2];clear hw2
 gi_loopw [6] (fun err wr=>err=.iface 243 (.pointer (some ⟨F,0,none⟩))∧wr=w2) (fun _ _=>0)
 case atStart=>exact⟨rfl,rfl⟩
 case round=>
  obtain⟨rfl,rfl⟩:=hrel
  gi_wp2
  refine⟨fun h=>(by cases h),hR.mono ?_⟩;rintro e w3 ⟨rfl,hJ⟩;have HJ:=zh hJ;clear hJ hy hR
  gi_wp2
  go_end0
  exact⟨⟨_,rfl⟩,HJ.out⟩
def qV8(R:World→World→Prop)(W W3:World):Prop:=∃ S3:List Nat,Kp S3 W W3∧(∀ k∈S3,∃ c u fr,W.heap[k]?=some (.cells c u fr)∧u≠169∧u≠246)∧R W W3
def qB8(B1 B2:Nat)(W W3:World):Prop:=∃ F,(∃ call,W.heap[F]?=some (.cells #[.string call,.iface 45 (.int .i64 5)] 246))∧W3.heap[B1]?=some (.cells #[.slice none 0 0] 29)∧W3.heap[B2]?=some (.cells #[.iface 243 (.pointer (some ⟨F,0,none⟩))] 38)∧Kp [B1,B2] W W3
theorem qV0{nn:Nat}{g:Operand}{ps:Array Tmp}{assign body:Code}{Q:Exit→Act→World→Prop}{a:Act}{w:World}(x:Nat)(t:Tx)(s:Sto)(B Lc Hc:Nat)(Ty:TypeId)(h1:1≤nn)
  (hg:a.eval g=.func (.func 176) #[] #[.pointer (some ⟨B,0,none⟩),.pointer (some ⟨Lc,0,none⟩),.pointer (some ⟨Hc,0,none⟩)]) (hps:ps.size=2)
  (hx:w.heap[x]?=some (χ t)) (ho:t.over=true) (hSt:w.heap[t.St]?=some (ν 0 s)) (hpo:s.po=false) (hxS:x≠t.St) (hB:w.heap[B]?=some (.cells #[.pointer (some ⟨x,0,none⟩)] 32))
  (a₁:Value→Nat→Act) (R:World→World→Prop)
  (hassign:∀ (l:Nat) (v:Value) (W:World) (K:Act→World→Prop),K (a₁ v W.heap.size) (W.alloc (.cells #[.string ⟨#[]⟩,.string ⟨#[]⟩] 42))→
   assign.wpIn (Fence.wide.inRound l) (nn-1-1) prog (Exit.then K (fun _ _ _=>False)) { tmps:=(ps.zip #[.agg #[.string ⟨#[]⟩,.string ⟨#[]⟩],v]).foldl (fun t (p,v)=>t.setIfInBounds p v) a.tmps,defers:=[] } W)
  (hbody:∀ (l F:Nat) (call:ByteArray) (W:World) (Pb:Nat),Kp [t.St] w W→W.heap[t.St]?=some (ν 0 s)→W.heap[F]?=some (.cells #[.string call,.iface 45 (.int .i64 5)] 246)→
   body.wpIn (Fence.wide.inRound l) (nn-1-1) prog (fun e _ W3=>match e with
    | .ret=>qV8 R W W3
    | _=>False) (a₁ (.iface 243 (.pointer (some ⟨F,0,none⟩))) Pb) W)
  (hstop:∀ (W:World),(∃ (Wa W3:World) (F:Nat) (call:ByteArray) (S3:List Nat),Kp [t.St] w Wa∧Wa.heap[F]?=some (.cells #[.string call,.iface 45 (.int .i64 5)] 246)∧Wa.heap[t.St]?=some (ν 0 s)∧R Wa W3∧Kp S3 Wa W3∧(∀ k∈S3,∃ c u fr,Wa.heap[k]?=some (.cells c u fr)∧u≠169∧u≠246)∧Kp [w.heap.size+1] W3 W∧(∃ rr,W3.heap[w.heap.size+1]?=some (.loop rr)))→W.heap[w.heap.size]?=some (.deferred (some []))→(Code.ret).wpIn Fence.wide nn prog Q { a with defers:={ target:=.collected w.heap.size,args:=#[] }::a.defers } W):
  (Code.rangeFunc g ps assign body).wpIn Fence.wide nn prog Q a w:=by
 refine wpIn_rangeFunc ?_;intro fn hfn;obtain⟨rec,hrec⟩:∃ rec:LoopState→Option Code→Loop,rec=fun st pe=>{ state:=st,pending:=pe,fn,tmps:=a.tmps,params:=ps,assign,body,defers:=w.heap.size }:=⟨_,rfl⟩;obtain⟨W1,hW1⟩:∃ W1,(w.alloc (.deferred (some []))).alloc (.loop (rec .ready none))=W1:=⟨_,rfl⟩;have hL1:W1.heap[w.heap.size+1]?=some (.loop (rec .ready none)):=by
  rw[←hW1];have:=World.alloc_heap_new (w.alloc (.deferred (some []))) (.loop (rec .ready none));rwa [World.size_alloc] at this
 have hD1:W1.heap[w.heap.size]?=some (.deferred (some [])):=by
  rw[←hW1];exact (Below.heap_alloc _ _ _ (by simp)).trans (World.alloc_heap_new w _)
 have hK1:Kp [] w W1:=by rw[←hW1];exact ((Kp.refl _ _).alloc _).alloc _
 have hs1:W1.heap.size=w.heap.size+2:=by rw[←hW1];simp
 have hSts:=ζ hSt;refine⟨w.heap.size+1,[{ target:=.collected w.heap.size,args:=#[] }],W1,{ target:=.fn (.func 176) #[.pointer (some ⟨B,0,none⟩),.pointer (some ⟨Lc,0,none⟩),.pointer (some ⟨Hc,0,none⟩)],args:=#[.func (.yield (w.heap.size+1)) #[] #[]] },W1,176,
  #[.func (.yield (w.heap.size+1)) #[] #[],.pointer (some ⟨B,0,none⟩),.pointer (some ⟨Lc,0,none⟩),.pointer (some ⟨Hc,0,none⟩)],W1,?_,?_,?_,?_,fun h=>(by cases h),?_⟩
 ·rw[←hW1,hrec];exact run_enterLoop_outer _ _ _ _ _
 ·simp only[resolve,hg];simp[go_sem]
 ·intro f' hf';trivial
 ·simp[invoke,go_sem,xF3]
 ·refine (qW4 x t s B Lc Hc (w.heap.size+1) (nn-1) (fun W=>W.heap[w.heap.size+1]?=some (.loop (rec .done (some .ret)))∧W.heap[w.heap.size]?=some (.deferred (some []))∧∃ (Wa W3:World) (F:Nat) (call:ByteArray) (S3:List Nat),Kp [t.St] w Wa∧Wa.heap[F]?=some (.cells #[.string call,.iface 45 (.int .i64 5)] 246)∧Wa.heap[t.St]?=some (ν 0 s)∧R Wa W3∧Kp S3 Wa W3∧(∀ k∈S3,∃ c u fr,Wa.heap[k]?=some (.cells c u fr)∧u≠169∧u≠246)∧Kp [w.heap.size+1] W3 W∧(∃ rr,W3.heap[w.heap.size+1]?=some (.loop rr))) W1 (hK1.hp hx) ho (hK1.hp hSt) hpo hxS (hK1.hp hB) ?_).mono ?_
  ·intro W F call hK hStW hF;have hL:=hK.ho hL1;have hD:=hK.ho hD1;have hlt:=ζ hL;have hy:=run_yield (P:=prog) (args:=#[.agg #[.string ⟨#[]⟩,.string ⟨#[]⟩],.iface 243 (.pointer (some ⟨F,0,none⟩))]) hL (by rw[hrec];simp[hps]);rw[hrec] at hy;refine⟨fn,_,assign,body,hy,roundIn_of_wpIn hfn (hassign _ _ W _ ?_)⟩;clear hy;have hKa:Kp [] W (W.alloc (.cells #[.string ⟨#[]⟩,.string ⟨#[]⟩] 42)):=(Kp.refl _ _).alloc _;have hLa:=hKa.hp hL;refine⟨_,run_beginRound hLa (by rw[hrec]),?_⟩;obtain⟨W2,hW2,hL2,hK2⟩:∃ W2,W2=(W.alloc (.cells #[.string ⟨#[]⟩,.string ⟨#[]⟩] 42)).putObj (w.heap.size+1) (.loop { rec .ready none with state:=.busy })∧W2.heap[w.heap.size+1]?=some (.loop { rec .ready none with state:=.busy })∧Kp [w.heap.size+1] W W2:=
    ⟨_,rfl,World.putObj_heap_same (by simp;omega),((hKa.mono (by simp)).putObj (by simp) _)⟩
   rw[←hW2];clear hW2 hKa hLa;have hF2:=hK2.heap hF (fun hm=>by rw[List.mem_singleton.1 hm,hL] at hF;cases hF);have hSt2:=hK2.heap hStW (fun hm=>by rw[List.mem_singleton.1 hm,hL] at hStW;cases hStW);have hKw2:Kp [t.St] w W2:=((hK1.mono (S':=[t.St]) (by simp)).trans hK (fun _ h _=>h)).trans hK2 (by intro i hi hlt;simp at hi;omega);have hD2:=hK2.hp hD;refine wpIn_mono (hbody _ F call W2 W.heap.size hKw2 hSt2 hF2) ?_;rintro e a3 W3 hp
   cases e with
   | ret=>
    obtain⟨S3,hK3,hS3,hR3⟩:=hp;have hno:∀ k o,W2.heap[k]?=some o→(∀ c u fr,o≠.cells c u fr)→k ∉ S3:=fun k o ho' hn hm=>by
     obtain⟨c,u,fr,e,_⟩:=hS3 k hm;rw[ho'] at e;cases e;exact hn _ _ _ rfl
    have hL3:=hK3.heap hL2 (hno _ _ hL2 (by intros;simp));have hr:=run_endRound (P:=prog) (some .ret) hL3;rw[hrec] at hr;refine⟨_,_,hr,rfl,?_⟩;have hfin:(fun W:World=>W.heap[w.heap.size+1]?=some (.loop (rec .done (some .ret)))∧W.heap[w.heap.size]?=some (.deferred (some []))∧∃ (Wa W3:World) (F:Nat) (call:ByteArray) (S3:List Nat),Kp [t.St] w Wa∧Wa.heap[F]?=some (.cells #[.string call,.iface 45 (.int .i64 5)] 246)∧Wa.heap[t.St]?=some (ν 0 s)∧R Wa W3∧Kp S3 Wa W3∧(∀ k∈S3,∃ c u fr,Wa.heap[k]?=some (.cells c u fr)∧u≠169∧u≠246)∧Kp [w.heap.size+1] W3 W∧(∃ rr,W3.heap[w.heap.size+1]?=some (.loop rr))) (W3.putObj (w.heap.size+1) (.loop (rec .done (some .ret)))):=
     ⟨World.putObj_heap_same (ζ hL3),(World.putObj_heap_other (by omega)).trans (hK3.heap hD2 (hno _ _ hD2 (by intros;simp))),W2,W3,F,call,S3,hKw2,hF2,hSt2,hR3,hK3,hS3,(Kp.refl _ _).putObj (by simp) _,_,hL3⟩
    rw[hrec] at hfin ⊢;exact hfin
   | normal=>exact hp.elim
   | exit i=>exact hp.elim
   | goto l=>exact hp.elim
   | panic ch=>exact hp.elim
   | outgrown=>exact hp.elim
  ·rintro e W2 ⟨⟨v,rfl⟩,hL,hD,Wa,W3,F,call,S3,p1,p2,p3,p4,p5,p6,p7,rr,p8⟩;have hr:=run_endLoop (P:=prog) hL (by rw[hrec];simp);rw[hrec] at hr;refine⟨some .ret,_,hr,?_⟩;have:=hstop (W2.putObj (w.heap.size+1) (.loop { rec .done (some .ret) with state:=.exhausted })) ⟨Wa,W3,F,call,S3,p1,p2,p3,p4,p5,p6,p7.putObj (by simp) _,rr,p8⟩ ((World.putObj_heap_other (by omega)).trans hD);rw[hrec] at this;exact this
theorem zY3(x:Nat)(t:Tx)(s:Sto)(lo hi:ByteArray)(most:Int)(w:World)(hx:w.heap[x]?=some (χ t))(ho:t.over=true)(hSt:w.heap[t.St]?=some (ν 0 s))(hpo:s.po=false)(hxS:x≠t.St):
  Calls prog 71 #[.pointer (some ⟨x,0,none⟩),.string lo,.string hi,.int .i64 most] w fun e w'=>∃ v,e=.returned (.tuple #[.slice none 0 0,v])∧ErrV w' v (some 5)∧w'.heap[t.St]?=some (ν 0 s)∧Kp [t.St] w w':=by
 have HX:Hid (w.heap[x]?=some (χ t)∧x≠t.St∧w.heap[t.St]?=some (ν 0 s)):=⟨hx,hxS,hSt⟩;have hxs:=ζ hx;have hSs:=ζ hSt;clear hx hxS hSt;refine (callsIn_wide (n:=9)).1 ?_;refine callsIn_of_wp_marks func71 rfl trivial ?_ rfl;simp only[ntmps71,List.size_toArray,List.length_cons,List.length_nil,Nat.reduceAdd,Nat.reduceSub,Array.replicate_succ,Array.replicate_zero,List.push_toArray,List.append_toArray,List.nil_append,List.cons_append];obtain⟨mm,hmm⟩:∃ mm:Int,mm=if most<1 then 0 else most:=⟨_,rfl⟩
 obtain⟨w0,hw0,hR0,hE0,hK0,hs0⟩:∃ w0,w0=(((w.alloc (.cells #[.int .i64 mm] 3)).alloc (.cells #[.slice none 0 0] 29)).alloc (.cells #[.nilIface] 38)).alloc (.cells #[.slice none 0 0] 29)∧w0.heap[w.heap.size+1]?=some (.cells #[.slice none 0 0] 29)∧w0.heap[w.heap.size+1+1]?=some (.cells #[.nilIface] 38)∧Kp [] w w0∧w0.heap.size=w.heap.size+4:=by
  refine⟨_,rfl,θ _ (θ _ ?_),θ _ ?_,((((Kp.refl _ _).alloc _).alloc _).alloc _).alloc _,by simp⟩
  ·have e:=κ (w.alloc (.cells #[.int .i64 mm] 3)) (.cells #[.slice none 0 0] 29);simpa using e
  ·have e:=κ ((w.alloc (.cells #[.int .i64 mm] 3)).alloc (.cells #[.slice none 0 0] 29)) (.cells #[.nilIface] 38);simpa using e
 have HW0:=zh hw0;have HS0:=zh hs0;clear hw0 hs0;by_cases hb:most<1
 ·have HM1:Hid (mm=0):=by show _=_;rw[hmm,if_pos hb]
  clear hmm
  gi_wp2_with fail
  refine⟨trivial,?_⟩;have e0:(((w.alloc (.cells #[.int .i64 0] 3)).alloc (.cells #[.slice none 0 0] 29)).alloc (.cells #[.nilIface] 38)).alloc (.cells #[.slice none 0 0] 29)=w0:=by rw[HW0.out,HM1.out]
  rw[e0];clear e0;refine callsIn_wide.2 ((zD0 x lo hi w0).mono ?_);rintro e w1 ⟨rfl,hB1,hLc1,hHc1,hK1⟩;have hR1:=hK1.hp hR0;have hE1:=hK1.hp hE0;have HK1:Hid (Kp [] w w1):=hK0.tr hK1;have hs1:=hK1.size;clear hR0 hE0 hK0 hK1 hLc1 hHc1
  gi_wp2_with fail
  refine qV0 x t s w0.heap.size (w0.heap.size+1) (w0.heap.size+2) 0 (by decide) rfl rfl (HK1.out.hp HX.out.1) ho (HK1.out.hp HX.out.2.2) hpo HX.out.2.1 hB1 (fun v Pb=>{ tmps:=#[.pointer (some ⟨x,0,none⟩),.string lo,.string hi,.int .i64 most,undef,undef,undef,.pointer (some ⟨w.heap.size,0,none⟩),.pointer (some ⟨w.heap.size+1,0,none⟩),.pointer (some ⟨w.heap.size+1+1,0,none⟩),.pointer (some ⟨w.heap.size+1+1+1,0,none⟩),.pointer (some ⟨Pb,0,none⟩),v,.int .i64 most,.bool true,.pointer (some ⟨x,0,none⟩),.string lo,.string hi,.func (.func 176) #[] #[.pointer (some ⟨w0.heap.size,0,none⟩),.pointer (some ⟨w0.heap.size+1,0,none⟩),.pointer (some ⟨w0.heap.size+2,0,none⟩)],.agg #[.string ⟨#[]⟩,.string ⟨#[]⟩],v,undef,undef,undef,undef,undef,undef,undef,undef,undef,undef,undef,undef],defers:=[] })
   (qB8 (w.heap.size+1) (w.heap.size+1+1)) ?assign ?body ?stop
  case assign=>
   intro l v W K hK
   gi_wp2
   exact hK
  case body=>
   intro l F call W Pb hkp hSt hF;have hRW:=hkp.ho hR1;have hEW:=hkp.ho hE1;have hRs:=ζ hRW;have hEs:=ζ hEW;have r0:=ξ hRW 0;simp only[zG,zH,zI] at r0;have fr0:=μ hRW 0;have e0:=ξ hEW 0;simp only[zG,zH,zI] at e0;have fe0:=μ hEW 0;have hq:∀ W:World,Sem.run prog (binOp .neq 38 (.iface 243 (.pointer (some ⟨F,0,none⟩))) .nilIface) W=.ok (.bool true) W:=fun W=>by kernel_rfl
   have HRE:Hid (W.heap[w.heap.size+1]?=some (.cells #[.slice none 0 0] 29)∧W.heap[w.heap.size+1+1]?=some (.cells #[.nilIface] 38)∧W.heap[F]?=some (.cells #[.string call,.iface 45 (.int .i64 5)] 246)):=⟨hRW,hEW,hF⟩;clear hR1 hE1 hRW hEW hF hSt hB1
   gi_wp2
   refine⟨[w.heap.size+1,w.heap.size+1+1],((Kp.refl _ _).sc _).sc _,?_,F,⟨call,HRE.out.2.2⟩,(qA8 (by omega) _ _).trans (φ HRE.out.1 0 _),φ ((qA8 (by omega) _ _).trans HRE.out.2.1) 0 _,((Kp.refl _ _).sc _).sc _⟩;intro k hk;simp only[List.mem_cons,List.not_mem_nil,or_false] at hk;rcases hk with rfl|rfl
   ·exact⟨_,_,_,HRE.out.1,by decide,by decide⟩
   ·exact⟨_,_,_,HRE.out.2.1,by decide,by decide⟩
  case stop=>
   rintro W ⟨Wa,W3,F0,call0,S3,p1,p2,p3,⟨F,⟨call,q1⟩,q2,q3,q4⟩,p5,p6,p7,rr,p8⟩ hD;have hs0:=HS0.out;have hsW:=Nat.le_trans p1.size (Nat.le_trans p5.size p7.size);have hneL:∀ {k:Nat} {c:Array Value} {u:TypeId} {fr:Nat × Nat},W3.heap[k]?=some (.cells c u fr)→k ∉ [w1.heap.size+1]:=fun hk hm=>by rw[List.mem_singleton.1 hm,p8] at hk;cases hk
   have hn3:∀ {k:Nat} {c:Array Value} {u:TypeId} {fr:Nat × Nat},Wa.heap[k]?=some (.cells c u fr)→(u=169∨u=246)→k ∉ S3:=fun hk hu hm=>by
    obtain⟨c',u',fr',e1,e2,e3⟩:=p6 _ hm;rw[hk] at e1;cases e1;rcases hu with h|h
    ·exact e2 h
    ·exact e3 h
   have hRW:=p7.heap q2 (hneL q2);have hEW:=p7.heap q3 (hneL q3);have hF3:=p5.heap q1 (hn3 q1 (.inr rfl));have hFW:=p7.heap hF3 (hneL hF3);have hS3:=p5.heap p3 (hn3 p3 (.inl rfl));have hSW:=p7.heap hS3 (hneL hS3);have r0:=ξ hRW 0;have e0:=ξ hEW 0;simp only[zG,zH] at r0 e0;have hKW:Kp [t.St] w W:=(((HK1.out.mono (S':=[t.St]) (by simp)).trans p1 (fun _ h _=>h)).trans q4 (by intro i hi hlt;simp at hi;omega)).trans p7 (by intro i hi hlt;simp at hi;omega);have HF:Hid (W.heap[F]?=some (.cells #[.string call,.iface 45 (.int .i64 5)] 246)∧W.heap[t.St]?=some (ν 0 s)∧Kp [t.St] w W∧W.heap[w.heap.size+1]?=some (.cells #[.slice none 0 0] 29)∧W.heap[w.heap.size+1+1]?=some (.cells #[.iface 243 (.pointer (some ⟨F,0,none⟩))] 38)∧W.heap[w1.heap.size]?=some (.deferred (some []))):=⟨hFW,hSW,hKW,hRW,hEW,hD⟩;clear hR1 hE1 hB1 p1 p2 p3 p5 p6 p7 p8 q1 q2 q3 q4 hneL hn3 hRW hEW hF3 hFW hS3 hSW hKW r0 e0
   gi_wp2
   refine⟨by simp,.inl ⟨_,_,rfl,run_takeDeferred HF.out.2.2.2.2.2,?_⟩⟩;obtain⟨hFW,hSW,hKW,hRW,hEW,hD⟩:=HF.out;obtain⟨w5,hw5,hK5⟩:∃ w5,w5=W.putObj w1.heap.size (.deferred none)∧Kp [w1.heap.size] W w5:=⟨_,rfl,(Kp.refl _ _).putObj (by simp) _⟩;rw[←hw5];clear hw5;have hne5:∀ {k:Nat} {c:Array Value} {u:TypeId} {fr:Nat × Nat},W.heap[k]?=some (.cells c u fr)→k ∉ [w1.heap.size]:=fun hk hm=>by rw[List.mem_singleton.1 hm,hD] at hk;cases hk
   have r0:=ξ (hK5.heap hRW (hne5 hRW)) 0;have e0:=ξ (hK5.heap hEW (hne5 hEW)) 0;simp only[zG,zH] at r0 e0;refine⟨.tuple #[.slice none 0 0,.iface 243 (.pointer (some ⟨F,0,none⟩))],?_,_,rfl,⟨F,call,rfl,hK5.heap hFW (hne5 hFW)⟩,hK5.heap hSW (hne5 hSW),hKW.trans hK5 (by intro i hi hlt;simp at hi;omega)⟩;simp[results,results71,go_sem,r0,e0]
 ·have HM1:Hid (mm=most):=by show _=_;rw[hmm,if_neg hb]
  clear hmm
  gi_wp2_with fail
  refine⟨trivial,?_⟩;have e0:(((w.alloc (.cells #[.int .i64 most] 3)).alloc (.cells #[.slice none 0 0] 29)).alloc (.cells #[.nilIface] 38)).alloc (.cells #[.slice none 0 0] 29)=w0:=by rw[HW0.out,HM1.out]
  rw[e0];clear e0;refine callsIn_wide.2 ((zD0 x lo hi w0).mono ?_);rintro e w1 ⟨rfl,hB1,hLc1,hHc1,hK1⟩;have hR1:=hK1.hp hR0;have hE1:=hK1.hp hE0;have HK1:Hid (Kp [] w w1):=hK0.tr hK1;have hs1:=hK1.size;clear hR0 hE0 hK0 hK1 hLc1 hHc1
  gi_wp2_with fail
  refine qV0 x t s w0.heap.size (w0.heap.size+1) (w0.heap.size+2) 0 (by decide) rfl rfl (HK1.out.hp HX.out.1) ho (HK1.out.hp HX.out.2.2) hpo HX.out.2.1 hB1 (fun v Pb=>{ tmps:=#[.pointer (some ⟨x,0,none⟩),.string lo,.string hi,.int .i64 most,undef,undef,undef,.pointer (some ⟨w.heap.size,0,none⟩),.pointer (some ⟨w.heap.size+1,0,none⟩),.pointer (some ⟨w.heap.size+1+1,0,none⟩),.pointer (some ⟨w.heap.size+1+1+1,0,none⟩),.pointer (some ⟨Pb,0,none⟩),v,.int .i64 most,.bool false,.pointer (some ⟨x,0,none⟩),.string lo,.string hi,.func (.func 176) #[] #[.pointer (some ⟨w0.heap.size,0,none⟩),.pointer (some ⟨w0.heap.size+1,0,none⟩),.pointer (some ⟨w0.heap.size+2,0,none⟩)],.agg #[.string ⟨#[]⟩,.string ⟨#[]⟩],v,undef,undef,undef,undef,undef,undef,undef,undef,undef,undef,undef,undef],defers:=[] })
   (qB8 (w.heap.size+1) (w.heap.size+1+1)) ?assign ?body ?stop
  case assign=>
   intro l v W K hK
   gi_wp2
   exact hK
  case body=>
   intro l F call W Pb hkp hSt hF;have hRW:=hkp.ho hR1;have hEW:=hkp.ho hE1;have hRs:=ζ hRW;have hEs:=ζ hEW;have r0:=ξ hRW 0;simp only[zG,zH,zI] at r0;have fr0:=μ hRW 0;have e0:=ξ hEW 0;simp only[zG,zH,zI] at e0;have fe0:=μ hEW 0;have hq:∀ W:World,Sem.run prog (binOp .neq 38 (.iface 243 (.pointer (some ⟨F,0,none⟩))) .nilIface) W=.ok (.bool true) W:=fun W=>by kernel_rfl
   have HRE:Hid (W.heap[w.heap.size+1]?=some (.cells #[.slice none 0 0] 29)∧W.heap[w.heap.size+1+1]?=some (.cells #[.nilIface] 38)∧W.heap[F]?=some (.cells #[.string call,.iface 45 (.int .i64 5)] 246)):=⟨hRW,hEW,hF⟩;clear hR1 hE1 hRW hEW hF hSt hB1
   gi_wp2
   refine⟨[w.heap.size+1,w.heap.size+1+1],((Kp.refl _ _).sc _).sc _,?_,F,⟨call,HRE.out.2.2⟩,(qA8 (by omega) _ _).trans (φ HRE.out.1 0 _),φ ((qA8 (by omega) _ _).trans HRE.out.2.1) 0 _,((Kp.refl _ _).sc _).sc _⟩;intro k hk;simp only[List.mem_cons,List.not_mem_nil,or_false] at hk;rcases hk with rfl|rfl
   ·exact⟨_,_,_,HRE.out.1,by decide,by decide⟩
   ·exact⟨_,_,_,HRE.out.2.1,by decide,by decide⟩
  case stop=>
   rintro W ⟨Wa,W3,F0,call0,S3,p1,p2,p3,⟨F,⟨call,q1⟩,q2,q3,q4⟩,p5,p6,p7,rr,p8⟩ hD;have hs0:=HS0.out;have hsW:=Nat.le_trans p1.size (Nat.le_trans p5.size p7.size);have hneL:∀ {k:Nat} {c:Array Value} {u:TypeId} {fr:Nat × Nat},W3.heap[k]?=some (.cells c u fr)→k ∉ [w1.heap.size+1]:=fun hk hm=>by rw[List.mem_singleton.1 hm,p8] at hk;cases hk
   have hn3:∀ {k:Nat} {c:Array Value} {u:TypeId} {fr:Nat × Nat},Wa.heap[k]?=some (.cells c u fr)→(u=169∨u=246)→k ∉ S3:=fun hk hu hm=>by
    obtain⟨c',u',fr',e1,e2,e3⟩:=p6 _ hm;rw[hk] at e1;cases e1;rcases hu with h|h
    ·exact e2 h
    ·exact e3 h
   have hRW:=p7.heap q2 (hneL q2);have hEW:=p7.heap q3 (hneL q3);have hF3:=p5.heap q1 (hn3 q1 (.inr rfl));have hFW:=p7.heap hF3 (hneL hF3);have hS3:=p5.heap p3 (hn3 p3 (.inl rfl));have hSW:=p7.heap hS3 (hneL hS3);have r0:=ξ hRW 0;have e0:=ξ hEW 0;simp only[zG,zH] at r0 e0;have hKW:Kp [t.St] w W:=(((HK1.out.mono (S':=[t.St]) (by simp)).trans p1 (fun _ h _=>h)).trans q4 (by intro i hi hlt;simp at hi;omega)).trans p7 (by intro i hi hlt;simp at hi;omega);have HF:Hid (W.heap[F]?=some (.cells #[.string call,.iface 45 (.int .i64 5)] 246)∧W.heap[t.St]?=some (ν 0 s)∧Kp [t.St] w W∧W.heap[w.heap.size+1]?=some (.cells #[.slice none 0 0] 29)∧W.heap[w.heap.size+1+1]?=some (.cells #[.iface 243 (.pointer (some ⟨F,0,none⟩))] 38)∧W.heap[w1.heap.size]?=some (.deferred (some []))):=⟨hFW,hSW,hKW,hRW,hEW,hD⟩;clear hR1 hE1 hB1 p1 p2 p3 p5 p6 p7 p8 q1 q2 q3 q4 hneL hn3 hRW hEW hF3 hFW hS3 hSW hKW r0 e0
   gi_wp2
   refine⟨by simp,.inl ⟨_,_,rfl,run_takeDeferred HF.out.2.2.2.2.2,?_⟩⟩;obtain⟨hFW,hSW,hKW,hRW,hEW,hD⟩:=HF.out;obtain⟨w5,hw5,hK5⟩:∃ w5,w5=W.putObj w1.heap.size (.deferred none)∧Kp [w1.heap.size] W w5:=⟨_,rfl,(Kp.refl _ _).putObj (by simp) _⟩;rw[←hw5];clear hw5;have hne5:∀ {k:Nat} {c:Array Value} {u:TypeId} {fr:Nat × Nat},W.heap[k]?=some (.cells c u fr)→k ∉ [w1.heap.size]:=fun hk hm=>by rw[List.mem_singleton.1 hm,hD] at hk;cases hk
   have r0:=ξ (hK5.heap hRW (hne5 hRW)) 0;have e0:=ξ (hK5.heap hEW (hne5 hEW)) 0;simp only[zG,zH] at r0 e0;refine⟨.tuple #[.slice none 0 0,.iface 243 (.pointer (some ⟨F,0,none⟩))],?_,_,rfl,⟨F,call,rfl,hK5.heap hFW (hne5 hFW)⟩,hK5.heap hSW (hne5 hSW),hKW.trans hK5 (by intro i hi hlt;simp at hi;omega)⟩;simp[results,results71,go_sem,r0,e0]
end Go.Proofs.YtdohpenfkdckiaaGreatDoor
namespace Go.Proofs.YtdohpenfkdckiaaGreatDoor
open Go.Proofs.Tryz
open Go.RowKit
open Go.Maps (Keyed)
section
variable {w:World} {kc db St A C N nM:Nat} {s:Sto} {D:DataW Unit} {l:List UInt8} {wr:Int} {nw:Root}
theorem Shop.keepO(hS:Shop w kc db St A C N nM s D l wr nw){w':World}{S:List Nat}{base:Nat}{v:Value}{ps:List KV}(ho:OPA w base v ps)(hK:Kp S w w')(h:∀ k∈S,k∈[St,s.M,A,C]∨∃ t,w.heap[k]?=some (χ t)):OPA w' base v ps:=
 ho.keep hK (fun k hk c fr e=>by
  rcases h k hk with h|⟨t,h⟩
  ·exact hS.nopair k h c fr e
  ·rw[h] at e;simp[χ] at e)
theorem qK8(ps:List KV):(qC0 ps).length≤ps.length:=by
 unfold qC0 qE9;rw[List.length_take];have:=List.length_filter_le (inR ⟨#[]⟩ qM9) ps;omega
end
structure Sht(w0 w:World)(db St A C M xr:Nat)(tr:Tx)(r0:Root)(lv:Value)(j nM:Nat)(s:Sto)(D:DataW Unit)(l:List UInt8)(wr:Int)(nw:Root):Prop where
 shop:Shop w 100 db St A C 300 nM s D l wr nw
 rdr:Rdr w 100 St 300 s D l xr tr r0
 wr0:s.wr=0
 bg:s.bg≤3+3*(j:Int)
 sN:s.N≤10+2*(j:Int)
 nm:nM≤2+2*j
 len:nw.cont.length≤43+12*j
 inn:(⟨qF1,qJ7⟩:KV)∈nw.cont
 one:Maps.size D=1
 opa:OPA w w0.heap.size lv (qC0 r0.cont)
 kp:Kp [] w0 w
 sM:s.M=M
 low:w0.heap.size≤St∧w0.heap.size≤A∧w0.heap.size≤C∧w0.heap.size≤M∧w0.heap.size≤xr∧w0.heap.size≤db
section
variable {w0 w:World} {db St A C M xr:Nat} {tr:Tx} {r0:Root} {lv:Value} {j nM:Nat} {s:Sto} {D:DataW Unit} {l:List UInt8} {wr:Int} {nw:Root}
structure Shu(w0 w:World)(db St A C M xr:Nat)(tr:Tx)(r0:Root)(lv:Value)(j nM:Nat)(s:Sto)(D:DataW Unit)(l:List UInt8)(wr:Int)(nw:Root)(x:Nat)(t:Tx)(r:Root)(m:Value):Prop where
 wrt:Wrt w 100 db St A C 300 nM s D l wr nw x t r s.wr
 rdr:Rdr w 100 St 300 s D l xr tr r0
 wr1:1≤s.wr
 wrb:s.wr≤s.bg
 nrw:tr.nr<s.wr
 bg:s.bg≤5+3*(j:Int)
 sN:s.N≤10+2*(j:Int)
 nm:nM≤3+2*j
 len:nw.cont.length≤43+12*j
 inn:(⟨qF1,qJ7⟩:KV)∈nw.cont
 rin:(⟨qF1,qJ7⟩:KV)∈r.cont
 rlen:r.cont.length≤43+12*(j+1)
 one:Maps.size D=1
 opa:OPA w w0.heap.size lv (qC0 r0.cont)
 opm:OPA w w0.heap.size m (qC0 r.cont)
 kp:Kp [] w0 w
 sM:s.M=M
 low:w0.heap.size≤St∧w0.heap.size≤A∧w0.heap.size≤C∧w0.heap.size≤M∧w0.heap.size≤xr∧w0.heap.size≤db
 xlow:w0.heap.size≤x
theorem Sht.writing(h:Sht w0 w db St A C M xr tr r0 lv j nM s D l wr nw)(hj:j<3)(a:Int)(ha0:-9223372036854775808≤a)(ha1:a≤9223372036854775807)(m:Nat)(hm:m≤12):
  Calls prog 19 #[.pointer (some ⟨db,0,none⟩),.int .i64 a,.int .i64 m] w fun e w'=>∃ x t r v,e=.returned (.tuple #[.pointer (some ⟨x,0,none⟩),v])∧Shu w0 w' db St A C M xr tr r0 lv j nM s.wrote D l wr nw x t r v:=by
 have hbg0:=h.shop.bg0;have hb:=h.bg;refine (zG1 h.shop h.wr0 (by omega) a ha0 ha1 m (by omega) (fun r' hg hz=>?_)).mono ?_
 ·have h1:=qS6 hg;have h2:=h.shop.bl1;have h3:=h.len;omega
 ·rintro e w' ⟨x,t,r,v,rfl,hx,ho,hr,hc,hkp,hK,hW⟩;obtain⟨n1,n2,n3,n4⟩:=h.rdr.ne h.shop;have hs:=h.kp.size;obtain⟨l1,l2,l3,l4,l5,l6⟩:=h.low;have hn1:=h.rdr.nr1;refine⟨x,t,r,v,rfl,?_⟩;exact { wrt:=hW,rdr:=h.rdr.keep (s':=s.wrote) hK (by simp[n1,n3]) rfl (by show s.bg≤s.bg+1;omega) ⟨h.rdr.has,fun _=>rfl⟩ (fun h=>h),wr1:=by show 1≤s.bg+1;omega,wrb:=Int.le_refl _,nrw:=by show tr.nr<s.bg+1;omega,bg:=by show s.bg+1≤_;omega,sN:=h.sN,nm:=by have:=h.nm;omega,len:=h.len,inn:=h.inn,rin:=hkp _ h.inn rfl,rlen:=by have:=h.len;omega,one:=h.one,opa:=h.shop.keepO h.opa hK (fun k hk=>.inl (by simp at hk ⊢;rcases hk with h | h<;>simp[h])),opm:=qI2 ho (by omega),kp:=h.kp.trans hK (by intro i hi hlt;simp at hi;omega),sM:=h.sM,low:=h.low,xlow:=by omega }
theorem Shu.busy{x:Nat}{t:Tx}{r:Root}{m:Value}(h:Shu w0 w db St A C M xr tr r0 lv j nM s D l wr nw x t r m):
  Calls prog 29 #[.pointer (some ⟨db,0,none⟩),.bool true] w fun e w'=>∃ v,e=.returned (.tuple #[.pointer none,v])∧ErrV w' v (some 4)∧Shu w0 w' db St A C M xr tr r0 lv j nM s D l wr nw x t r m:=by
 refine (h.wrt.shop.busyW (by have:=h.wr1;omega)).mono ?_;rintro e w' ⟨v,rfl,hv,hS,hK⟩;obtain⟨n1,n2,n3,n4⟩:=h.rdr.ne h.wrt.shop;have hs:=h.kp.size;obtain⟨l1,l2,l3,l4,l5,l6⟩:=h.low;exact⟨v,rfl,hv,{ h with wrt:=h.wrt.other hS (hK.mono (by simp)) rfl,rdr:=h.rdr.keep hK (by simp[n1]) rfl (Int.le_refl _) ⟨h.rdr.has,fun _=>rfl⟩ (fun h=>h),opa:=h.wrt.shop.keepO h.opa hK (fun k hk=>.inl (by simp at hk ⊢;simp[hk])),opm:=h.wrt.shop.keepO h.opm hK (fun k hk=>.inl (by simp at hk ⊢;simp[hk])),kp:=h.kp.trans hK (by intro i hi hlt;simp at hi;omega) }⟩
theorem Shu.more{x:Nat}{t:Tx}{r:Root}{m:Value}(h:Shu w0 w db St A C M xr tr r0 lv j nM s D l wr nw x t r m){w':World}(hK:Kp [] w w'):Shu w0 w' db St A C M xr tr r0 lv j nM s D l wr nw x t r m:=
 { h with wrt:=h.wrt.other (h.wrt.shop.more hK) (hK.mono (by simp)) rfl,rdr:=h.rdr.keep hK (by simp) rfl (Int.le_refl _) ⟨h.rdr.has,fun _=>rfl⟩ (fun h=>h),opa:=h.opa.keep hK (by simp),opm:=h.opm.keep hK (by simp),kp:=h.kp.tr hK }
theorem qP5{w':World}{nM':Nat}{s':Sto}{l':List UInt8}{wr':Int}{nt:Root}(hS:Shop w 100 db St A C 300 nM s D l wr nw)(v:DataW Unit):Maps.size ((D.put (qA0 (s.bg+1)) v).del (qA0 (s.bg+1)))=Maps.size D:=by
 have htd:=hS.hM.tidy qM3;have hno:Maps.has D (qA0 (s.bg+1))=false:=by
  cases hh:Maps.has D (qA0 (s.bg+1)) with
  | false=>rfl
  | true=>obtain⟨y,e1,e2,e3⟩:=hS.kb _ hh;cases e1;omega
 have h1:=Maps.size_put (k:=qA0 (s.bg+1)) htd v;rw[if_neg (by simp[hno])] at h1;obtain⟨es,rfl,hp⟩:=htd;have ht2:Maps.Tidy ((DataW.map es).put (qA0 (s.bg+1)) v):=Maps.tidy_fold v [qA0 (s.bg+1)] (.map es) ⟨es,rfl,hp⟩ (fun x hx=>by rw[List.mem_singleton.1 hx];trivial);exact xD6 ⟨es,rfl,hp⟩ _ v hno ht2
theorem Shu.now{x:Nat}{t:Tx}{r:Root}{m:Value}(h:Shu w0 w db St A C M xr tr r0 lv j nM s D l wr nw x t r m)(hj:j<3)(hb:s.bg≤4+3*(j:Int))(hn:nM≤2+2*j):
  Calls prog 30 #[.pointer (some ⟨db,0,none⟩)] w fun e w'=>∃ v D',e=.returned (.tuple #[v,.bool true])∧OPA w' w0.heap.size v (qC0 nw.cont)∧Shu w0 w' db St A C M xr tr r0 lv j (nM+1) s.read D' l wr nw x t r m:=by
 refine (zP7 h.wrt.shop (by have:=h.one;omega) (by omega) (by omega) h.wrb).mono ?_;rintro e w' ⟨v,rfl,ho,hS,hK⟩;obtain⟨n1,n2,n3,n4⟩:=h.rdr.ne h.wrt.shop;have hs:=h.kp.size;obtain⟨l1,l2,l3,l4,l5,l6⟩:=h.low;have hM:=h.sM;have hk:∀ k∈[St,s.M,A],k∈[St,s.M,A,C]∨∃ t,w.heap[k]?=some (χ t):=fun k hk=>.inl (by simp at hk ⊢;rcases hk with h | h | h<;>simp[h]);refine⟨v,(D.put (qA0 (s.bg+1)) (qE8 ⟨⟨#[]⟩,s.rb,s.rs,none⟩)).del (qA0 (s.bg+1)),rfl,qI2 ho (by omega),?_⟩;exact { h with wrt:=h.wrt.other hS hK rfl,rdr:=h.rdr.keep (s':=s.read) hK (by simp[n1,n2,n3]) rfl (by show s.bg≤s.bg+1;omega) (h.rdr.cycle _ (by omega) _) (fun h=>h),wrb:=by show s.wr≤s.bg+1;have:=h.wrb;omega,bg:=by show s.bg+1≤_;omega,nm:=by omega,one:=by rw[qP5 (w':=w') (nM':=nM) (s':=s) (l':=l) (wr':=wr) (nt:=nw) h.wrt.shop];exact h.one,opa:=h.wrt.shop.keepO h.opa hK hk,opm:=h.wrt.shop.keepO h.opm hK hk,kp:=h.kp.trans hK (by intro i hi hlt;simp at hi;omega) }
theorem Shu.commit{x:Nat}{t:Tx}{r:Root}{m:Value}(h:Shu w0 w db St A C M xr tr r0 lv j nM s D l wr nw x t r m)(hj:j<3):
  Calls prog 31 #[.pointer (some ⟨x,0,none⟩)] w fun e w'=>e=.returned .nilIface∧∃ s' D' l' wr' nt,Shop w' 100 db St A C 300 nM s' D' l' wr' nt∧nt.cont=r.cont∧Rdr w' 100 St 300 s' D' l' xr tr r0∧s'.wr=0∧s'.bg=s.bg∧s'.N≤10+2*((j+1:Nat):Int)∧s'.M=M∧Maps.size D'=1∧OPA w' w0.heap.size lv (qC0 r0.cont)∧OPA w' w0.heap.size m (qC0 r.cont)∧Kp [] w0 w':=by
 have hnr:=h.wrt.nr;have hw1:=h.wr1;have hwb:=h.wrb;have hb:=h.bg;have g1:=zB1 h.wrt.live.good;have g2:=qS6 h.wrt.live.good;have g3:=zB1 h.wrt.shop.good;have g4:=h.len;have g5:=h.rlen;have hsN:=h.sN;refine (h.wrt.shop.commits h.wrt.live h.wrt.st h.wrt.wrt (by omega) (by omega) (by omega) (by omega) (by rw[h.one];omega)).mono ?_;rintro e w' ⟨rfl,s',l',wr',nt,c1,c2,c3,c4,c5,c6,c7,c8,hK,c9⟩;obtain⟨n1,n2,n3,n4⟩:=h.rdr.ne h.wrt.shop;have hs:=h.kp.size;obtain⟨l1,l2,l3,l4,l5,l6⟩:=h.low;have hM:=h.sM;have hxl:=h.xlow;have hxr:xr≠x:=fun e=>by
  have h1:=h.rdr.hx;rw[e,h.wrt.live.hx] at h1;have h2:=h.wrt.wrt;have h3:=h.rdr.wrt;simp[χ] at h1;rw[h1.2.2.1,h3] at h2;cases h2
 have hnn:tr.nr≠t.nr:=by have:=h.nrw;omega
 have hgo:=h.rdr.gone t.nr hnn;obtain⟨rb,rs,he⟩:=h.rdr.h;have hk:∀ k∈[St,x,s.M,A,C],k∈[St,s.M,A,C]∨∃ t,w.heap[k]?=some (χ t):=fun k hk=>by
  simp only[List.mem_cons,List.not_mem_nil,or_false] at hk;rcases hk with h'|h'|h'|h'|h'
  ·simp[h']
  ·exact .inr ⟨t,by rw[h'];exact h.wrt.live.hx⟩
  ·simp[h']
  ·simp[h']
  ·simp[h']
 have htd:=h.wrt.shop.hM.tidy qM3;have hsd:=Maps.size_del (k:=qA0 t.nr) htd;have hone:=h.one;have hsz:Maps.size (D.del (qA0 t.nr))=1:=by
  have hp:0<Maps.size (D.del (qA0 t.nr)):=by
   have htd2:=c1.hM.tidy qM3;obtain⟨es,e1,_⟩:=htd2;have hh:=hgo.1;rw[e1] at hh ⊢
   cases es with
   | nil=>simp[Maps.has] at hh
   | cons _ _=>simp[Maps.size]
  omega
 refine⟨rfl,s',_,l',wr',nt,c1,c2,h.rdr.keep (s':=s') hK (by simp[n1,n2,n3,n4,hxr]) c6 (by omega) hgo (fun hl=>?_),?_,c4,by omega,by omega,hsz,h.wrt.shop.keepO h.opa hK hk,h.wrt.shop.keepO h.opm hK hk,h.kp.trans hK (by intro i hi hlt;simp at hi;omega)⟩
 ·rw[he] at hl ⊢;refine c9 tr.nr rb rs r0 hgo.1 (fun zd=>?_) hl;rw[hgo.2 zd,h.rdr.at_ zd,he]
 ·rw[c5];show (if t.nr=s.wr then 0 else _)=(0:Int);rw[if_pos hnr]
end
section
variable {w0 w:World} {db St A C M xr:Nat} {tr:Tx} {r0:Root} {lv:Value} {j nM:Nat} {s:Sto} {D:DataW Unit} {l:List UInt8} {wr:Int} {nw:Root}
theorem Shu.done{x:Nat}{t:Tx}{r:Root}{m:Value}(h:Shu w0 w db St A C M xr tr r0 lv j nM s D l wr nw x t r m)(hj:j<3):
  Calls prog 31 #[.pointer (some ⟨x,0,none⟩)] w fun e w'=>e=.returned .nilIface∧∃ s' D' l' wr' nt,Sht w0 w' db St A C M xr tr r0 lv (j+1) nM s' D' l' wr' nt∧s'.bg=s.bg∧nt.cont=r.cont∧OPA w' w0.heap.size m (qC0 r.cont):=by
 refine (h.commit hj).mono ?_;rintro e w' ⟨rfl,s',D',l',wr',nt,c1,c2,c3,c4,c5,c6,c7,c8,c9,c10,c11⟩;have hb:=h.bg;have hn:=h.nm;have hr:=h.rlen;exact⟨rfl,s',D',l',wr',nt,{ shop:=c1,rdr:=c3,wr0:=c4,bg:=by rw[c5];omega,sN:=c6,nm:=by omega,len:=by rw[c2];exact hr,inn:=by rw[c2];exact h.rin,one:=c8,opa:=c9,kp:=c11,sM:=c7,low:=h.low },c5,c2,c10⟩
theorem Sht.now(h:Sht w0 w db St A C M xr tr r0 lv j nM s D l wr nw)(hj:j≤3)(hb:s.bg+1≤3+3*(j:Int))(hn:nM+1≤2+2*j):
  Calls prog 30 #[.pointer (some ⟨db,0,none⟩)] w fun e w'=>∃ v D',e=.returned (.tuple #[v,.bool true])∧OPA w' w.heap.size v (qC0 nw.cont)∧Kp [St,s.M,A] w w'∧Sht w0 w' db St A C M xr tr r0 lv j (nM+1) s.read D' l wr nw:=by
 have hb0:=h.shop.bg0;have hw:=h.wr0;refine (zP7 h.shop (by have:=h.one;omega) (by omega) (by omega) (by omega)).mono ?_;rintro e w' ⟨v,rfl,ho,hS,hK⟩;obtain⟨n1,n2,n3,n4⟩:=h.rdr.ne h.shop;have hs:=h.kp.size;obtain⟨l1,l2,l3,l4,l5,l6⟩:=h.low;have hM:=h.sM;have hk:∀ k∈[St,s.M,A],k∈[St,s.M,A,C]∨∃ t,w.heap[k]?=some (χ t):=fun k hk=>.inl (by simp at hk ⊢;rcases hk with h | h | h<;>simp[h]);refine⟨v,(D.put (qA0 (s.bg+1)) (qE8 ⟨⟨#[]⟩,s.rb,s.rs,none⟩)).del (qA0 (s.bg+1)),rfl,ho,hK,?_⟩;exact { h with shop:=hS,rdr:=h.rdr.keep (s':=s.read) hK (by simp[n1,n2,n3]) rfl (by show s.bg≤s.bg+1;omega) (h.rdr.cycle _ (by omega) _) (fun h=>h),bg:=by show s.bg+1≤_;omega,nm:=by omega,one:=by rw[qP5 (w':=w') (nM':=nM) (s':=s) (l':=l) (wr':=wr) (nt:=nw) h.shop];exact h.one,opa:=h.shop.keepO h.opa hK hk,kp:=h.kp.trans hK (by intro i hi hlt;simp at hi;omega) }
theorem Sht.all(h:Sht w0 w db St A C M xr tr r0 lv j nM s D l wr nw):
  Calls prog 32 #[.pointer (some ⟨xr,0,none⟩)] w fun e w'=>∃ v,e=.returned (.tuple #[v,.bool true])∧OPA w' w.heap.size v (qC0 r0.cont)∧Kp [St,A] w w'∧Sht w0 w' db St A C M xr tr r0 lv j nM s D l wr nw:=by
 have hL:=h.rdr.live h.shop;refine (zC5 h.shop.E xr A 300 tr s r0 w hL).mono ?_;rintro e w' ⟨v,rfl,ho,hb⟩;obtain⟨n1,n2,n3,n4⟩:=h.rdr.ne h.shop;have hs:=h.kp.size;obtain⟨l1,l2,l3,l4,l5,l6⟩:=h.low;have hst:=h.rdr.st;have hK:Kp [St,A] w w':=hb.kp.mono (by
  intro i hi _;rw[hst] at hi;rcases List.mem_cons.1 hi with h|h
  ·simp[h]
  ·have h':i∈[A]:=h;simp at h';simp[h'])
 have hS:=h.shop.quiet h.rdr.hx (hK.mono (by simp +contextual)) hb.dev (by have:=hb.hSt;rw[hst] at this;exact this);have hk:∀ k∈[St,A],k∈[St,s.M,A,C]∨∃ t,w.heap[k]?=some (χ t):=fun k hk=>.inl (by simp at hk ⊢;rcases hk with h | h<;>simp[h]);exact⟨v,rfl,ho,hK,{ h with shop:=hS,rdr:=h.rdr.keep hK (by simp[n1,n3]) rfl (Int.le_refl _) ⟨h.rdr.has,fun _=>rfl⟩ (fun h=>h),opa:=h.shop.keepO h.opa hK hk,kp:=h.kp.trans hK (by intro i hi hlt;simp at hi;omega) }⟩
theorem Sht.more(h:Sht w0 w db St A C M xr tr r0 lv j nM s D l wr nw){w':World}(hK:Kp [] w w'):Sht w0 w' db St A C M xr tr r0 lv j nM s D l wr nw:=
 { h with shop:=h.shop.more hK,rdr:=h.rdr.keep hK (by simp) rfl (Int.le_refl _) ⟨h.rdr.has,fun _=>rfl⟩ (fun h=>h),opa:=h.opa.keep hK (by simp),kp:=h.kp.tr hK }
end
theorem zI3(x:Nat)(t:Tx)(s:Sto)(w:World)(hx:w.heap[x]?=some (χ t))(ho:t.over=true)(hSt:w.heap[t.St]?=some (ν 0 s))(hpo:s.po=false)(hxS:x≠t.St):
  Calls prog 32 #[.pointer (some ⟨x,0,none⟩)] w fun e w'=>e=.returned (.tuple #[.slice none 0 0,.bool false])∧Kp [t.St] w w':=by
 have HC:Hid (Calls prog 71 #[.pointer (some ⟨x,0,none⟩),.string ⟨#[]⟩,.string ⟨#[255,255,255,255,255,255,255,255,255]⟩,.int .i64 1048576] w fun e w'=>∃ v,e=.returned (.tuple #[.slice none 0 0,v])∧ErrV w' v (some 5)∧w'.heap[t.St]?=some (ν 0 s)∧Kp [t.St] w w'):=zY3 x t s ⟨#[]⟩ qM9 1048576 w hx ho hSt hpo hxS;clear hx ho hSt hpo hxS;go_enter func32,ntmps32;go_wp2_with fail;refine (show Calls _ _ _ _ _ from HC.out).mono ?_;rintro e w1 ⟨v,rfl,⟨F,cl,rfl,_⟩,_,hK⟩;have HK:=zh hK;clear hK HC;go_wp2_with fail
 go_quiet (fail)
 go_wp2
 go_ret2
 exact⟨rfl,HK.out.drewN _⟩
section
variable {w0 w:World} {db St A C M xr:Nat} {tr:Tx} {r0:Root} {lv:Value} {j nM:Nat} {s:Sto} {D:DataW Unit} {l:List UInt8} {wr:Int} {nw:Root}
theorem Sht.put(h:Sht w0 w db St A C M xr tr r0 lv j nM s D l wr nw)(p:KV):
  Calls prog 34 #[.pointer (some ⟨xr,0,none⟩),.string p.k,.string p.v] w fun e w'=>∃ v,e=.returned v∧ErrV w' v (some 6)∧Sht w0 w' db St A C M xr tr r0 lv j nM s D l wr nw:=by
 have hL:=h.rdr.live h.shop;refine (zN6 h.shop.E xr A 300 tr s r0 p 6 w hL (by unfold qB4;rw[if_pos h.rdr.wrt])).mono ?_;rintro e w' ⟨v,rfl,hv,hb⟩;obtain⟨n1,n2,n3,n4⟩:=h.rdr.ne h.shop;have hs:=h.kp.size;obtain⟨l1,l2,l3,l4,l5,l6⟩:=h.low;have hst:=h.rdr.st;have hK:Kp [St,A] w w':=hb.kp.mono (by
  intro i hi _;rw[hst] at hi;rcases List.mem_cons.1 hi with h|h
  ·simp[h]
  ·have h':i∈[A]:=h;simp at h';simp[h'])
 have hS:=h.shop.quiet h.rdr.hx (hK.mono (by simp +contextual)) hb.dev (by have:=hb.hSt;rw[hst] at this;exact this);have hk:∀ k∈[St,A],k∈[St,s.M,A,C]∨∃ t,w.heap[k]?=some (χ t):=fun k hk=>.inl (by simp at hk ⊢;rcases hk with h | h<;>simp[h]);exact⟨v,rfl,hv,{ h with shop:=hS,rdr:=h.rdr.keep hK (by simp[n1,n3]) rfl (Int.le_refl _) ⟨h.rdr.has,fun _=>rfl⟩ (fun h=>h),opa:=h.shop.keepO h.opa hK hk,kp:=h.kp.trans hK (by intro i hi hlt;simp at hi;omega) }⟩
theorem Sht.end_(h:Sht w0 w db St A C M xr tr r0 lv j nM s D l wr nw)(hj:j≤3):
  Calls prog 31 #[.pointer (some ⟨xr,0,none⟩)] w fun e w'=>e=.returned .nilIface∧Kp [] w0 w'∧Calls prog 32 #[.pointer (some ⟨xr,0,none⟩)] w' fun e w''=>e=.returned (.tuple #[.slice none 0 0,.bool false])∧Kp [] w0 w'':=by
 obtain⟨n1,n2,n3,n4⟩:=h.rdr.ne h.shop;have hst:=h.rdr.st;have hb:=h.bg;have h1:=h.rdr.nr0;have h2:=h.rdr.nr1;obtain⟨l1,l2,l3,l4,l5,l6⟩:=h.low;have hM:=h.sM;have hs:=h.kp.size;have hMS:s.M≠tr.St:=by rw[hst];exact (qF2 h.shop.hSt h.shop.hM).symm
 refine (xH3 xr nM s.V tr s D w h.rdr.hx h.rdr.over (by rw[hst];exact h.shop.hSt) h.shop.po h.shop.hM (by omega) (by omega) hMS (by rw[hst];exact n1) n2 h.shop.hM.lt h.rdr.on h.rdr.wrt).mono ?_;rintro e w' ⟨rfl,c1,c2,c3,hK⟩;rw[hst] at hK;have hkp:Kp [] w0 w':=h.kp.trans hK (by intro i hi hlt;simp at hi;omega);refine⟨rfl,hkp,(zI3 xr tr.ended (s.left tr.nr) w' c1 rfl c2 h.shop.po (by show xr≠tr.St;rw[hst];exact n1)).mono ?_⟩;rintro e w'' ⟨rfl,hK2⟩;have hK3:Kp [St] w' w'':=by have h':Kp [tr.St] w' w'':=hK2;rw[hst] at h';exact h'
 have:=hkp.size;exact⟨rfl,hkp.trans hK3 (by intro i hi hlt;simp at hi;omega)⟩
end
end Go.Proofs.YtdohpenfkdckiaaGreatDoor
namespace Go.Proofs.YtdohpenfkdckiaaGreatDoor
open Go.Proofs.Tryz
open Go.RowKit
theorem zY2{V A N C:Nat}{l:List UInt8}{wr:Int}{hN:N≤1000}{hs:l.length=N*128}{hAC:C≠A}{hVA:V≠A}{w:World}{h:HL}{r:Root}{rb rs:Int}(hr:RR (EL V A N C l wr hN hs hAC hVA).toEnv w h r)(hl:Lie N l rb rs r)(hg:RGood r):h=⟨⟨#[]⟩,rb,rs,none⟩:=by
 cases r with
 | none=>obtain⟨rfl,rfl⟩:=hl;exact hr
 | «at» n L=>
  obtain⟨b,rfl,e2,e3⟩:=hl;obtain⟨h1,h2⟩:=hr;rw[e2] at h2;obtain⟨f1,f2,f3,_⟩:=h2;cases h;simp only at h1 f1 f2 f3;rw[h1,f1,f2,f3,hg.1]
theorem zZ8(a b c:Int)(ha0:-9223372036854775808≤a)(ha1:a≤9223372036854775807)(hb0:-9223372036854775808≤b)(hb1:b≤9223372036854775807)(hc0:-9223372036854775808≤c)(hc1:c≤9223372036854775807)(w:World)(h0:0<w.heap.size)(hg:w.cell? ⟨0,0,none⟩=some qK2):
  Calls prog 12 #[.int .i64 a,.int .i64 b,.int .i64 c] w fun e w'=>e=.returned (.bool true)∧Kp [] w w':=by
 have HG:Hid (0<w.heap.size∧w.cell? ⟨0,0,none⟩=some qK2):=⟨h0,hg⟩;clear h0 hg;have HB:Hid (Calls prog 18 #[.int .i64 300,.int .i64 a] w fun e w'=>∃ db St A C s l wr nw v,e=.returned (.tuple #[.pointer (some ⟨A,0,none⟩),.pointer (some ⟨db,0,none⟩),v])∧Shop w' 100 db St A C 300 1 s emp l wr nw∧OPA w' w.heap.size v (qC0 nw.cont)∧s.wr=0∧s.bg=2∧s.N≤10∧nw.cont.length≤43∧(⟨qF1,qJ7⟩:KV)∈nw.cont∧w.heap.size≤A∧w.heap.size≤C∧w.heap.size≤St∧w.heap.size≤db∧w.heap.size≤s.M∧Kp [] w w'):=zX2 300 100 (by omega) (by omega) (by omega) (by omega) a ha0 ha1 w;go_enter func12,ntmps12;go_wp2_with fail;refine (show Calls _ _ _ _ _ from HB.out).mono ?_;rintro e w1 ⟨db,St,A,C,s,l,wr,nw,v,rfl,hS1,ho1,hwr,hbg,hsN,hnw,hin,gA,gC,gSt,gdb,gM,hK1⟩;have HBR:Hid (Calls prog 29 #[.pointer (some ⟨db,0,none⟩),.bool false] w1 fun e w'=>∃ x t D',e=.returned (.tuple #[.pointer (some ⟨x,0,none⟩),.nilIface])∧w1.heap.size≤x∧t.St=St∧t.nr=s.bg+1∧t.wrt=false∧t.ch=0∧Kp [St,s.M] w1 w'∧D'=emp.put (qA0 (s.bg+1)) (qE8 ⟨⟨#[]⟩,s.rb,s.rs,none⟩)∧∃ hS':Shop w' 100 db St A C 300 (1+1) s.read D' l wr nw,LiveT hS'.E w' x A 300 t s.read nw):=hS1.beginR (by show 0<4;omega) (by omega) (by omega);have HS1:=zh hS1;obtain⟨ob,oc,rfl⟩:=qL2 ho1;obtain⟨sl,hsl⟩:∃ sl,sl=(qC0 nw.cont).length:=⟨_,rfl⟩;rw[←hsl] at ho1 ⊢;have HO1:=zh ho1;have HK1:=zh hK1;have HIN:=zh hin;clear hS1 ho1 hK1 HB hsl hin;go_wp2_with fail;refine (show Calls _ _ _ _ _ from HBR.out).mono ?_;rintro e w2 ⟨xr,tr,D,rfl,hx,t1,t2,t3,t4,hK2,hD,hS2,hL2⟩;have hs1:=HK1.out.size;have HSH:Hid (Sht w w2 db St A C s.M xr tr nw (.slice ob sl oc) 0 2 s.read D l wr nw):=by
  have hte:=zY2 hL2.rr hS2.lie hS2.good;have hSM:∀ k∈[St,s.M],k∈[St,s.M,A,C]∨∃ t,w1.heap[k]?=some (χ t):=fun k hk=>.inl (by simp at hk ⊢;rcases hk with h | h<;>simp[h]);have hem:Maps.Tidy emp:=⟨[],rfl,List.Pairwise.nil⟩;refine { shop:=hS2,rdr:={ hx:=hL2.hx,over:=hL2.over,on:=hL2.on,st:=t1,h:=⟨_,_,hte⟩,wrt:=t3,ch:=t4,nr0:=by rw[t2];omega,nr1:=by rw[t2];exact Int.le_refl _,has:=?_,at_:=?_,lie:=by rw[hte];exact hS2.lie,good:=hS2.good,sz:=hS2.sz },wr0:=hwr,bg:=by show s.bg+1≤_;omega,sN:=by show s.N≤_;omega,nm:=by omega,len:=by omega,inn:=HIN.out,one:=?_,opa:=HS1.out.keepO HO1.out hK2 hSM,kp:=HK1.out.trans hK2 (by intro i hi hlt;simp at hi;omega),sM:=rfl,low:=⟨gSt,gA,gC,gM,by omega,gdb⟩ }
  ·rw[hD,t2];exact Maps.has_put_same hem.isMap (show WideAt.IsKeyLit (qA0 _) from trivial) _
  ·intro zd;rw[hD,t2,Maps.atKey_put_same hem.isMap (show WideAt.IsKeyLit (qA0 _) from trivial),hte];rfl
  ·rw[hD,Maps.size_put hem,if_neg (by simp[emp,Maps.has])];rfl
 clear hL2;clear hS2 hD hK2 HBR HS1 HO1 HK1 t1 t2 t3 t4;obtain⟨M,hM⟩:∃ M,M=s.M:=⟨_,rfl⟩;rw[←hM] at HSH;clear hM gM hwr hbg hsN hnw HIN;have HS0:Hid (∃ nM s D l wr nw',Sht w w2 db St A C M xr tr nw (.slice ob sl oc) 0 nM s D l wr nw'):=⟨_,_,_,_,_,_,HSH.out⟩;clear HSH;go_wp2_with fail
 go_loopw [12] (fun i wq=>∃ (j:Nat),j≤3∧i=.int .i64 j∧Hid (∃ nM s D l wr nw',Sht w wq db St A C M xr tr nw (.slice ob sl oc) j nM s D l wr nw')) (fun i _=>3-(intOf i).toNat)
 case atStart=>exact⟨0,by omega,rfl,HS0⟩
 case round=>
  obtain⟨j,hj,rfl,HJ⟩:=hrel;by_cases hlt:j<3
  ·have hjb:(j:Int)<3:=by omega
   go_wp2_with fail;refine (qZ9 c 12 hc0 hc1 (by omega) (by omega) _).mono ?_;rintro e w3 ⟨⟨k,rfl,hk0,hk12⟩,rfl⟩;obtain⟨bv,hbv⟩:∃ bv:Int,bv=wrap64 (b+(j:Int)):=⟨_,rfl⟩;have hv0:-9223372036854775808≤bv:=by rw[hbv];simp only[wrap64];omega
   have hv1:bv≤9223372036854775807:=by rw[hbv];simp only[wrap64];omega
   obtain⟨mk,hmk⟩:∃ mk:Nat,(mk:Int)=1+k:=⟨(1+k).toNat,by omega⟩;obtain⟨nM,s3,D3,l3,wr3,nw3,hSh⟩:=HJ.out;have hn3:=hSh.nm;have hb3:=hSh.bg;have HW:Hid (Calls prog 19 #[.pointer (some ⟨db,0,none⟩),.int .i64 (wrap64 (b+(j:Int))),.int .i64 (1+k)] w3 fun e w'=>∃ x t r v,e=.returned (.tuple #[.pointer (some ⟨x,0,none⟩),v])∧Shu w w' db St A C M xr tr nw (.slice ob sl oc) j nM s3.wrote D3 l3 wr3 nw3 x t r v):=by
    rw[←hbv,←hmk];exact hSh.writing hlt bv hv0 hv1 mk (by omega)
   have HNZ:Hid (0<(qC0 nw3.cont).length):=xF1 hSh.inn (by kernel_rfl);clear hSh hmk hbv HJ hv0 hv1;go_wp2_with fail;refine (show Calls _ _ _ _ _ from HW.out).mono ?_;rintro e w4 ⟨x,t,r,m1,rfl,hU4⟩;obtain⟨mb,mc,rfl⟩:=qL2 hU4.opm;obtain⟨ml,hml⟩:∃ ml,ml=(qC0 r.cont).length:=⟨_,rfl⟩;rw[←hml] at hU4 ⊢;have HML:=zh hml;have HU4:=zh hU4;clear hU4 HW hml;go_wp2_with fail;refine (show Calls _ _ _ _ _ from HU4.out.busy).mono ?_;rintro e w5 ⟨v5,rfl,⟨F,cl,rfl,hF⟩,hU5⟩;have HTO:Hid (Calls prog 24 #[.iface 243 (.pointer (some ⟨F,0,none⟩))] w5 fun e w'=>e=.returned (.int .i64 4)∧Kp [] w5 w'):=qU6 F cl 4 w5 (hU5.kp.zero HG.out.1 HG.out.2) hF;have HU5:=zh hU5;clear hU5 hF HU4;go_wp2_with fail;refine (show Calls _ _ _ _ _ from HTO.out).mono ?_;rintro e w6 ⟨rfl,hK6⟩;have HNOW:Hid (Calls prog 30 #[.pointer (some ⟨db,0,none⟩)] w6 fun e w'=>∃ v D',e=.returned (.tuple #[v,.bool true])∧OPA w' w.heap.size v (qC0 nw3.cont)∧Shu w w' db St A C M xr tr nw (.slice ob sl oc) j (nM+1) s3.wrote.read D' l3 wr3 nw3 x t r (.slice mb ml mc)):=(HU5.out.more hK6).now hlt (by show s3.bg+1≤_;omega) hn3;clear hK6 HTO HU5;go_wp2_with fail;refine (show Calls _ _ _ _ _ from HNOW.out).mono ?_;rintro e w7 ⟨v7,D7,rfl,ho7,hU7⟩;obtain⟨b7,c7,rfl⟩:=qL2 ho7;obtain⟨n7,hn7⟩:∃ n7,n7=(qC0 nw3.cont).length:=⟨_,rfl⟩;have hnz:=HNZ.out;rw[←hn7] at hnz ⊢;have HU7:=zh hU7;clear hU7 ho7 HNOW hn7 HNZ;go_wp2_with fail;refine (show Calls _ _ _ _ _ from HU7.out.done hlt).mono ?_;rintro e w8 ⟨rfl,s8,D8,l8,wr8,nt,hT8,hbg8,hnt,hom8⟩;have hbg8':s8.bg=s3.bg+1+1:=hbg8;have HNOW:Hid (Calls prog 30 #[.pointer (some ⟨db,0,none⟩)] w8 fun e w'=>∃ v D',e=.returned (.tuple #[v,.bool true])∧OPA w' w8.heap.size v (qC0 nt.cont)∧Kp [St,s8.M,A] w8 w'∧Sht w w' db St A C M xr tr nw (.slice ob sl oc) (j+1) (nM+1+1) s8.read D' l8 wr8 nt):=hT8.now (by omega) (by omega) (by omega);have HT8:=zh hT8;have HOM8:Hid (OPA w8 w.heap.size (.slice mb ml mc) (qC0 nt.cont)):=by rw[hnt];exact hom8
   have HNT:=zh hnt;clear hT8 hom8 hnt hbg8 hbg8' HU7;go_wp2_with fail;refine (show Calls _ _ _ _ _ from HNOW.out).mono ?_;rintro e w9 ⟨v9,D9,rfl,ho9,hK9,hT9⟩;have hom9:=HT8.out.shop.keepO HOM8.out hK9 (fun k hk=>.inl (by simp at hk ⊢;rcases hk with h | h | h<;>simp[h]));obtain⟨b9,c9,rfl⟩:=qL2 ho9;have hl9:(qC0 nt.cont).length=ml:=by rw[HNT.out];exact HML.out.symm
   have HALL:=zh hT9.all;have HT9:=zh hT9;have HO9:Hid (OPA w9 w.heap.size (.slice mb ml mc) (qC0 nt.cont)∧OPA w9 w8.heap.size (.slice b9 ml c9) (qC0 nt.cont)):=⟨hom9,by rw[hl9] at ho9;exact ho9⟩;rw[hl9];clear ho9 hK9 hT9 hom9 HNOW HT8 HOM8 hl9;go_wp2_with fail;refine (show Calls _ _ _ _ _ from HALL.out).mono ?_;rintro e w10 ⟨v10,rfl,ho10,hK10,hT10⟩;have hk10:∀ k∈[St,A],k∈[St,s8.read.M,A,C]∨∃ t,w9.heap[k]?=some (χ t):=fun k hk=>.inl (by simp at hk ⊢;rcases hk with h | h<;>simp[h]);have hom10:=HT9.out.shop.keepO HO9.out.1 hK10 hk10;have hoa10:=HT9.out.shop.keepO HO9.out.2 hK10 hk10;have h79:nw.cont.length≤1000:=by have:=hT10.rdr.sz;omega
   have HS1:Hid (Calls prog 33 #[v10,.slice ob sl oc] w10 fun e w'=>e=.returned (.bool true)∧Kp [] w10 w'):=zP8 _ _ _ _ (qC0 nw.cont) w10 ho10 hT10.opa (by have:=qK8 nw.cont;omega);have HS2:Hid (∀ w',Kp [] w10 w'→Calls prog 33 #[.slice b9 ml c9,.slice mb ml mc] w' fun e w''=>e=.returned (.bool true)∧Kp [] w' w''):=fun w' hK=>zP8 _ _ _ _ (qC0 nt.cont) w' (hoa10.keep hK (by simp)) (hom10.keep hK (by simp)) (by have:=qK8 nt.cont;have:=hT10.len;omega);have HT10:=zh hT10;obtain⟨b10,c10,rfl⟩:=qL2 ho10;obtain⟨n10,hn10⟩:∃ n10,n10=(qC0 nw.cont).length:=⟨_,rfl⟩;rw[←hn10] at HS1 ⊢;clear ho10 hK10 hT10 hom10 hoa10 HALL HT9 HO9 hn10 h79;go_wp2_with fail;refine (show Calls _ _ _ _ _ from HS1.out).mono ?_;rintro e w11 ⟨rfl,hK11⟩;have HS3:=Hid.mk' (HS2.out w11 hK11);have HT11:=Hid.mk' (HT10.out.more hK11);clear hK11 HS1 HS2 HT10;go_wp2_with fail;refine (show Calls _ _ _ _ _ from HS3.out).mono ?_;rintro e w12 ⟨rfl,hK12⟩;have HT12:=Hid.mk' (HT11.out.more hK12);have hnz0:¬(n7:Int)=0:=by omega
   clear hK12 HS3 HT11;go_wp2;exact⟨⟨j+1,by omega,by go_num,⟨_,_,_,_,_,_,HT12.out⟩⟩,by simp[intOf];omega⟩
  ·have hj3:j=3:=by omega
   subst hj3;obtain⟨nM,s3,D3,l3,wr3,nw3,hSh⟩:=HJ.out;have HP:Hid (Calls prog 34 #[.pointer (some ⟨xr,0,none⟩),.string ⟨#[107]⟩,.string ⟨#[118]⟩] wr fun e w'=>∃ v,e=.returned v∧ErrV w' v (some 6)∧Sht w w' db St A C M xr tr nw (.slice ob sl oc) 3 nM s3 D3 l3 wr3 nw3):=hSh.put ⟨⟨#[107]⟩,⟨#[118]⟩⟩;clear hSh HJ;go_wp2_with fail;refine (show Calls _ _ _ _ _ from HP.out).mono ?_;rintro e w3 ⟨v3,rfl,⟨F,cl,rfl,hF⟩,hS3⟩;have HTO:Hid (Calls prog 24 #[.iface 243 (.pointer (some ⟨F,0,none⟩))] w3 fun e w'=>e=.returned (.int .i64 6)∧Kp [] w3 w'):=qU6 F cl 6 w3 (hS3.kp.zero HG.out.1 HG.out.2) hF;have HS3:=zh hS3;clear hS3 hF HP;go_wp2_with fail;refine (show Calls _ _ _ _ _ from HTO.out).mono ?_;rintro e w4 ⟨rfl,hK4⟩;have HC:=Hid.mk' ((HS3.out.more hK4).end_ (by omega));clear hK4 HTO HS3;go_wp2_with fail;refine (show Calls _ _ _ _ _ from HC.out).mono ?_;rintro e w5 ⟨rfl,_,hA⟩;have HA:=Hid.mk' hA;clear hA HC;go_wp2_with fail;refine (show Calls _ _ _ _ _ from HA.out).mono ?_;rintro e w6 ⟨rfl,hK6⟩;have HK6:=zh hK6;clear hK6 HA;go_wp2;go_ret;exact⟨rfl,HK6.out⟩
end Go.Proofs.YtdohpenfkdckiaaGreatDoor
namespace Go.Proofs.YtdohpenfkdckiaaGreatDoor
open Go.Proofs.Tryz
open Go.ChangeShapes Go.WideShapes Go.RowKit Go.Deep
theorem qB6{n:Int}(h:(Lit.int .i64 n).wf=true):-9223372036854775808≤n∧n≤9223372036854775807:=by
 simp[Lit.wf,IntKind.min,IntKind.max,IntKind.bits,IntKind.signed] at h;omega
theorem zI8:laidOutB prog=true:=by kernel_rfl
theorem zQ4:ownKnob prog.godebug=none:=by kernel_rfl
theorem zN7:prog.globalNamed "errors.errorType"=some 0:=by kernel_rfl
theorem zT0:(prog.cutTypes.find? (·.1 == "internal/reflectlite.rtype")).map (·.2)=some 220:=by kernel_rfl
theorem zO2:((List.range 413).filter fun t=>prog.rowNamed t [101,114,114,111,114])=[38]:=by kernel_rfl
theorem zT6:prog.types.size=413:=by kernel_rfl
theorem zF9{W:World}(h:laidMetH prog Rows.shotsRow.laid W):W.cell? ⟨0,0,none⟩=some qK2:=by
 have h':laidMet prog (Rows.shotsRow.laid.filter fun x=>x.2.handleName?.isNone) W∧handlesMet prog [("errors.errorType",Rows.laid_errors_errorType)] W:=h;obtain⟨name,u,ty,e1,e2,e3,e4,e5⟩:=h'.2 _ (List.mem_singleton.2 rfl);have en:name=[101,114,114,111,114]:=(Option.some.inj e1).symm;subst en;obtain rfl:=Option.some.inj (zT0.symm.trans e2);have hm:ty∈(List.range 413).filter fun t=>prog.rowNamed t [101,114,114,111,114]:=List.mem_filter.2 ⟨List.mem_range.2 (by rw[←zT6];exact e3),e4⟩;rw[zO2] at hm;obtain rfl:=List.mem_singleton.1 hm;have hh:typeHandle prog 38=.pointer (some ⟨5,38,none⟩):=by kernel_rfl
 rw[hh] at e5;simpa [qK2] using World.var?_cell zN7 e5 0
theorem zX5(os:Os)(H:Type)(enc:TypeId × Value→H):
  ∃ (w:World) (tape:Tape) (i:Input),w.os=os∧(w.forCall tape i).Shaped prog∧i.vars=[]∧Input.okWide prog (w.forCall tape i) .any w.heap.size 12 i∧
   ((Rows.shotsSpec.pre enc prog f12 [] false (w.forCall tape i).memory i.args∧laidMetH prog Rows.shotsRow.laid (w.forCall tape i).memory)∧sizedMet enc prog f12 (OpenSpec.ofChange Rows.shotsSpec) false (w.forCall tape i).memory i.args)∧({}:Assume).holds prog (lone (Frame.enter prog 12 i.args .normal) [] (w.forCall tape i)):=
 ChangeSpec.witness_at (enc:=enc) (C:=checked) (os:=os) (X:=fun w _=>laidMetH prog Rows.shotsRow.laid w) false ({ World.laidAll prog os (Rows.shotsRow.laid.filter fun x=>x.2.handleName?.isNone) with heap:=(World.laidAll prog os (Rows.shotsRow.laid.filter fun x=>x.2.handleName?.isNone)).heap.modify 0 fun o=>match o with | .cells _ t frozen=>.cells #[qK2] t frozen | o=>o }) #[.int .i64 0,.int .i64 0,.int .i64 0] 8 rfl (by kernel_rfl) (by kernel_rfl) (by kernel_rfl) (by kernel_rfl) (by kernel_rfl) (laidMetH_of_parts (laidMet_of_run' 8 (by kernel_rfl) (by kernel_rfl)) (by kernel_rfl))
end Go.Proofs.YtdohpenfkdckiaaGreatDoor
namespace Go.Proofs.YtdohpenfkdckiaaGreatDoor
open Go.Proofs.Tryz
open Go Go.ChangeShapes Go.WideShapes Go.RowKit Go.Deep
theorem zY4(os:Os)(started:os.Started)(H:Type)(enc:TypeId × Value→H):
  ReturnsInHanded {} checked os 12 .any (fun w args=>(Rows.shotsSpec.pre enc prog f12 [] false w args∧laidMetH prog Rows.shotsRow.laid w)∧sizedMet enc prog f12 (OpenSpec.ofChange Rows.shotsSpec) false w args)
   (Rows.shotsSpec.post enc prog f12 false true false false):=by
 refine returnsInHanded_of_change_and (C:=checked) (X:=fun w _=>laidMetH prog Rows.shotsRow.laid w) (fun _ _ _ hh h=>h.of_heap hh) zQ4 started (by kernel_rfl) func12 (zX5 os H enc) ?_;intro W base args ds gs before hval0 hW _ _ hL _;have hval:∀ (j:Nat) t v,f12.params[j]?=some t→args[j]?=some v→Value.okWide prog W .any base t v:=hval0;have hW':=hW;obtain⟨p,q,hA0,hV,rfl,_,_⟩:=hW;have hA:DataW.TrodAll enc prog W 0 (fun _=>true) true f12.params.toList args.toList ds p:=hA0;rw[params12] at hA hval;obtain⟨v0,v1,v2,d0,d1,d2,p0,p1,p2,rfl,rfl,rfl,h0,h1,h2⟩:=trodAll_three hA;obtain⟨rfl,rfl⟩:=trodVars_none hV;clear hA0 hval0;simp only[List.append_nil] at hW';obtain⟨a,rfl,rfl,rfl,wa⟩:=open_int underlying3 (hval 0 3 v0 rfl rfl) h0;obtain⟨b,rfl,rfl,rfl,wb⟩:=open_int underlying3 (hval 1 3 v1 rfl rfl) h1;obtain⟨c,rfl,rfl,rfl,wc⟩:=open_int underlying3 (hval 2 3 v2 rfl rfl) h2;have hg:=zF9 hL;have h0s:0<W.heap.size:=by
  unfold World.cell? at hg
  cases hb:W.heap[0]? with
  | none=>simp[hb] at hg
  | some o=>exact ζ hb
 have e1:Rows.shotsSpec.fn H ([.lit (.int .i64 a),.lit (.int .i64 b),.lit (.int .i64 c)]++[])={ results:=[.lit (.bool true)],args:=[.lit (.int .i64 a),.lit (.int .i64 b),.lit (.int .i64 c)] }:=by simp[Rows.shotsSpec]
 obtain⟨ha0,ha1⟩:=qB6 wa;obtain⟨hb0,hb1⟩:=qB6 wb;obtain⟨hc0,hc1⟩:=qB6 wc;refine (zZ8 a b c ha0 ha1 hb0 hb1 hc0 hc1 W h0s hg).mono fun e W' ⟨he,hK⟩=>?_;subst he;have hb:Below W.heap.size W W':=hK.below (Nat.le_refl _) (by simp);refine⟨_,rfl,_,_,_,[],[],[],hW',?_,?_,?_,hb.frame _,fun h=>by cases h⟩
 ·rw[e1];exact trodAll_mk1 (shut_bool underlying4 true)
 ·rw[e1];exact trodAll_mk3 (shut_int underlying3 wa) (shut_int underlying3 wb) (shut_int underlying3 wc)
 ·rw[e1];rfl
end Go.Proofs.YtdohpenfkdckiaaGreatDoor
