import Derived.Test.YtdohpenfkdckiabGreatDoorB17
import Derived.Test.YtdohpenfkdckiabGreatDoorRows
import Derived.ChangeSame
import Derived.ChangeVars
import Derived.JoinedOf
import Derived.RowKit
import Derived.LaidLaws
import Derived.LaidHandle
import Derived.Deep.Slices
import Derived.Stop.Joined
import Derived.Lay
set_option linter.all false
set_option maxRecDepth 100000
set_option maxHeartbeats 20000000
namespace Go.Proofs.YtdohpenfkdckiabGreatDoor
open Go.Proofs.Tryz
theorem zV9{r:Root}(h:RGood r):Sorted r.cont∧∀ q∈r.cont,qC2 q:=by
 cases r with
 | none=>exact⟨List.Pairwise.nil,fun q hq=>by cases hq⟩
 | «at» n l=>
  obtain⟨h1,h2,h3⟩:=h;exact⟨(qM0 n l.key l.sub h2).1,fun q hq=>((qM0 n l.key l.sub h2).2 q hq).1⟩
end Go.Proofs.YtdohpenfkdckiabGreatDoor
namespace Go.Proofs.YtdohpenfkdckiabGreatDoor
open Go.Proofs.Tryz
open Go.RowKit
open Go.Maps (Keyed)
theorem qY0(args:Array Value)(W:World):Sem.run prog (callFunc 40 args) W=.ok (.enter 40 args) W:=by
 simp[go_sem,func40]
theorem qX6(x n:Nat)(t:Tx)(s:Sto)(D:DataW Unit)(w:World)(hx:w.heap[x]?=some (qA4 t))(ho:t.over=false)(hSt:w.heap[t.St]?=some (ρ 0 s))(hpo:s.po=false)(hM:RM w s.V s.M n D)(h0:0≤t.nr)(h1:t.nr≤1000000000)(hMS:s.M≠t.St)(hxS:x≠t.St)(hxM:x≠s.M)(hMs:s.M<w.heap.size):
  Calls prog 29 #[.pointer (some ⟨x,0,none⟩)] w fun e w'=>e=.returned .nilIface∧w'.heap[x]?=some (qA4 t.ended)∧w'.heap[t.St]?=some (ρ 0 (s.left t.nr))∧RM w' s.V s.M n (D.del (qA5 t.nr))∧Kp [t.St,x,s.M] w w':=by
 have hmf:=zM;have hxs:=η hx;go_enter func29,ntmps29;go_wp2_with fail;refine (zA0 none (by decide) x t.St 40 t s (s.left t.nr) #[.pointer (some ⟨x,0,none⟩)] #[] _ [x,s.M] (fun W w1=>w1.heap[x]?=some (qA4 t.ended)∧RM w1 s.V s.M n (D.del (qA5 t.nr))) w hx ho rfl hSt hpo hxS (qY0 _) (by intro i hi;simp at hi;omega) ?_).mono ?_
 ·intro W hK hS;refine (xA7 x n t s D W (hK.heap hx (by simp;exact hxS)) hS (hM.kp hK (by simp;exact hMS)) h0 h1 hMS hxS hxM).mono ?_;rintro e w1 ⟨rfl,ha,hb,hc,hd⟩;exact⟨rfl,⟨ha,hc⟩,hd,hb⟩
 rintro e w2 ⟨v,rfl,hv,hSt2,hK2,W,w1,Bb,⟨ha,hb⟩,hKW,hB1,hB2,hB3,hKB⟩;have hv':v=.nilIface:=hv;subst hv';have HE:Hid (w2.heap[x]?=some (qA4 t.ended)∧w2.heap[t.St]?=some (ρ 0 (s.left t.nr))∧RM w2 s.V s.M n (D.del (qA5 t.nr))∧Kp [t.St,x,s.M] w w2):=⟨hKB.heap ha (by simp;exact⟨hxS,by omega⟩),hSt2,hb.kp hKB (by simp;exact⟨hMS,by omega⟩),hK2⟩;clear hv ha hb hSt2 hK2 hKW hKB hB3 hMS hxS hxM;go_wp2;go_ret;exact⟨rfl,HE.out⟩
section
variable {w:World} {kc db St A C N nM:Nat} {s:Sto} {D:DataW Unit} {l:List UInt8} {wr:Int} {nw:Root}
theorem Shop.abort(hS:Shop w kc db St A C N nM s D l wr nw){x:Nat}{t:Tx}{r:Root}(hL:LiveT hS.E w x A N t s r)(hst:t.St=St)(h0:0≤t.nr)(h1:t.nr≤1000000000):
  Calls prog 29 #[.pointer (some ⟨x,0,none⟩)] w fun e w'=>e=.returned .nilIface∧w'.heap[x]?=some (qA4 t.ended)∧Shop w' kc db St A C N nM (s.left t.nr) (D.del (qA5 t.nr)) l wr nw∧Kp [St,x,s.M] w w':=by
 subst hst;obtain⟨n1,n2,n3,n4⟩:=hS.neDb;have hMS:s.M≠t.St:=(qG0 hS.hSt hS.hM).symm;have hxM:x≠s.M:=qG0 hL.hx hS.hM;have hoff:OffD w [t.St,x,s.M]:=(OffD.one hL.hSt (by decide)).cons ((OffD.one hL.hx (by decide)).cons (fun k hk c ty fr e=>by rw[List.mem_singleton.1 hk] at e;exact absurd rfl (qG0 e hS.hM)));refine (qX6 x nM t s D w hL.hx hL.over hS.hSt hS.po hS.hM h0 h1 hMS hL.xS hxM hS.hM.lt).mono ?_;rintro e w' ⟨rfl,hx,hSt,hM,hK⟩;have htd:=hS.hM.tidy qN3;refine⟨rfl,hx,hS.turn hK (by simp[n1,n4];exact qD5 hS.hDb hL.hx (by decide)) (qK6 hS.dev hK hoff) ⟨rfl,rfl,rfl,rfl,rfl,rfl⟩ hSt hM ?_ hS.n1 hS.bg0 (fun k hk=>?_) (fun y h g1 g2 g3=>?_),hK⟩
 ·have:=Maps.size_del (k:=qA5 t.nr) htd;have:=hS.m4;omega
 ·by_cases e:k=qA5 t.nr
  ·rw[e,Maps.has_del_same] at hk;cases hk
  ·rw[Maps.has_del_other e] at hk;exact hS.kb k hk
 ·by_cases e:qA5 y=qA5 t.nr
  ·rw[e,Maps.has_del_same] at g1;cases g1
  ·rw[Maps.has_del_other e] at g1;exact hS.rd y h g1 (fun zd=>by rw[←g2 zd,Maps.atKey_del_other e]) g3
end
end Go.Proofs.YtdohpenfkdckiabGreatDoor
namespace Go.Proofs.YtdohpenfkdckiabGreatDoor
open Go.Proofs.Tryz
open Go.RowKit
section
variable {w:World} {kc db St A C N nM:Nat} {s:Sto} {D:DataW Unit} {l:List UInt8} {wr:Int} {nw:Root}
theorem Shop.commits(hS:Shop w kc db St A C N nM s D l wr nw){x:Nat}{t:Tx}{r:Root}(hL:LiveT hS.E w x A N t s r)(hst:t.St=St)(hwr:t.wrt=true)(h0:0≤t.nr)(h1:t.nr≤1000000000)(hrk:r.cont.length≤kc)(hN9:s.N≤999999999)
  (hfit:qD7 r+r.news+Maps.size D*kc+qD7 nw+2≤N):
  Calls prog 14 #[.pointer (some ⟨x,0,none⟩)] w fun e w'=>e=.returned .nilIface∧∃ s' l' wr' nt,Shop w' kc db St A C N nM s' (D.del (qA5 t.nr)) l' wr' nt∧nt.cont=r.cont∧s'.N≤s.N+2∧s'.bg=s.bg∧s'.wr=(s.left t.nr).wr∧s'.V=s.V∧s'.M=s.M∧w'.heap[x]?=some (qA4 t.ended)∧Kp [St,x,s.M,A,C] w w'∧∀ y rb rs r0,Maps.has (D.del (qA5 t.nr)) (qA5 y)=true→(∀ zd,(D.del (qA5 t.nr)).atKey (qA5 y) zd=qF6 ⟨⟨#[]⟩,rb,rs,none⟩)→Lie N l rb rs r0→Lie N l' rb rs r0:=by
 have htd:=hS.hM.tidy qN3;have hsd:=Maps.size_del (k:=qA5 t.nr) htd;have hle:Maps.size (D.del (qA5 t.nr))≤Maps.size D:=by omega
 have hdl:∀ k,Maps.has (D.del (qA5 t.nr)) k=true→Maps.has D k=true∧∀ zd,(D.del (qA5 t.nr)).atKey k zd=D.atKey k zd:=fun k hk=>by
  by_cases e:k=qA5 t.nr
  ·rw[e,Maps.has_del_same] at hk;cases hk
  ·rw[Maps.has_del_other e] at hk;exact⟨hk,fun zd=>Maps.atKey_del_other e zd⟩
 have hgo:(∀ W:World,Sem.run prog (Op.equalIn 10000 83 (τ s.V t.h) (τ s.V ⟨⟨#[]⟩,s.rb,s.rs,none⟩)) W=.ok false W)→Calls prog 14 #[.pointer (some ⟨x,0,none⟩)] w fun e w'=>e=.returned .nilIface∧∃ s' l' wr' nt,Shop w' kc db St A C N nM s' (D.del (qA5 t.nr)) l' wr' nt∧nt.cont=r.cont∧s'.N≤s.N+2∧s'.bg=s.bg∧s'.wr=(s.left t.nr).wr∧s'.V=s.V∧s'.M=s.M∧w'.heap[x]?=some (qA4 t.ended)∧Kp [St,x,s.M,A,C] w w'∧∀ y rb rs r0,Maps.has (D.del (qA5 t.nr)) (qA5 y)=true→(∀ zd,(D.del (qA5 t.nr)).atKey (qA5 y) zd=qF6 ⟨⟨#[]⟩,rb,rs,none⟩)→Lie N l rb rs r0→Lie N l' rb rs r0:=fun heq=>by
  refine (zX7 hS x t r hL hst hwr h0 h1 heq hrk hN9 hdl (by have:=hS.m4;omega) (by have:=Nat.mul_le_mul_right kc hle;omega)).mono ?_;rintro e w' ⟨e0,s',l',nt,c1,c2,c3,c4⟩;exact⟨e0,s',l',_,nt,c1,c2,by omega,c4⟩
 cases hp:t.h.p with
 | some q=>exact hgo (fun W=>zY7 s.V q t.h s.rb s.rs hp hL.key W)
 | none=>
  by_cases he:t.h.b=s.rb∧t.h.s=s.rs
  ·have heq:∀ W:World,Sem.run prog (Op.equalIn 10000 83 (τ s.V t.h) (τ s.V ⟨⟨#[]⟩,s.rb,s.rs,none⟩)) W=.ok true W:=fun W=>by rw[zG8 s.V t.h s.rb s.rs hp hL.key W];simp[he]
   have hlie:Lie N l s.rb s.rs r:=by
    have h:=LiveT.lie (E':=hS.E) hL hp;rw[he.1,he.2] at h;exact h
   subst hst;obtain⟨cA,hA⟩:=hS.hA;have hMS:s.M≠t.St:=(qG0 hS.hSt hS.hM).symm;have hxM:x≠s.M:=qG0 hL.hx hS.hM;have hoff:OffD w [t.St,x,s.M]:=(OffD.one hL.hSt (by decide)).cons ((OffD.one hL.hx (by decide)).cons (fun k hk c ty fr e=>by rw[List.mem_singleton.1 hk] at e;exact absurd rfl (qG0 e hS.hM)));obtain⟨n1,n2,n3,n4⟩:=hS.neDb;refine (zI1 x nM s.V t s D [] (fun W w1=>Kp [] W w1) w hL.hx hL.over hS.hSt hS.po hS.hM h0 h1 hMS hL.xS hxM hS.hM.lt hL.on hwr (by simp) ?_).mono ?_
   ·intro W hK hx' hS' hM';refine (xA4 t.St (s.left t.nr) t.h W hS' heq).mono ?_;rintro e w1 ⟨rfl,hK1⟩;exact⟨rfl,⟨_,hK1.hp hS'⟩,hK1,hK1.mono (by simp)⟩
   ·rintro e w' ⟨rfl,hKw,W,w1,B,s',hK,hx',hS',hM',hR,_,hs1,hs2,hB0,hB1,hKB⟩;have hse:s'=s.left t.nr:=by
     rw[hR.hp hS'] at hs1;exact (zH9 (Option.some.inj hs1)).symm
    rw[hse] at hs2 hs1;have hxs:=η hL.hx;have hMs:=hS.hM.lt;refine⟨rfl,s.left t.nr,l,wr,nw,?_,(Lie.one hS.N1 hS.lie hlie).1,by show s.N≤s.N+2;omega,rfl,rfl,rfl,rfl,hKB.heap (hR.hp hx') (by simp[hL.xS];omega),hKw.mono (by intro i hi _;simp at hi ⊢;omega),fun _ _ _ _ _ _ h=>h⟩;refine hS.turn hKw (by simp[n1,n4];exact qD5 hS.hDb hL.hx (by decide)) (qK6 (qK6 (qK6 hS.dev hK hoff) hR (by intro k hk;cases hk)) hKB (qR6 hs1 hB1)) ⟨rfl,rfl,rfl,rfl,rfl,rfl⟩ hs2 ((hM'.kp hR (by simp)).kp hKB (by simp[hMS];omega)) (by have:=hS.m4;omega) hS.n1 hS.bg0 (fun k hk=>hS.kb k (hdl k hk).1) (fun y h g1 g2 g3=>?_);obtain⟨f1,f2⟩:=hdl _ g1;exact hS.rd y h f1 (fun zd=>(f2 zd).symm.trans (g2 zd)) g3
  ·exact hgo (fun W=>by rw[zG8 s.V t.h s.rb s.rs hp hL.key W];simp[he])
end
theorem qL8:∀ (a ks:List ByteArray),a.Nodup→(∀ x∈a,x∈ks)→a.length≤ks.length
 | [],ks,_,_=>by simp
 | x::a,ks,h,hs=>by
  obtain⟨hx,ha⟩:=List.nodup_cons.1 h;have hm:=hs x (by simp);have ih:=qL8 a (ks.filter fun y=>decide (y≠x)) ha fun y hy=>by
   have hne:y≠x:=fun e=>hx (e ▸ hy);exact List.mem_filter.2 ⟨hs y (by simp[hy]),by simp[hne]⟩
  have e3:(ks.filter fun y=>decide (y≠x)).length<ks.length:=List.length_filter_lt_length_iff_exists.2 ⟨x,hm,by simp⟩;rw[List.length_cons];omega
theorem zA2{l:List KV}(hs:Sorted l)(k:Nat)(f:Nat→ByteArray)(h:∀ q∈l,∃ j,j<k∧q.k=f j):l.length≤k:=by
 have h1:(l.map (·.k)).Nodup:=by
  rw[List.nodup_iff_pairwise_ne,List.pairwise_map];exact hs.imp fun {a b} hab=>qG9 hab
 have h2:=qL8 (l.map (·.k)) ((List.range k).map f) h1 fun x hx=>by
  obtain⟨q,hq,rfl⟩:=List.mem_map.1 hx;obtain⟨j,hj,e⟩:=h q hq;exact List.mem_map.2 ⟨j,List.mem_range.2 hj,e.symm⟩
 simpa using h2
section
variable {w:World} {kc db St A C N nM:Nat} {s:Sto} {D:DataW Unit} {l:List UInt8} {wr:Int} {nw:Root}
end
def Among(m:Nat)(l:List KV):Prop:=∀ q∈l,∃ j:Nat,j<m∧q.k=qB8 j
theorem Among.few{m:Nat}{r:Root}(h:Among m r.cont)(hg:RGood r):r.cont.length≤m:=zA2 (zV9 hg).1 m (fun j=>qB8 j) h
theorem Among.put{m:Nat}{l:List KV}(h:Among m l){i:Nat}(hi:i<m)(v:ByteArray):Among m (ins ⟨qB8 i,v⟩ l):=fun q hq=>by
 rcases qS6 hq with rfl|hq
 ·exact⟨i,hi,rfl⟩
 ·exact h q hq
theorem Among.del{m:Nat}{l:List KV}(h:Among m l)(k:ByteArray):Among m (YtdohpenfkdckiabGreatDoor.del k l):=fun q hq=>h q (qR4.1 hq).1
theorem zW6(a n:Int)(ha0:-9223372036854775808≤a)(ha1:a≤9223372036854775807)(hn0:-9223372036854775808≤n)(hn1:n≤9223372036854775807)(w:World):
  Calls prog 5 #[.int .i64 a,.int .i64 n] w fun e w'=>e=.returned (.bool true)∧Kp [] w w':=by
 go_enter func5,ntmps5;go_wp2_with fail;refine (qX5 n 40 hn0 hn1 (by omega) (by omega) w).mono ?_;rintro e w1 ⟨⟨k0,rfl,hk0,hk1⟩,hw⟩;rw[hw];clear hw w1;obtain⟨m,hm⟩:∃ m:Nat,(m:Int)=1+k0:=⟨(1+k0).toNat,by omega⟩;obtain⟨NN,hNN⟩:∃ NN:Nat,NN=3*m+12:=⟨_,rfl⟩;have HF:Hid (Calls prog 24 #[.int .i64 NN,.int .i64 m] w fun e w'=>∃ db St A C s l wr nw,e=.returned (.tuple #[.pointer (some ⟨A,0,none⟩),.pointer (some ⟨db,0,none⟩)])∧Shop w' 100 db St A C NN 0 s emp l wr nw∧s.wr=0∧s.bg=1∧s.N≤10∧0≤wr∧wr≤1000∧nw.cont.length≤m∧(∀ j:Nat,j<m→(⟨qB8 j,qH1⟩:KV)∈nw.cont)∧(∀ q∈nw.cont,∃ j:Nat,j<m∧q.k=qB8 j)∧w.heap.size≤A∧w.heap.size≤C∧w.heap.size≤St∧w.heap.size≤db∧w.heap.size≤s.M∧Kp [] w w'):=xA8 NN 100 m (by omega) (by omega) (by omega) (by omega) (by omega) (by omega) w;have HM:Hid (1+k0=(m:Int)∧3*(m:Int)+12=(NN:Int)):=⟨by omega,by omega⟩;have hm1:(1:Int)≤(m:Int):=by omega
 have hm2:(m:Int)≤40:=by omega
 have hN1:(NN:Int)=3*(m:Int)+12:=by omega
 have HN1:=zh hN1;clear hm hNN hN1;go_wp2_with fail;rw[HM.out.1,HM.out.2];clear HM hk0 hk1;refine (show Calls _ _ _ _ _ from HF.out).mono ?_;rintro e w1 ⟨db,St,A,C,s0,l0,wr0,nw0,rfl,hS1,q1,q2,q3,q4,q5,q6,q7,q8,gA,gC,gS,gd,gM,hK1⟩;have HS1:=zh hS1;obtain⟨M,hM⟩:∃ M,M=s0.M:=⟨_,rfl⟩;have HQ1:Hid (s0.wr=0∧s0.bg=1+((0:Nat):Int)∧s0.N≤10+2*((0:Nat):Int)∧s0.M=M):=⟨q1,by omega,by omega,hM.symm⟩;have HA1:=zh q8;have HK1:=zh hK1;rw[←hM] at gM;clear hS1 hM q1 q2 q3 q4 q5 q6 q7 q8 hK1 HF;go_wp2_with fail;refine (qX5 a 2147483648 ha0 ha1 (by omega) (by omega) w1).mono ?_;rintro e w2 ⟨⟨v0,rfl,hv0,hv1⟩,hw⟩;rw[hw];clear hw w2;go_wp2_with fail
 go_loopw [8,9] (fun v i wr=>∃ (j:Nat) (vi:Int) (s:Sto) (l:List UInt8) (wc:Int) (nw:Root),j≤30∧i=.int .i64 j∧v=.int .i64 vi∧0≤vi∧vi<2147483648∧Hid (Shop wr 100 db St A C NN 0 s emp l wc nw)∧Hid (s.wr=0∧s.bg=1+(j:Int)∧s.N≤10+2*(j:Int)∧s.M=M)∧Hid (Among m nw.cont)∧Hid (Kp [] w wr)) (fun _ i _=>30-(intOf i).toNat)
 case atStart=>exact⟨0,v0,s0,l0,wr0,nw0,by omega,rfl,rfl,hv0,hv1,HS1,HQ1,HA1,HK1⟩
 case round=>
  obtain⟨j,vi,s,l,wc,nw,hj,rfl,rfl,hi0,hi1,HS,HQ,HA,HK⟩:=hrel;clear HS1 HQ1 HA1 HK1;by_cases hlt:j<30
  ·have hjb:(j:Int)<30:=by omega
   have HB:Hid (Calls prog 22 #[.pointer (some ⟨db,0,none⟩),.bool true] wr fun e w'=>∃ x t,e=.returned (.tuple #[.pointer (some ⟨x,0,none⟩),.nilIface])∧wr.heap.size≤x∧t.St=St∧t.nr=s.bg+1∧t.wrt=true∧t.ch=0∧Kp [St] wr w'∧∃ hS':Shop w' 100 db St A C NN 0 s.wrote emp l wc nw,LiveT hS'.E w' x A NN t s.wrote nw):=HS.out.beginW HQ.out.1 (by have:=HQ.out.2.1;omega);have HBL:Hid (0≤s.bl∧s.bl≤(m:Int)+1):=⟨HS.out.bl0,by have h1:=HS.out.bl1;have h2:=HA.out.few HS.out.good;omega⟩;clear HS;go_wp2_with fail;refine (show Calls _ _ _ _ _ from HB.out).mono ?_;rintro e w4 ⟨x,t,rfl,hx4,ht1,ht2,ht3,ht4,hK4,hS4,hL4⟩;have hs3:=HK.out.size;have HW4:Hid (Wrt w4 100 db St A C NN 0 s.wrote emp l wc nw x t nw (s.bg+1)):=⟨hS4,hL4,ht1,ht2,ht3⟩;have HK4:Hid (Kp [] w w4):=HK.out.trans hK4 (by intro i hi hlt;simp at hi;omega);clear hK4 hS4 hL4 ht1 ht2 ht3 HB HK;go_wp2_with fail
   go_loopw [8,11,12] (fun v er i wr=>∃ (i':Nat) (vj:Int) (t':Tx) (r:Root),i'≤2*m∧i=.int .i64 i'∧v=.int .i64 vj∧0≤vj∧vj<2147483648∧Hid (Wrt wr 100 db St A C NN 0 s.wrote emp l wc nw x t' r (s.bg+1))∧Hid (Among m r.cont)∧Hid (t'.ch≤(i':Int))∧Hid (Kp [] w wr)) (fun _ _ i _=>2*m+1-(intOf i).toNat)
   case atStart=>exact⟨0,vi,t,nw,by omega,rfl,rfl,hi0,hi1,HW4,HA,by show t.ch≤_;omega,HK4⟩
   case round=>
    obtain⟨i',vj,t',r,hi',rfl,rfl,hv0',hv1',HW,HAM,HCH,HKi⟩:=hrel;clear HW4 HK4;have hm0:¬(2*(m:Int))=0:=by omega
    obtain⟨b,hb⟩:∃ b:Int,b=vj / 64 % (2*(m:Int)):=⟨_,rfl⟩;have hb0:0≤b:=by rw[hb];exact Int.emod_nonneg _ hm0
    have hb1:b<2*(m:Int):=by rw[hb];exact Int.emod_lt_of_pos _ (by omega)
    have d1:(vj / 64).tmod (2*(m:Int))=b:=by rw[hb];exact Int.tmod_eq_emod_of_nonneg (by omega)
    clear hb;by_cases hlt2:(i':Int)<1+b
    ·go_wp2_with fail;refine (zO2 vj hv0' hv1' wr).mono ?_;rintro e w2 ⟨⟨u,rfl,hu0,hu1⟩,hw⟩;rw[hw];clear hw w2;have hm0':¬(m:Int)=0:=by omega
     obtain⟨i0,hi0'⟩:∃ i0:Nat,(i0:Int)=u / 1024 % (m:Int):=⟨(u / 1024 % (m:Int)).toNat,by have:=Int.emod_nonneg (u / 1024) hm0';omega⟩;have hi1':(i0:Int)<(m:Int):=by rw[hi0'];exact Int.emod_lt_of_pos _ (by omega)
     have d2:(u / 1024).tmod (m:Int)=(i0:Int):=(Int.tmod_eq_emod_of_nonneg (by omega)).trans hi0'.symm;clear hi0' d1;go_wp2_with fail;refine (zI3 i0 (by omega) (by omega) wr).mono ?_;rintro e w3 ⟨rfl,hK3⟩;have hW3:=HW.out.more hK3;have HW3:=zh hW3;have HK3:Hid (Kp [] w w3):=HKi.out.tr hK3;have hlr:=HAM.out.few hW3.live.good;have hsr:=HKi.out.size;clear hW3 hK3 HW HKi d2;by_cases hd:u / 16 % 3=0
     ·have HD:Hid (Calls prog 27 #[.pointer (some ⟨x,0,none⟩),.string (qB8 i0)] w3 fun e w'=>e=.returned .nilIface∧∃ h',FineT HW3.out.shop.E w3 w' x t' s.wrote (r.del (qB8 i0)) h'):=zL4 HW3.out.shop.E x A NN t' s.wrote r (qB8 i0) w3 HW3.out.live HW3.out.wrt ((qU8 _).2 ⟨by rw[qU5];omega,by rw[qU5];omega⟩);go_wp2_with fail;refine (show Calls _ _ _ _ _ from HD.out).mono ?_;rintro e w5 ⟨rfl,h5,hF⟩;obtain⟨hW5,hK5,hcn⟩:=HW3.out.del hF (by have:=HCH.out;omega) (by omega);have HE:=zh hW5;have HE2:Hid (Among m (r.del (qB8 i0)).cont):=by show Among m _;rw[hcn];exact HAM.out.del _
      have HE3:Hid (t'.ch+1≤((i'+1:Nat):Int)):=by show t'.ch+1≤((i'+1:Nat):Int);have:=HCH.out;omega
      have HE4:Hid (Kp [] w w5):=HK3.out.trans hK5 (by intro i hi hlt;simp at hi;omega);clear hF hW5 hK5 hcn HD HW3 HK3;go_wp2;exact⟨⟨i'+1,u,_,_,by omega,by go_num,rfl,hu0,hu1,HE,HE2,HE3,HE4⟩,by simp[intOf];omega⟩
     ·have HP:Hid (∀ val:ByteArray,val.size≤12→Calls prog 28 #[.pointer (some ⟨x,0,none⟩),.string (qB8 i0),.string val] w3 fun e w'=>e=.returned .nilIface∧∃ h',FineT HW3.out.shop.E w3 w' x t' s.wrote (r.put ⟨qB8 i0,val⟩) h'):=fun val hv=>by
       have hp:=okWide i0 val hv;refine zA4 HW3.out.shop.E x A NN t' s.wrote r ⟨qB8 i0,val⟩ w3 HW3.out.live HW3.out.wrt hp ?_;obtain⟨g1,g2⟩:=qL3 (p:=⟨qB8 i0,val⟩) HW3.out.live.good hp;have h1:=qM1 g1;have h2:=qJ1 ⟨qB8 i0,val⟩ r.cont;rw[g2] at h1;have h4:=HBL.out;have h5:=HN1.out;show _≤(NN:Int)-2-s.bl;omega
      go_wp2_with fail;refine (HP.out _ (by rw[ByteArray.size_extract];have:(u / 256 % 13).toNat≤12:=(by omega);omega)).mono ?_;rintro e w5 ⟨rfl,h5,hF⟩;obtain⟨hW5,hK5,hcn,_,_⟩:=HW3.out.put hF (okWide i0 _ (by rw[ByteArray.size_extract];have:(u / 256 % 13).toNat≤12:=(by omega);omega)) (by have:=HCH.out;omega) (by omega);have HE:=Hid.mk' hW5;have HE2:=Hid.mk' (show Among m _ from hcn ▸ HAM.out.put (show i0<m by omega) _);have HE3:Hid (t'.ch+1≤((i'+1:Nat):Int)):=by show t'.ch+1≤((i'+1:Nat):Int);have:=HCH.out;omega
      have HE4:Hid (Kp [] w w5):=HK3.out.trans hK5 (by intro i hi hlt;simp at hi;omega);clear hF hW5 hK5 hcn HP HW3 HK3;go_wp2;exact⟨⟨i'+1,u,_,_,by omega,by go_num,rfl,hu0,hu1,HE,HE2,HE3,HE4⟩,by simp[intOf];omega⟩
    ·have HNR:=zh HW.out.nr;have hsr:=HKi.out.size;by_cases hd:vj / 16 % 5=0
     ·have HAB:Hid (Calls prog 29 #[.pointer (some ⟨x,0,none⟩)] wr fun e w'=>e=.returned .nilIface∧w'.heap[x]?=some (qA4 t'.ended)∧Shop w' 100 db St A C NN 0 (s.wrote.left t'.nr) (emp.del (qA5 t'.nr)) l wc nw∧Kp [St,x,s.M] wr w'):=HW.out.shop.abort HW.out.live HW.out.st (by rw[HW.out.nr];have:=HQ.out.2.1;omega) (by rw[HW.out.nr];have:=HQ.out.2.1;omega);clear HW;go_wp2_with fail;refine (show Calls _ _ _ _ _ from HAB.out).mono ?_;rintro e w7 ⟨rfl,_,hS7,hK7⟩;rw[qU7] at hS7;have HQ7:Hid ((s.wrote.left t'.nr).wr=0∧(s.wrote.left t'.nr).bg=1+((j+1:Nat):Int)∧(s.wrote.left t'.nr).N≤10+2*((j+1:Nat):Int)∧(s.wrote.left t'.nr).M=M):=by
       obtain⟨f1,f2,f3,f4⟩:=HQ.out;refine⟨?_,?_,?_,f4⟩
       ·show (if t'.nr=s.bg+1 then 0 else _)=(0:Int);rw[if_pos HNR.out]
       ·show s.bg+1=_;omega
       ·show s.N≤_;omega
      have HAM7:=zh HA;obtain⟨s7,hs7⟩:∃ s7,s7=s.wrote.left t'.nr:=⟨_,rfl⟩;obtain⟨nt,hnt⟩:∃ nt,nt=nw:=⟨_,rfl⟩;obtain⟨l7,hl7⟩:∃ l7,l7=l:=⟨_,rfl⟩;obtain⟨wc7,hwc7⟩:∃ wc7,wc7=wc:=⟨_,rfl⟩;rw[←hs7,←hnt,←hl7,←hwc7] at hS7;rw[←hs7] at HQ7;rw[←hnt] at HAM7;clear hs7 hnt hl7 hwc7 HAB;have HE:Hid (Shop w7 100 db St A C NN 0 s7 emp l7 wc7 nt∧Kp [] w w7):=⟨hS7,HKi.out.trans hK7 (by intro i hi hlt;have:=HQ.out.2.2.2;simp at hi;omega)⟩;clear hS7 hK7;go_wp2;exact⟨⟨j+1,vj,s7,l7,wc7,nt,by omega,by go_num,rfl,hv0',hv1',HE.out.1,HQ7,HAM7,HE.out.2⟩,by simp[intOf];omega⟩
     ·have HC:Hid (Calls prog 14 #[.pointer (some ⟨x,0,none⟩)] wr fun e w'=>e=.returned .nilIface∧∃ s' l' wr' nt,Shop w' 100 db St A C NN 0 s' (emp.del (qA5 t'.nr)) l' wr' nt∧nt.cont=r.cont∧s'.N≤s.N+2∧s'.bg=s.bg+1∧s'.wr=(s.wrote.left t'.nr).wr∧s'.M=s.M∧Kp [St,x,s.M,A,C] wr w'):=by
       have h1:=qM1 HW.out.live.good;have h2:=qN5 HW.out.live.good;have h3:=qN5 HW.out.shop.good;have h4:=HAM.out.few HW.out.live.good;have h5:=HA.out.few HW.out.shop.good;have h6:=HN1.out;refine (HW.out.shop.commits HW.out.live HW.out.st HW.out.wrt (by rw[HW.out.nr];have:=HQ.out.2.1;omega) (by rw[HW.out.nr];have:=HQ.out.2.1;omega) (by omega) (by show s.N≤_;have:=HQ.out.2.2.1;omega) (by show _+_+0*100+_+2≤NN;omega)).mono ?_;rintro e w' ⟨c0,s',l',wr',nt,c1,c2,c4,c5,c6,c7,c8,_,c9,_⟩;exact⟨c0,s',l',wr',nt,c1,c2,c4,c5,c6,c8,c9⟩
      clear HW;go_wp2_with fail;refine (show Calls _ _ _ _ _ from HC.out).mono ?_;rintro e w7 ⟨rfl,s7,l7,wc7,nt,hS7,e1,e3,e4,e5,e6,hK7⟩;rw[qU7] at hS7;have HQ7:Hid (s7.wr=0∧s7.bg=1+((j+1:Nat):Int)∧s7.N≤10+2*((j+1:Nat):Int)∧s7.M=M):=by
       obtain⟨f1,f2,f3,f4⟩:=HQ.out;refine⟨?_,by omega,by omega,e6.trans f4⟩;rw[e5];show (if t'.nr=s.bg+1 then 0 else _)=(0:Int);rw[if_pos HNR.out]
      have HAM7:Hid (Among m nt.cont):=by show Among m nt.cont;rw[e1];exact HAM.out
      clear e1 e3 e4 e5 e6 HC;have HE:Hid (Shop w7 100 db St A C NN 0 s7 emp l7 wc7 nt∧Kp [] w w7):=⟨hS7,HKi.out.trans hK7 (by intro i hi hlt;have:=HQ.out.2.2.2;simp at hi;omega)⟩;clear hS7 hK7;go_wp2;exact⟨⟨j+1,vj,s7,l7,wc7,nt,by omega,by go_num,rfl,hv0',hv1',HE.out.1,HQ7,HAM7,HE.out.2⟩,by simp[intOf];omega⟩
  ·have hjb:¬(j:Int)<30:=by omega
   go_wp2;go_ret;exact⟨rfl,HK.out⟩
end Go.Proofs.YtdohpenfkdckiabGreatDoor
namespace Go.Proofs.YtdohpenfkdckiabGreatDoor
open Go.Proofs.Tryz
open Go.ChangeShapes Go.WideShapes Go.RowKit Go.Deep
theorem qV7{n:Int}(h:(Lit.int .i64 n).wf=true):-9223372036854775808≤n∧n≤9223372036854775807:=by
 simp[Lit.wf,IntKind.min,IntKind.max,IntKind.bits,IntKind.signed] at h;omega
theorem zA6:laidOutB prog=true:=by kernel_rfl
theorem zW0:ownKnob prog.godebug=none:=by kernel_rfl
theorem zW1(os:Os)(H:Type)(enc:TypeId × Value→H):
  ∃ (w:World) (tape:Tape) (i:Input),w.os=os∧(w.forCall tape i).Shaped prog∧i.vars=[]∧Input.okWide prog (w.forCall tape i) .any w.heap.size 5 i∧
   ((Rows.spareSpec.pre enc prog f5 [] false (w.forCall tape i).memory i.args∧laidMetH prog Rows.spareRow.laid (w.forCall tape i).memory)∧sizedMet enc prog f5 (OpenSpec.ofChange Rows.spareSpec) false (w.forCall tape i).memory i.args)∧({}:Assume).holds prog (lone (Frame.enter prog 5 i.args .normal) [] (w.forCall tape i)):=
 ChangeSpec.witness_at (enc:=enc) (C:=checked) (os:=os) (X:=fun w _=>laidMetH prog Rows.spareRow.laid w) false (World.laidAll prog os (Rows.spareRow.laid.filter fun x=>x.2.handleName?.isNone)) #[.int .i64 0,.int .i64 0] 8 rfl (by kernel_rfl) (by kernel_rfl) (by kernel_rfl) (by kernel_rfl) (by kernel_rfl) (laidMetH_of_parts (laidMet_of_run' 8 (by kernel_rfl) (by kernel_rfl)) (by kernel_rfl))
end Go.Proofs.YtdohpenfkdckiabGreatDoor
namespace Go.Proofs.YtdohpenfkdckiabGreatDoor
open Go.Proofs.Tryz
open Go Go.ChangeShapes Go.WideShapes Go.RowKit Go.Deep
theorem zW2(os:Os)(started:os.Started)(H:Type)(enc:TypeId × Value→H):
  ReturnsInHanded {} checked os 5 .any (fun w args=>(Rows.spareSpec.pre enc prog f5 [] false w args∧laidMetH prog Rows.spareRow.laid w)∧sizedMet enc prog f5 (OpenSpec.ofChange Rows.spareSpec) false w args)
   (Rows.spareSpec.post enc prog f5 false true false false):=by
 refine returnsInHanded_of_change_and (C:=checked) (X:=fun w _=>laidMetH prog Rows.spareRow.laid w) (fun _ _ _ hh h=>h.of_heap hh) zW0 started (by kernel_rfl) func5 (zW1 os H enc) ?_;intro W base args ds gs before hval0 hW _ _ hL _;have hval:∀ (j:Nat) t v,f5.params[j]?=some t→args[j]?=some v→Value.okWide prog W .any base t v:=hval0;have hW':=hW;obtain⟨p,q,hA0,hV,rfl,_,_⟩:=hW;have hA:DataW.TrodAll enc prog W 0 (fun _=>true) true f5.params.toList args.toList ds p:=hA0;rw[params5] at hA hval;obtain⟨v0,v1,d0,d1,p0,p1,rfl,rfl,rfl,h0,h1⟩:=trodAll_two hA;obtain⟨rfl,rfl⟩:=trodVars_none hV;clear hA0 hval0;simp only[List.append_nil] at hW';obtain⟨a,rfl,rfl,rfl,wa⟩:=open_int underlying3 (hval 0 3 v0 rfl rfl) h0;obtain⟨b,rfl,rfl,rfl,wb⟩:=open_int underlying3 (hval 1 3 v1 rfl rfl) h1;have e1:Rows.spareSpec.fn H ([.lit (.int .i64 a),.lit (.int .i64 b)]++[])={ results:=[.lit (.bool true)],args:=[.lit (.int .i64 a),.lit (.int .i64 b)] }:=by simp[Rows.spareSpec]
 obtain⟨ha0,ha1⟩:=qV7 wa;obtain⟨hb0,hb1⟩:=qV7 wb;refine (zW6 a b ha0 ha1 hb0 hb1 W).mono fun e W' ⟨he,hK⟩=>?_;subst he;have hb:Below W.heap.size W W':=hK.below (Nat.le_refl _) (by simp);refine⟨_,rfl,_,_,_,[],[],[],hW',?_,?_,?_,hb.frame _,fun h=>by cases h⟩
 ·rw[e1];exact trodAll_mk1 (shut_bool underlying4 true)
 ·rw[e1];exact trodAll_mk2 (shut_int underlying3 wa) (shut_int underlying3 wb)
 ·rw[e1];rfl
end Go.Proofs.YtdohpenfkdckiabGreatDoor
