import Derived.Test.YtdohpenfkdckiaaGreatDoorO06
import Derived.RangeFuncNested
import Derived.RangeFuncBound
import Derived.RangeFuncCalls
import Derived.RangeFuncLeaves
import Derived.Shelf.Abstract
import Derived.Shelf.RegionOpen
import Derived.OwnWalkIn
import Derived.TacticsInMore
import Derived.LoopNIn
import Derived.LoopIn
import Derived.Sort.LoopGhostIn
import Derived.Laws.EntriesVeiled
import Derived.Lib.SmallJoins
import Derived.Laws.OwnMore
set_option linter.all false
set_option maxRecDepth 100000
set_option maxHeartbeats 20000000
namespace Go.Proofs.YtdohpenfkdckiaaGreatDoor
open Go.Proofs.Tryz
def χ(l:List KV)(lo:ByteArray):List KV:=l.filter fun q=>!kl q.k lo
theorem qJ6{α:Type}(f:α→Bool):∀ l:List α,l.find? f=(l.filter f).head?
 | []=>rfl
 | a::l=>by
  by_cases h:f a=true
  ·rw[List.find?_cons_of_pos h,List.filter_cons_of_pos h,List.head?_cons]
  ·rw[List.find?_cons_of_neg h,List.filter_cons_of_neg h];exact qJ6 f l
theorem qO8{l:List KV}(h:Sorted l)(lo:ByteArray):Sorted (χ l lo):=h.sublist List.filter_sublist
theorem zE6(l:List KV)(lo:ByteArray):(l.find? fun q=>!kl q.k lo)=(χ l lo)[0]?:=by
 rw[qJ6,χ,List.head?_eq_getElem?]
theorem zB8(l:List KV)(lo pk:ByteArray)(hlo:kl pk lo=false):(l.filter fun q=>kl pk q.k)=(χ l lo).filter fun q=>kl pk q.k:=by
 unfold χ;rw[List.filter_filter];refine List.filter_congr fun q hq=>?_;by_cases hk:kl pk q.k=true
 ·have:kl q.k lo=false:=by
   by_cases e:kl q.k lo=true
   ·have:=qH5 hk e;rw[hlo] at this;cases this
   ·simpa using e
  rw[hk,this];rfl
 ·have hk':kl pk q.k=false:=by simpa using hk
  rw[hk'];rfl
theorem zE7{l:List KV}(h:Sorted l)(lo:ByteArray){j:Nat}(hj:j<(χ l lo).length):(l.find? fun q=>kl (χ l lo)[j].k q.k)=(χ l lo)[j+1]?:=by
 rw[qJ6,List.head?_eq_getElem?];have hlo:kl (χ l lo)[j].k lo=false:=by
  have hm:(χ l lo)[j]∈χ l lo:=List.getElem_mem hj;have:=(List.mem_filter.1 hm).2;simpa using this
 have e1:=zB8 l lo _ hlo;rw[e1];have hs:=qO8 h lo;generalize χ l lo=A at *;have e2:A.filter (fun q=>kl A[j].k q.k)=A.drop (j+1):=by
  have hsplit:A=A.take (j+1)++A.drop (j+1):=(List.take_append_drop _ _).symm;have hp:=List.pairwise_iff_getElem.1 hs;have h1:(A.take (j+1)).filter (fun q=>kl A[j].k q.k)=[]:=by
   rw[List.filter_eq_nil_iff];intro q hq;obtain⟨i,hi,rfl⟩:=List.getElem_of_mem hq;rw[List.getElem_take];simp only[List.length_take] at hi;by_cases e:i=j
   ·subst e;simp[qP6]
   ·have:=qK4 (hp i j (by omega) hj (by omega));simp[this]
  have h2:(A.drop (j+1)).filter (fun q=>kl A[j].k q.k)=A.drop (j+1):=by
   rw[List.filter_eq_self];intro q hq;obtain⟨i,hi,rfl⟩:=List.getElem_of_mem hq;rw[List.getElem_drop];simp only[List.length_drop] at hi;exact hp j (j+1+i) hj (by omega) (by omega)
  calc A.filter (fun q=>kl A[j].k q.k)=(A.take (j+1)++A.drop (j+1)).filter (fun q=>kl A[j].k q.k):=by rw[List.take_append_drop]
   _=A.drop (j+1):=by rw[List.filter_append,h1,h2,List.nil_append]
 rw[e2];simp
theorem qO2(l:List KV)(lo hi:ByteArray):l.filter (inR lo hi)=(χ l lo).filter fun q=>kl q.k hi:=by
 rw[χ,List.filter_filter];refine List.filter_congr fun q _=>?_;rw[inR,Bool.and_comm]
theorem qO9{l:List KV}(h:Sorted l)(lo hi:ByteArray){j:Nat}(hj:j≤(χ l lo).length)(ha:∀ q∈(χ l lo).take j,kl q.k hi=true)(hb:∀ q,(χ l lo)[j]?=some q→kl q.k hi=false):l.filter (inR lo hi)=(χ l lo).take j:=by
 rw[qO2];have hs:=qO8 h lo;generalize χ l lo=A at *;have h1:(A.take j).filter (fun q=>kl q.k hi)=A.take j:=List.filter_eq_self.2 ha;have h2:(A.drop j).filter (fun q=>kl q.k hi)=[]:=by
  rw[List.filter_eq_nil_iff];intro q hq;obtain⟨i,hi',rfl⟩:=List.getElem_of_mem hq;rw[List.getElem_drop];simp only[List.length_drop] at hi';have hjl:j<A.length:=by omega
  have hb':=hb A[j] (by simp[hjl]);by_cases e:i=0
  ·subst e;simp[hb']
  ·have:=List.pairwise_iff_getElem.1 hs j (j+i) hjl (by omega) (by omega);by_cases e2:kl A[j+i].k hi=true
   ·have:=qH5 this e2;rw[hb'] at this;cases this
   ·simpa using e2
 calc A.filter (fun q=>kl q.k hi)=(A.take j++A.drop j).filter (fun q=>kl q.k hi):=by rw[List.take_append_drop]
  _=A.take j:=by rw[List.filter_append,h1,h2,List.append_nil]
theorem zE8{l:List KV}(h:Sorted l)(lo hi:ByteArray){j:Nat}(hj:j≤(χ l lo).length)(ha:∀ q∈(χ l lo).take j,kl q.k hi=true):(χ l lo).take j <+: l.filter (inR lo hi):=by
 rw[qO2];generalize χ l lo=A at *;have h1:(A.take j).filter (fun q=>kl q.k hi)=A.take j:=List.filter_eq_self.2 ha;refine⟨(A.drop j).filter (fun q=>kl q.k hi),?_⟩
 calc A.take j++(A.drop j).filter (fun q=>kl q.k hi)=(A.take j++A.drop j).filter (fun q=>kl q.k hi):=by rw[List.filter_append,h1]
  _=A.filter (fun q=>kl q.k hi):=by rw[List.take_append_drop]
theorem zT1(lo:ByteArray):Up fun k=>!kl k lo:=fun a b hab ha=>by
 by_cases e:kl b lo=true
 ·have:=qH5 hab e;simp[this] at ha
 ·simpa using e
theorem zT2(p:ByteArray):Up fun k=>kl p k:=fun a b hab ha=>qH5 ha hab
end Go.Proofs.YtdohpenfkdckiaaGreatDoor
namespace Go.Proofs.YtdohpenfkdckiaaGreatDoor
open Go.Proofs.Tryz
open Go.RowKit
attribute [local go_sem] Oper.semAt_some
def YS(W:World)(N:Nat)(S:List Nat):Prop:=∀ k∈S,k<N∧((∃ c t fr,W.heap[k]?=some (.cells c t fr)∧(t=29∨t=42))∨∃ rec,W.heap[k]?=some (.loop rec))
theorem YS.keep{W W':World}{N:Nat}{S:List Nat}(h:YS W N S)(hK:Kp S W W'){k:Nat}{c:Array Value}{t:TypeId}{fr:Nat × Nat}(hk:W.heap[k]?=some (.cells c t fr))(ht:t≠29∧(t≠42∨N≤k)):W'.heap[k]?=some (.cells c t fr):=by
 refine hK.heap hk fun hm=>?_;obtain⟨h1,h2⟩:=h k hm;rcases h2 with⟨c',t',fr',h3,h4⟩|⟨rec,h3⟩
 ·rw[hk] at h3;cases h3;rcases h4 with h4|h4
  ·exact ht.1 h4
  ·rcases ht.2 with h5|h5
   ·exact h5 h4
   ·omega
 ·rw[hk] at h3;cases h3
theorem YS.apt{W:World}{N:Nat}{S:List Nat}(h:YS W N S):Apt W S qF9:=fun k hk c t fr e hm=>by
 obtain⟨h1,h2⟩:=h k hk;rcases h2 with⟨c',t',fr',h3,h4⟩|⟨rec,h3⟩
 ·rw[e] at h3;cases h3;rcases h4 with rfl|rfl<;>revert hm<;>decide
 ·rw[e] at h3;cases h3
structure AllIn(E:SEnv)(x A n:Nat)(t:Tx)(s:Sto)(r:Root)(B Lc Hc:Nat)(lo hi:ByteArray)(w:World):Prop where
 live:LiveT E w x A n t s r
 hB:w.heap[B]?=some (.cells #[.pointer (some ⟨x,0,none⟩)] 32)
 hL:w.heap[Lc]?=some (.cells #[.string lo] 9)
 hH:w.heap[Hc]?=some (.cells #[.string hi] 9)
theorem AllIn.more{E:SEnv}{x A n:Nat}{t:Tx}{s:Sto}{r:Root}{B Lc Hc:Nat}{lo hi:ByteArray}{w w':World}(h:AllIn E x A n t s r B Lc Hc lo hi w)(hK:Kp [] w w'):AllIn E x A n t s r B Lc Hc lo hi w':=
 ⟨h.live.more hK,hK.hp h.hB,hK.hp h.hL,hK.hp h.hH⟩
theorem AllIn.turn{E:SEnv}{x A n:Nat}{t:Tx}{s:Sto}{r:Root}{B Lc Hc:Nat}{lo hi:ByteArray}{w w':World}{L:List Nat}(h:AllIn E x A n t s r B Lc Hc lo hi w)(hK:Kp L w w')(hS:w'.heap[t.St]?=some (ν 0 s))(hd:E.Dev w')
  (hL:∀ k∈L,k=t.St∨k∈E.S∨∃ c u fr,w.heap[k]?=some (.cells c u fr)∧u ∉ [99,32,9,263,213,185,87]):AllIn E x A n t s r B Lc Hc lo hi w':=by
 have hout:∀ k c u fr,w.heap[k]?=some (.cells c u fr)→u∈[99,32,9,213,185,87]→k ∉ L:=fun k c u fr hk hu hm=>by
  rcases hL k hm with h1|h1|⟨c',u',fr',h1,h2⟩
  ·subst h1;rw[h.live.hSt] at hk;cases hk
   revert hu;decide
  ·exact E.nin h.live.dev hk ((show ∀ u∈([99,32,9,213,185,87]:List TypeId),u ∉ qE3 by decide) u hu) h1
  ·rw[hk] at h1;cases h1;exact h2 ((show ∀ u∈([99,32,9,213,185,87]:List TypeId),u∈([99,32,9,263,213,185,87]:List TypeId) by decide) u hu)
 have hV:E.V ∉ L:=fun hm=>by
  rcases hL _ hm with h1|h1|⟨c',u',fr',h1,h2⟩
  ·exact qB9 h.live.hV h.live.hSt (by decide) h1
  ·exact h.live.vS h1
  ·rw[h.live.hV] at h1;cases h1;exact h2 (by decide)
 refine⟨{ h.live with hx:=hK.heap h.live.hx (hout _ _ _ _ h.live.hx (by decide)),hSt:=hS,hV:=hK.heap h.live.hV hV,dev:=hd,rr:=h.live.rr.keepT hK (fun k hk c u fr e hm=>hout k c u fr e ((show ∀ u∈qF9,u∈([99,32,9,213,185,87]:List TypeId) by decide) u hm) hk) },hK.heap h.hB (hout _ _ _ _ h.hB (by decide)),hK.heap h.hL (hout _ _ _ _ h.hL (by decide)),hK.heap h.hH (hout _ _ _ _ h.hH (by decide))⟩
end Go.Proofs.YtdohpenfkdckiaaGreatDoor
namespace Go.Proofs.YtdohpenfkdckiaaGreatDoor
open Go.Proofs.Tryz
open Go.RowKit
attribute [local go_sem] Oper.semAt_some
theorem YS.off{W:World}{N:Nat}{S:List Nat}(h:YS W N S):OffD W S:=fun k hk c t fr e hm=>by
 obtain⟨h1,h2⟩:=h k hk;rcases h2 with⟨c',t',fr',h3,h4⟩|⟨rec,h3⟩
 ·rw[e] at h3;cases h3;rcases h4 with rfl|rfl<;>revert hm<;>decide
 ·rw[e] at h3;cases h3
theorem AllIn.round{E:SEnv}{x A n:Nat}{t:Tx}{s:Sto}{r:Root}{B Lc Hc:Nat}{lo hi:ByteArray}{w w':World}{N:Nat}{SY:List Nat}(h:AllIn E x A n t s r B Lc Hc lo hi w)(hY:YS w N SY)(hK:Kp SY w w'):AllIn E x A n t s r B Lc Hc lo hi w':=by
 have hS:=hY.keep hK h.live.hSt ⟨by decide,.inl (by decide)⟩;refine⟨{ h.live with hx:=hY.keep hK h.live.hx ⟨by decide,.inl (by decide)⟩,hSt:=hS,hV:=hY.keep hK h.live.hV ⟨by decide,.inl (by decide)⟩,dev:=E.keepX w w' SY h.live.dev hK hY.off,rr:=h.live.rr.keepT hK hY.apt },hY.keep hK h.hB ⟨by decide,.inl (by decide)⟩,hY.keep hK h.hL ⟨by decide,.inl (by decide)⟩,hY.keep hK h.hH ⟨by decide,.inl (by decide)⟩⟩
theorem qU6(E:SEnv)(x A n:Nat)(t:Tx)(s:Sto)(r:Root)(B Lc Hc:Nat)(lo hi call:ByteArray)(Sx Nx g:Nat)(cap:Array Value)(f:ByteArray→Bool)(w:World)(hI:AllIn E x A n t s r B Lc Hc lo hi w)(hS:w.heap[Sx]?=some (qD0 (some ⟨E.V,0,none⟩) t.h))(hN:w.heap[Nx]?=some (.cells #[.func (.func g) #[] cap] 92))(Px Tc:Nat)
  (hP:w.heap[Px]?=some (.cells #[.string ⟨#[]⟩,.string ⟨#[]⟩] 42)) (hT:w.heap[Tc]?=some (.cells #[.bool false] 4)) (hup:Up f)
  (ha:∀ W,Kp (t.St::E.S) w W→∀ k,Calls prog g (#[.string k]++cap) W fun e W'=>e=.returned (.bool (f k))∧Kp [] W W')
  (hcf:∀ (args:Array Value) (W:World),Sem.run prog (callFunc g args) W=.ok (.enter g args) W):
  Calls prog 45 #[.pointer (some ⟨x,0,none⟩),.string call,.func (.func 179) #[] #[.pointer (some ⟨Sx,0,none⟩),.pointer (some ⟨Nx,0,none⟩),.pointer (some ⟨Px,0,none⟩),.pointer (some ⟨Tc,0,none⟩)]] w fun e w'=>e=.returned .nilIface∧w'.heap[Px]?=some (.cells #[.string (pkv (r.cont.find? fun q=>f q.k)).k,.string (pkv (r.cont.find? fun q=>f q.k)).v] 42)∧w'.heap[Tc]?=some (.cells #[.bool (r.cont.find? fun q=>f q.k).isSome] 4)∧w'.heap[t.St]?=some (ν 0 s)∧E.Dev w'∧Kp (t.St::Px::Tc::E.S) w w':=by
 have hL:=hI.live;refine (qJ9 none (by decide) x t.St 179 t s s #[] _ call (Px::Tc::E.S) (fun W w1=>E.Dev w1∧w1.heap[t.St]?=some (ν 1 s)∧w1.heap[Px]?=some (.cells #[.string (pkv (r.cont.find? fun q=>f q.k)).k,.string (pkv (r.cont.find? fun q=>f q.k)).v] 42)∧w1.heap[Tc]?=some (.cells #[.bool (r.cont.find? fun q=>f q.k).isSome] 4)) w hL.hx hL.over rfl hL.hSt hL.po hL.xS (qZ4 _) (fun i hi=>by
  simp only[List.mem_cons] at hi;rcases hi with h|h|h
  ·rw[h];exact ζ hP
  ·rw[h];exact ζ hT
  ·exact E.low w hL.dev i h) ?_).mono ?_
 ·intro W hK hSW;have hd:=hL.devS hK;have hne:∀ {k:Nat} {c:Array Value} {u:TypeId} {fr:Nat × Nat},w.heap[k]?=some (.cells c u fr)→u≠169→k ∉ [t.St]:=fun hk hu hm=>qB9 hk hL.hSt hu (List.mem_singleton.1 hm);have hPW:=hK.heap hP (hne hP (by decide));have hTW:=hK.heap hT (hne hT (by decide));refine (qU2 E Sx Nx Px Tc g cap f t.h r W (hK.heap hS (hne hS (by decide))) (hK.heap hN (hne hN (by decide))) hPW hTW hd (hL.rr.keepT hK (Apt.one hL.hSt (by decide))) hL.good hup (fun W' k hT'=>ha W' ((hK.mono (S':=t.St::E.S) (by simp)).trans hT'.kp (by simp +contextual)) k) hcf).mono ?_;rintro e w2 ⟨rfl,h1,h2,w1,hT1,hK1⟩;have hSt2:w2.heap[t.St]?=some (ν 1 s):=hK1.heap (E.stay hd hT1 hSW (by decide)) (by
   simp only[List.mem_cons,List.not_mem_nil,or_false,not_or];exact⟨qB9 hL.hSt hP (by decide),qB9 hL.hSt hT (by decide)⟩)
  exact⟨rfl,⟨E.keepX w1 w2 _ hT1.dev hK1 ((OffD.one (E.stay hd hT1 hPW (by decide)) (by decide)).cons (OffD.one (E.stay hd hT1 hTW (by decide)) (by decide))),hSt2,h1,h2⟩,(hT1.kp.mono (S':=t.St::Px::Tc::E.S) (by simp +contextual)).trans hK1 (by intro i hi _;simp at hi ⊢;rcases hi with h | h<;>simp[h]),hSt2⟩
 ·rintro e w2 ⟨v,rfl,hv,hSt2,hK2,W,w1,Bb,⟨hd1,hS1,hP1,hT1⟩,hKW,hb1,hb2,hb3,hKB⟩;have hv':v=.nilIface:=hv;subst hv';have hne:∀ {k:Nat} {c:Array Value} {u:TypeId} {fr:Nat × Nat},w1.heap[k]?=some (.cells c u fr)→u≠169→u≠38→k ∉ [t.St,Bb]:=fun hk hu hu2 hm=>by
   simp only[List.mem_cons,List.not_mem_nil,or_false] at hm;rcases hm with h|h
   ·exact qB9 hk hS1 hu h
   ·exact qB9 hk hb3 hu2 h
  exact⟨rfl,hKB.heap hP1 (hne hP1 (by decide) (by decide)),hKB.heap hT1 (hne hT1 (by decide) (by decide)),hSt2,E.keepX w1 w2 _ hd1 hKB (qR5 hS1 hb3),hK2⟩
theorem qU5(E:SEnv)(x A n:Nat)(t:Tx)(s:Sto)(r:Root)(B Lc Hc:Nat)(lo hi call:ByteArray)(Sx:Nat)(w:World)(hI:AllIn E x A n t s r B Lc Hc lo hi w)(hS:w.heap[Sx]?=some (qD0 none ⟨⟨#[]⟩,0,0,none⟩)):
  Calls prog 45 #[.pointer (some ⟨x,0,none⟩),.string call,.func (.func 177) #[] #[.pointer (some ⟨B,0,none⟩),.pointer (some ⟨Sx,0,none⟩)]] w fun e w'=>e=.returned .nilIface∧w'.heap[Sx]?=some (qD0 (some ⟨E.V,0,none⟩) t.h)∧w'.heap[t.St]?=some (ν 0 s)∧E.Dev w'∧Kp [t.St,Sx] w w':=by
 have hL:=hI.live;refine (qJ9 none (by decide) x t.St 177 t s s #[] _ call [Sx] (fun W w1=>E.Dev w1∧w1.heap[t.St]?=some (ν 1 s)∧w1.heap[Sx]?=some (qD0 (some ⟨E.V,0,none⟩) t.h)) w hL.hx hL.over rfl hL.hSt hL.po hL.xS (qZ2 _) (fun i hi=>by rw[List.mem_singleton.1 hi];exact ζ hS) ?_).mono ?_
 ·intro W hK hSW;have hd:=hL.devS hK;have hne:∀ {k:Nat} {c:Array Value} {u:TypeId} {fr:Nat × Nat},w.heap[k]?=some (.cells c u fr)→u≠169→k ∉ [t.St]:=fun hk hu hm=>qB9 hk hL.hSt hu (List.mem_singleton.1 hm);have hSxW:=hK.heap hS (hne hS (by decide));refine (qU0 B Sx x t W (hK.heap hI.hB (hne hI.hB (by decide))) hSxW (hK.heap hL.hx (hne hL.hx (by decide)))).mono ?_;rintro e w1 ⟨rfl,h1,hK1⟩;have hS1:w1.heap[t.St]?=some (ν 1 s):=hK1.heap hSW (by simp;exact qB9 hSW hSxW (by decide));rw[hL.on] at h1;exact⟨rfl,⟨E.keepX W w1 _ hd hK1 (OffD.one hSxW (by decide)),hS1,h1⟩,hK1.mono (by simp +contextual),hS1⟩
 ·rintro e w2 ⟨v,rfl,hv,hSt2,hK2,W,w1,Bb,⟨hd1,hS1,hP1⟩,hKW,hb1,hb2,hb3,hKB⟩;have hv':v=.nilIface:=hv;subst hv';refine⟨rfl,hKB.heap hP1 ?_,hSt2,E.keepX w1 w2 _ hd1 hKB (qR5 hS1 hb3),hK2⟩;simp only[List.mem_cons,List.not_mem_nil,or_false,not_or];exact⟨qB9 hP1 hS1 (by decide),qB9 hP1 hb3 (by decide)⟩
structure AllSt(E:SEnv)(x A n:Nat)(t:Tx)(s:Sto)(r:Root)(B Lc Hc:Nat)(lo hi:ByteArray)(Sx Nx:Nat)(J:Nat→List KV→World→Prop)(j:Nat)(w:World):Prop where
 inn:AllIn E x A n t s r B Lc Hc lo hi w
 le:j≤(χ r.cont lo).length
 ahead:∀ q∈(χ r.cont lo).take j,kl q.k hi=true
 hS:w.heap[Sx]?=some (qD0 (some ⟨E.V,0,none⟩) t.h)
 hN:(j=0∧w.heap[Nx]?=some (.cells #[.func (.func 178) #[] #[.pointer (some ⟨Lc,0,none⟩)]] 92))∨∃ p Px,1≤j∧(χ r.cont lo)[j-1]?=some p∧w.heap[Nx]?=some (.cells #[.func (.func 180) #[] #[.pointer (some ⟨Px,0,none⟩)]] 92)∧w.heap[Px]?=some (.cells #[.string p.k,.string p.v] 42)
 jj:J w.heap.size ((χ r.cont lo).take j) w
theorem AllSt.asks{E:SEnv}{x A n:Nat}{t:Tx}{s:Sto}{r:Root}{B Lc Hc:Nat}{lo hi:ByteArray}{Sx Nx:Nat}{J:Nat→List KV→World→Prop}{j:Nat}{w:World}(h:AllSt E x A n t s r B Lc Hc lo hi Sx Nx J j w)(hs:Sorted r.cont):
  ∃ g cap f,w.heap[Nx]?=some (.cells #[.func (.func g) #[] cap] 92)∧Up f∧(∀ (args:Array Value) (W:World),Sem.run prog (callFunc g args) W=.ok (.enter g args) W)∧(r.cont.find? fun q=>f q.k)=(χ r.cont lo)[j]?∧
   ∀ W,Kp (t.St::E.S) w W→∀ k,Calls prog g (#[.string k]++cap) W fun e W'=>e=.returned (.bool (f k))∧Kp [] W W':=by
 have hne:∀ {k:Nat} {c:Array Value} {u:TypeId} {fr:Nat × Nat},w.heap[k]?=some (.cells c u fr)→u≠169→u ∉ qE3→k ∉ t.St::E.S:=fun hk hu hd hm=>by
  rcases List.mem_cons.1 hm with h1|h1
  ·exact qB9 hk h.inn.live.hSt hu h1
  ·exact E.nin h.inn.live.dev hk hd h1
 rcases h.hN with⟨rfl,hN⟩|⟨p,Px,hj,hp,hN,hP⟩
 ·exact⟨_,_,_,hN,zT1 lo,qZ3,zE6 _ _,fun W hK k=>qU1 Lc lo k W (hK.heap h.inn.hL (hne h.inn.hL (by decide) (by decide)))⟩
 ·obtain⟨hl,hp'⟩:=List.getElem?_eq_some_iff.1 hp;refine⟨_,_,_,hN,zT2 p.k,qZ5,?_,fun W hK k=>qU3 Px p.k k p.v W (hK.heap hP (hne hP (by decide) (by decide)))⟩;have e:=zE7 hs lo hl;rw[hp'] at e;rw[e,show j-1+1=j by omega]
theorem qU4(E:SEnv)(x A n:Nat)(t:Tx)(s:Sto)(r:Root)(B Lc Hc l m:Nat)(lo hi:ByteArray)(J:Nat→List KV→World→Prop)(Jx:List KV→World→Prop)(w:World)
  (hJ:∀ N pre W W' S,J N pre W→Kp S W W'→(∀ k∈S,k=t.St∨k∈E.S∨(w.heap.size≤k∧∃ c fr,W.heap[k]?=some (.cells c 92 fr)))→W'.heap[t.St]?=some (ν 0 s)→E.Dev W'→J N pre W')
  (hJN:∀ N N' pre W,J N pre W→N≤N'→J N' pre W)
  (hY:∀ N pre p W1,J N pre W1→N≤W1.heap.size→pre++[p] <+: r.cont.filter (inR lo hi)→AllIn E x A n t s r B Lc Hc lo hi W1→YieldAt Fence.wide (m-1) prog l #[.agg #[.string p.k,.string p.v],.nilIface] W1 fun e W'=>∃ SY,YS W1 N SY∧Kp SY W1 W'∧((e=.returned (.bool true)∧J W'.heap.size (pre++[p]) W')∨(e=.returned (.bool false)∧Jx (pre++[p]) W')))
  (hI:AllIn E x A n t s r B Lc Hc lo hi w) (h0:J w.heap.size [] w):
  CallsIn Fence.wide m prog 176 #[.func (.yield l) #[] #[],.pointer (some ⟨B,0,none⟩),.pointer (some ⟨Lc,0,none⟩),.pointer (some ⟨Hc,0,none⟩)] w fun e w'=>(∃ v,e=.returned v)∧((∃ N,J N (r.cont.filter (inR lo hi)) w')∨∃ pre,pre <+: r.cont.filter (inR lo hi)∧Jx pre w'):=by
 have hmf:=zM;have HI:=zh hI;have HJ:=zh hJ;have HJN:=zh hJN;have HY:=zh hY;have HJ0:=zh h0;have HSO:Hid (Sorted r.cont):=(zP7 hI.live.good).1;have hB0:=η (.cells #[.pointer none,.string ⟨#[]⟩,.int .i64 0,.int .u64 0,.pointer none] 89) hI.hB;have b0:=ξ hB0 0;simp only[zG,zH] at b0;have hBs:=ζ hI.hB;have hSs:=ζ hI.live.hSt;clear hI hJ hJN hY h0 hB0;refine callsIn_of_wp func176 rfl trivial ?_ rfl;simp only[ntmps176,List.size_toArray,List.length_cons,List.length_nil,Nat.reduceAdd,Nat.reduceSub,Array.replicate_succ,Array.replicate_zero,List.push_toArray,List.append_toArray,List.nil_append,List.cons_append]
 gi_wp2_with fail
 refine⟨trivial,fun h=>(by cases h),?_⟩;obtain⟨w0,hw0,hS0,hK0⟩:∃ w0,w0=w.alloc (.cells #[.pointer none,.string ⟨#[]⟩,.int .i64 0,.int .u64 0,.pointer none] 89)∧w0.heap[w.heap.size]?=some (qD0 none ⟨⟨#[]⟩,0,0,none⟩)∧Kp [] w w0:=⟨_,rfl,κ _ _,(Kp.refl _ _).alloc _⟩;rw[←hw0];clear hw0 b0;have hI0:=HI.out.more hK0;refine callsIn_wide.2 ((qU5 E x A n t s r B Lc Hc lo hi _ w.heap.size w0 hI0 hS0).mono ?_);rintro e w1 ⟨rfl,hS1,hSt1,hd1,hK1⟩;have hI1:AllIn E x A n t s r B Lc Hc lo hi w1:=hI0.turn hK1 hSt1 hd1 (fun k hk=>by
  simp only[List.mem_cons,List.not_mem_nil,or_false] at hk;rcases hk with h|h
  ·exact .inl h
  ·rw[h];exact .inr (.inr ⟨_,_,_,hS0,by decide⟩))
 have hJ1:J w.heap.size [] w1:=HJ.out _ _ _ _ [t.St] HJ0.out ((hK0.mono (S':=[t.St]) (by simp)).trans hK1 (by intro i hi hlt;simp at hi ⊢;omega)) (by simp) hSt1 hd1;have hs1:=Nat.le_trans hK0.size hK1.size;clear hS0 hK0 hI0 hK1
 gi_wp2_with fail
 obtain⟨w2,hw2,hN2,hK2⟩:∃ w2,w2=w1.alloc (.cells #[.func (.func 178) #[] #[.pointer (some ⟨Lc,0,none⟩)]] 92)∧w2.heap[w1.heap.size]?=some (.cells #[.func (.func 178) #[] #[.pointer (some ⟨Lc,0,none⟩)]] 92)∧Kp [] w1 w2:=⟨_,rfl,κ _ _,(Kp.refl _ _).alloc _⟩;rw[←hw2];clear hw2;have hI2:=hI1.more hK2;have HA2:Hid (AllSt E x A n t s r B Lc Hc lo hi w.heap.size w1.heap.size J 0 w2):=
  ⟨hI2,Nat.zero_le _,by simp,hK2.hp hS1,.inl ⟨rfl,hN2⟩,HJN.out _ _ _ _ (HJ.out _ _ _ _ [] hJ1 hK2 (by simp) hI2.live.hSt hI2.live.dev) (by have:=hK2.size;omega)⟩
 clear hI2 hI1 hN2 hK2 hS1 hSt1 hd1 hJ1;obtain⟨Sx,hSx⟩:∃ Sx,Sx=w.heap.size:=⟨_,rfl⟩;obtain⟨Nx,hNx⟩:∃ Nx,Nx=w1.heap.size:=⟨_,rfl⟩;rw[←hSx,←hNx] at HA2;rw[←hSx,←hNx];have hNw:w.heap.size≤Nx:=by omega
 clear hSx hNx hs1 hBs hSs
 gi_loopg [6] ((χ r.cont lo).length+1) (fun k err wr=>∃ j,k+j=(χ r.cont lo).length+1∧err=.nilIface∧Hid (AllSt E x A n t s r B Lc Hc lo hi Sx Nx J j wr))
 case atStart=>exact⟨0,rfl,rfl,HA2⟩
 case round=>
  obtain⟨j,hkj,rfl,hA⟩:=hrel;obtain⟨g,cap,f,hN,hup,hcf,hfind,hask⟩:=hA.out.asks HSO.out;have hBr:=hA.out.inn.hB;have hb0:=η (.cells #[.bool false] 4) (η (.cells #[.string ⟨#[]⟩,.string ⟨#[]⟩] 42) hBr);have hBs:=ζ hBr;have b0:=ξ hb0 0;simp only[zG,zH,zI] at b0;have HF:Hid (wr.heap[Nx]?=some (.cells #[.func (.func g) #[] cap] 92)∧Up f∧(∀ (args:Array Value) (W:World),Sem.run prog (callFunc g args) W=.ok (.enter g args) W)∧(r.cont.find? fun q=>f q.k)=(χ r.cont lo)[j]?∧
   ∀ W,Kp (t.St::E.S) wr W→∀ k,Calls prog g (#[.string k]++cap) W fun e W'=>e=.returned (.bool (f k))∧Kp [] W W'):=⟨hN,hup,hcf,hfind,hask⟩
  clear hN hup hcf hfind hask hBr hb0
  gi_wp2_with fail
  refine⟨trivial,fun h=>(by cases h),?_⟩;obtain⟨w3,hw3,hP3,hT3,hK3,hs3⟩:∃ w3,w3=(wr.alloc (.cells #[.string ⟨#[]⟩,.string ⟨#[]⟩] 42)).alloc (.cells #[.bool false] 4)∧w3.heap[wr.heap.size]?=some (.cells #[.string ⟨#[]⟩,.string ⟨#[]⟩] 42)∧w3.heap[wr.heap.size+1]?=some (.cells #[.bool false] 4)∧Kp [] wr w3∧w3.heap.size=wr.heap.size+2:=by
   refine⟨_,rfl,η _ (κ _ _),?_,((Kp.refl _ _).alloc _).alloc _,by simp⟩;have e:=κ (wr.alloc (.cells #[.string ⟨#[]⟩,.string ⟨#[]⟩] 42)) (.cells #[.bool false] 4);simpa using e
  rw[←hw3];clear hw3 b0;have hI3:=hA.out.inn.more hK3;have hS3:=hK3.hp hA.out.hS;have hN3:=hK3.hp HF.out.1;refine callsIn_wide.2 ((qU6 E x A n t s r B Lc Hc lo hi _ Sx Nx g cap f w3 hI3 hS3 hN3 wr.heap.size (wr.heap.size+1) hP3 hT3 HF.out.2.1 (fun W hK k=>HF.out.2.2.2.2 W ((hK3.mono (by simp)).trans hK (fun _ h _=>h)) k) HF.out.2.2.1).mono ?_);rintro e w4 ⟨rfl,hP4,hT4,hSt4,hd4,hK4⟩;rw[HF.out.2.2.2.1] at hP4 hT4;have hSt3:=hI3.live.hSt;have hK34:Kp (t.St::E.S) wr w4:=(hK3.mono (S':=t.St::E.S) (by simp)).trans hK4 (by
   intro i hi hlt;simp only[List.mem_cons] at hi ⊢;rcases hi with h|h|h|h
   ·exact .inl h
   ·omega
   ·omega
   ·exact .inr h)
  have hturn:∀ k∈t.St::wr.heap.size::(wr.heap.size+1)::E.S,k=t.St∨k∈E.S∨∃ c u fr,w3.heap[k]?=some (.cells c u fr)∧u ∉ [99,32,9,263,213,185,87]:=fun k hk=>by
   simp only[List.mem_cons] at hk;rcases hk with h|h|h|h
   ·exact .inl h
   ·rw[h];exact .inr (.inr ⟨_,_,_,hP3,by decide⟩)
   ·rw[h];exact .inr (.inr ⟨_,_,_,hT3,by decide⟩)
   ·exact .inr (.inl h)
  have HI4:Hid (AllIn E x A n t s r B Lc Hc lo hi w4):=hI3.turn hK4 hSt4 hd4 hturn;have HJ4:Hid (J wr.heap.size ((χ r.cont lo).take j) w4):=HJ.out _ _ _ _ (t.St::E.S) hA.out.jj hK34 (fun k hk=>by
   rcases List.mem_cons.1 hk with h|h
   ·exact .inl h
   ·exact .inr (.inl h)) hSt4 hd4
  have hne:∀ {k:Nat} {c:Array Value} {u:TypeId} {fr:Nat × Nat},wr.heap[k]?=some (.cells c u fr)→u≠169→u ∉ qE3→k ∉ t.St::E.S:=fun hk hu hdv hm=>by
   rcases List.mem_cons.1 hm with h1|h1
   ·exact qB9 hk hA.out.inn.live.hSt hu h1
   ·exact E.nin hA.out.inn.live.dev hk hdv h1
  have HS4:Hid (w4.heap[Sx]?=some (qD0 (some ⟨E.V,0,none⟩) t.h)):=hK34.heap hA.out.hS (hne hA.out.hS (by decide) (by decide));have hN4:=hK34.heap HF.out.1 (hne HF.out.1 (by decide) (by decide));have HP4:=zh hP4;have HN4:=zh hN4;have hP4s:=ζ hP4;have hT4s:=ζ hT4;have hH4:=HI4.out.hH;have hH4s:=ζ hH4;have hle:=hA.out.le;have HAH:=zh hA.out.ahead;have y0:=ξ hH4 0;simp only[zG,zH,zI] at y0
  cases hq:(χ r.cont lo)[j]? with
  | none=>
   rw[hq] at hT4;have c0:=ξ hT4 0;simp only[zG,zH,zI] at c0;have HEQ:Hid (r.cont.filter (inR lo hi)=(χ r.cont lo).take j):=qO9 HSO.out lo hi hle HAH.out (fun q h=>by rw[hq] at h;cases h);clear hq hP4 hT4 hK4 hK34 hturn hne hI3 hS3 hN3 hP3 hT3 hK3 hN4 hSt4 hd4 hSt3 hH4
   gi_wp2
   refine⟨fun _ h=>(by cases h),?_⟩
   gi_wp2
   refine bodyPost_ret (results_none results176 _ _ _) rfl ?_;exact⟨⟨_,rfl⟩,.inl ⟨wr.heap.size,by rw[HEQ.out];exact HJ4.out⟩⟩
  | some q=>
   rw[hq] at hT4 hP4;simp only[pkv,Option.isSome_some] at hT4 hP4;have c0:=ξ hT4 0;simp only[zG,zH,zI] at c0;have p0:=ξ hP4;obtain⟨hjl,hqe⟩:=List.getElem?_eq_some_iff.1 hq;have HQ:=zh hq
   cases hh:kl q.k hi with
   | false=>
    have hhb:Op.bytesLess q.k.toList hi.toList=false:=hh;have HEQ:Hid (r.cont.filter (inR lo hi)=(χ r.cont lo).take j):=qO9 HSO.out lo hi hle HAH.out (fun q' h=>by rw[hq] at h;cases h;exact hh);clear hq hP4 hT4 hK4 hK34 hturn hne hI3 hS3 hN3 hP3 hT3 hK3 hN4 hSt4 hd4 hSt3 hH4 hh hjl hqe
    gi_wp2
    refine⟨fun _ h=>(by cases h),?_⟩
    gi_wp2
    refine bodyPost_ret (results_none results176 _ _ _) rfl ?_;exact⟨⟨_,rfl⟩,.inl ⟨wr.heap.size,by rw[HEQ.out];exact HJ4.out⟩⟩
   | true=>
    have hhb:Op.bytesLess q.k.toList hi.toList=true:=hh;have htk:(χ r.cont lo).take (j+1)=(χ r.cont lo).take j++[q]:=by rw[List.take_succ_eq_append_getElem hjl,hqe]
    have HAH1:Hid (∀ q'∈(χ r.cont lo).take (j+1),kl q'.k hi=true):=fun q' hm=>by
     rw[htk] at hm;rcases List.mem_append.1 hm with hm|hm
     ·exact HAH.out q' hm
     ·rw[List.mem_singleton.1 hm];exact hh
    have HPA:Hid ((χ r.cont lo).take j++[q] <+: r.cont.filter (inR lo hi)):=by
     show _ <+: _;rw[←htk];exact zE8 HSO.out lo hi (by omega) HAH1.out
    obtain⟨fn,tmps,assign,body,hy,hR⟩:=HY.out wr.heap.size ((χ r.cont lo).take j) q w4 HJ4.out (by have:=hK34.size;omega) HPA.out HI4.out;have HTK:Hid ((χ r.cont lo).take (j+1)=(χ r.cont lo).take j++[q]∧j<(χ r.cont lo).length):=⟨htk,hjl⟩;have HP5:=zh hP4;clear hq hP4 hT4 hK4 hK34 hturn hne hI3 hS3 hN3 hP3 hT3 hK3 hN4 hSt4 hd4 hSt3 hH4 hh hjl hqe htk HP4
    gi_wp2
    refine⟨fun h=>(by cases h),hR.mono ?_⟩;clear hR hy;rintro e w5 ⟨SY,hYS,hKY,⟨rfl,hJ5⟩|⟨rfl,hJx⟩⟩
    ·have hI5:=HI4.out.round hYS hKY;have hS5:=hYS.keep hKY HS4.out ⟨by decide,.inl (by decide)⟩;have hN5:=hYS.keep hKY HN4.out ⟨by decide,.inl (by decide)⟩;have hP5:=hYS.keep hKY HP5.out ⟨by decide,.inr (Nat.le_refl _)⟩;have hN5s:=ζ hN5;obtain⟨w6,hw6,hN6,hK6⟩:∃ w6,w6=w5.setCell ⟨Nx,0,none⟩ (.func (.func 180) #[] #[.pointer (some ⟨wr.heap.size,0,none⟩)])∧w6.heap[Nx]?=some (.cells #[.func (.func 180) #[] #[.pointer (some ⟨wr.heap.size,0,none⟩)]] 92)∧Kp [Nx] w5 w6:=⟨_,rfl,θ hN5 0 _,(Kp.refl _ _).sc _⟩;have hne6:∀ {k:Nat} {c:Array Value} {u:TypeId} {fr:Nat × Nat},w5.heap[k]?=some (.cells c u fr)→u≠92→k ∉ [Nx]:=fun hk hu hm=>qB9 hk hN5 hu (List.mem_singleton.1 hm);have hSt6:=hK6.heap hI5.live.hSt (hne6 hI5.live.hSt (by decide));have hd6:=E.keepX w5 w6 [Nx] hI5.live.dev hK6 (OffD.one hN5 (by decide));have hI6:=hI5.turn hK6 hSt6 hd6 (fun k hk=>by rw[List.mem_singleton.1 hk];exact .inr (.inr ⟨_,_,_,hN5,by decide⟩));have hJ6:=HJ.out _ _ _ _ [Nx] hJ5 hK6 (fun k hk=>by rw[List.mem_singleton.1 hk];exact .inr (.inr ⟨hNw,_,_,hN5⟩)) hSt6 hd6;have HA6:Hid (AllSt E x A n t s r B Lc Hc lo hi Sx Nx J (j+1) w6):=
      ⟨hI6,HTK.out.2,HAH1.out,hK6.heap hS5 (hne6 hS5 (by decide)),.inr ⟨q,wr.heap.size,by omega,HQ.out,hN6,hK6.heap hP5 (hne6 hP5 (by decide))⟩,by
       rw[HTK.out.1];exact HJN.out _ _ _ _ hJ6 hK6.size⟩
     have n0:=ξ hN5 0;simp only[zG,zH,zI] at n0;have fn0:=τ hN5 0;clear hI5 hS5 hP5 hN6 hK6 hne6 hSt6 hd6 hI6 hJ6 hJ5 hYS hKY hN5
     gi_wp2
     rw[←hw6]
     gi_roundg (gk-1)
     ·exact⟨j+1,by omega,rfl,HA6⟩
     ·omega
    ·have HX:=zh hJx;clear hJx hYS hKY
     gi_wp2
     refine bodyPost_ret (results_none results176 _ _ _) rfl ?_;exact⟨⟨_,rfl⟩,.inr ⟨_,HPA.out,HX.out⟩⟩
end Go.Proofs.YtdohpenfkdckiaaGreatDoor
namespace Go.Proofs.YtdohpenfkdckiaaGreatDoor
open Go.Proofs.Tryz
open Go.RowKit
attribute [local go_sem] Oper.semAt_some
theorem Kp.putObj{S:List Nat}{a b:World}(h:Kp S a b){l:Nat}(hl:l∈S∨a.heap.size≤l)(o:Obj):Kp S a (b.putObj l o):=
 ⟨h.os,h.tape,h.output,by have:=h.size;simp[World.putObj];omega,fun k hk hn=>(World.putObj_heap_other (by
  rcases hl with hl|hl
  ·intro e;subst e;exact hn hl
  ·omega)).trans (h.block k hk hn)⟩
structure ScI(E:SEnv)(t:Tx)(s:Sto)(Ob M:Nat)(rec:LoopState→Option Code→Loop)(w:World)(N:Nat)(pre:List KV)(W:World):Prop where
 kp:Kp (t.St::Ob::E.S) w W
 hSt:W.heap[t.St]?=some (ν 0 s)
 dev:E.Dev W
 out:∃ v,W.heap[Ob]?=some (.cells #[v] 29)∧OPA W w.heap.size v pre∧∀ k,v.ownBlock=some k→k<N
 le:pre.length≤M
 lt:w.heap.size+1<N
 dfr:W.heap[w.heap.size]?=some (.deferred (some []))
 loop:W.heap[w.heap.size+1]?=some (.loop (rec .ready none))
def ScX(E:SEnv)(t:Tx)(s:Sto)(Ob M id:Nat)(rec:LoopState→Option Code→Loop)(w:World)(pre:List KV)(W:World):Prop:=
 ∃ q p v,pre=q++[p]∧q.length=M∧Kp (t.St::Ob::E.S) w W∧W.heap[t.St]?=some (ν 0 s)∧E.Dev W∧W.heap[Ob]?=some (.cells #[v] 29)∧OPA W w.heap.size v q∧W.heap[w.heap.size]?=some (.deferred (some []))∧W.heap[w.heap.size+1]?=some (.loop (rec .done (some (.exit id))))
theorem OPA.keep{S:List Nat}{w w':World}{base:Nat}{v:Value}{ps:List KV}(h:OPA w base v ps)(hK:Kp S w w')(hS:∀ k∈S,∀ c fr,w.heap[k]?≠some (.cells c 42 fr)):OPA w' base v ps:=by
 refine⟨h.1,?_⟩;rcases h.2 with h0|⟨g,cap,cur,h1,h2,h3,h4⟩
 ·exact .inl h0
 ·exact .inr ⟨g,cap,cur,h1,h2,hK.heap h3 (fun hm=>hS g hm _ _ h3),h4⟩
theorem qT2{nn:Nat}{g:Operand}{ps:Array Tmp}{assign body:Code}{Q:Exit→Act→World→Prop}{a:Act}{w:World}(E:SEnv)(x A n:Nat)(t:Tx)(s:Sto)(r:Root)(B Lc Hc Ob M id:Nat)(lo hi:ByteArray)(h1:1≤nn)
  (hg:a.eval g=.func (.func 176) #[] #[.pointer (some ⟨B,0,none⟩),.pointer (some ⟨Lc,0,none⟩),.pointer (some ⟨Hc,0,none⟩)]) (hps:ps.size=2)
  (hI:AllIn E x A n t s r B Lc Hc lo hi w) (hO:w.heap[Ob]?=some (.cells #[.slice none 0 0] 29))
  (a₁:KV→Nat→Act)
  (hassign:∀ (l:Nat) (p:KV) (W:World) (K:Act→World→Prop),K (a₁ p W.heap.size) (W.alloc (.cells #[.string p.k,.string p.v] 42))→
   assign.wpIn (Fence.wide.inRound l) (nn-1-1) prog (Exit.then K (fun _ _ _=>False)) { tmps:=(ps.zip #[.agg #[.string p.k,.string p.v],.nilIface]).foldl (fun t (p,v)=>t.setIfInBounds p v) a.tmps,defers:=[] } W)
  (hbody:∀ (l:Nat) (pre:List KV) (p:KV) (W:World) (v:Value) (Pb:Nat),W.heap[Ob]?=some (.cells #[v] 29)→OPA W w.heap.size v pre→W.heap[Pb]?=some (.cells #[.string p.k,.string p.v] 42)→w.heap.size≤Pb→v.ownBlock≠some Pb→Kp (t.St::Ob::E.S) w W→pre.length≤M→pre.length≤50000→
   body.wpIn (Fence.wide.inRound l) (nn-1-1) prog (fun e _ W3=>match e with
    | .normal=>pre.length<M∧∃ v3 S3,Kp S3 W W3∧(∀ k∈S3,k=Ob∨v.ownBlock=some k)∧W3.heap[Ob]?=some (.cells #[v3] 29)∧OPA W3 w.heap.size v3 (pre++[p])∧∀ k,v3.ownBlock=some k→k<W3.heap.size
    | .exit i=>i=id∧pre.length=M∧W3=W
    | _=>False) (a₁ p Pb) W)
  (hdone:∀ (W:World) (v:Value),Kp (t.St::Ob::E.S) w W→W.heap[t.St]?=some (ν 0 s)→E.Dev W→W.heap[Ob]?=some (.cells #[v] 29)→OPA W w.heap.size v (qB0 r.cont lo hi M)→W.heap[w.heap.size]?=some (.deferred (some []))→w.heap.size<W.heap.size→Q .normal { a with defers:={ target:=.collected w.heap.size,args:=#[] }::a.defers } W)
  (hstop:∀ (W:World) (v:Value),Kp (t.St::Ob::E.S) w W→W.heap[t.St]?=some (ν 0 s)→E.Dev W→W.heap[Ob]?=some (.cells #[v] 29)→OPA W w.heap.size v (qB0 r.cont lo hi M)→W.heap[w.heap.size]?=some (.deferred (some []))→w.heap.size<W.heap.size→(Code.exit id).wpIn Fence.wide nn prog Q { a with defers:={ target:=.collected w.heap.size,args:=#[] }::a.defers } W):
  (Code.rangeFunc g ps assign body).wpIn Fence.wide nn prog Q a w:=by
 refine wpIn_rangeFunc ?_;intro fn hfn;obtain⟨rec,hrec⟩:∃ rec:LoopState→Option Code→Loop,rec=fun st pe=>{ state:=st,pending:=pe,fn,tmps:=a.tmps,params:=ps,assign,body,defers:=w.heap.size }:=⟨_,rfl⟩;obtain⟨W1,hW1⟩:∃ W1,(w.alloc (.deferred (some []))).alloc (.loop (rec .ready none))=W1:=⟨_,rfl⟩;have hL1:W1.heap[w.heap.size+1]?=some (.loop (rec .ready none)):=by
  rw[←hW1];have:=World.alloc_heap_new (w.alloc (.deferred (some []))) (.loop (rec .ready none));rwa [World.size_alloc] at this
 have hD1:W1.heap[w.heap.size]?=some (.deferred (some [])):=by
  rw[←hW1];exact (Below.heap_alloc _ _ _ (by simp)).trans (World.alloc_heap_new w _)
 have hK1:Kp [] w W1:=by rw[←hW1];exact ((Kp.refl _ _).alloc _).alloc _
 have hs1:W1.heap.size=w.heap.size+2:=by rw[←hW1];simp
 have hI1:=hI.more hK1;refine⟨w.heap.size+1,[{ target:=.collected w.heap.size,args:=#[] }],W1,{ target:=.fn (.func 176) #[.pointer (some ⟨B,0,none⟩),.pointer (some ⟨Lc,0,none⟩),.pointer (some ⟨Hc,0,none⟩)],args:=#[.func (.yield (w.heap.size+1)) #[] #[]] },W1,176,
  #[.func (.yield (w.heap.size+1)) #[] #[],.pointer (some ⟨B,0,none⟩),.pointer (some ⟨Lc,0,none⟩),.pointer (some ⟨Hc,0,none⟩)],W1,?_,?_,?_,?_,fun h=>(by cases h),?_⟩
 ·rw[←hW1,hrec];exact run_enterLoop_outer _ _ _ _ _
 ·simp only[resolve,hg];simp[go_sem]
 ·intro f' hf';trivial
 ·simp[invoke,go_sem,qZ1]
 ·have hObs:=ζ hO;have hSts:=ζ hI.live.hSt;have hObSt:Ob≠t.St:=qB9 hO hI.live.hSt (by decide);refine (qU4 E x A n t s r B Lc Hc (w.heap.size+1) (nn-1) lo hi (ScI E t s Ob M rec w) (ScX E t s Ob M id rec w) W1 ?_ ?_ ?_ hI1 ?_).mono ?_
  ·
   intro N pre W W' S h hK hS hSt' hd';obtain⟨v,hv1,hv2,hv3⟩:=h.out;have hno:∀ k∈S,∀ c u fr,W.heap[k]?=some (.cells c u fr)→u=29∨u=42→False:=fun k hk c u fr e hu=>by
    rcases hS k hk with h1|h1|⟨_,c',fr',h1⟩
    ·rw[h1,h.hSt] at e;cases e;rcases hu with hu | hu<;>revert hu<;>decide
    ·exact E.nin h.dev e (by rcases hu with rfl | rfl<;>decide) h1
    ·rw[e] at h1;cases h1;rcases hu with hu | hu<;>revert hu<;>decide
   have hnl:∀ k∈S,∀ o,W.heap[k]?=some o→(∀ c u fr,o≠.cells c u fr)→False:=fun k hk o e ho=>by
    rcases hS k hk with h1|h1|⟨_,c',fr',h1⟩
    ·rw[h1,h.hSt] at e;cases e;exact ho _ _ _ rfl
    ·obtain⟨c',t',fr',h2,h3⟩:=E.offS W h.dev k h1;rw[e] at h2;cases h2;exact ho _ _ _ rfl
    ·rw[e] at h1;cases h1;exact ho _ _ _ rfl
   refine⟨h.kp.trans hK (fun i hi hlt=>?_),hSt',hd',⟨v,hK.heap hv1 (fun hm=>hno _ hm _ _ _ hv1 (.inl rfl)),hv2.keep hK (fun k hk c fr e=>hno k hk _ _ _ e (.inr rfl)),hv3⟩,h.le,h.lt,hK.heap h.dfr (fun hm=>hnl _ hm _ h.dfr (by intros;simp)),hK.heap h.loop (fun hm=>hnl _ hm _ h.loop (by intros;simp))⟩;rcases hS i hi with h1|h1|⟨h1,_⟩
   ·simp[h1]
   ·simp[h1]
   ·omega
  ·intro N N' pre W h hN;obtain⟨v,hv1,hv2,hv3⟩:=h.out;exact { h with out:=⟨v,hv1,hv2,fun k hk=>by have:=hv3 k hk;omega⟩,lt:=by have:=h.lt;omega }
  ·
   intro N pre p W h hNs hpre hA;obtain⟨v,hv1,hv2,hv3⟩:=h.out;have hlt:w.heap.size+1<W.heap.size:=ζ h.loop;have hy:=run_yield (P:=prog) (args:=#[.agg #[.string p.k,.string p.v],.nilIface]) h.loop (by rw[hrec];simp[hps]);rw[hrec] at hy;refine⟨fn,_,assign,body,hy,roundIn_of_wpIn hfn (hassign _ p W _ ?_)⟩;clear hy;have hKa:Kp [] W (W.alloc (.cells #[.string p.k,.string p.v] 42)):=(Kp.refl _ _).alloc _;have hLa:=hKa.hp h.loop;refine⟨_,run_beginRound hLa (by rw[hrec]),?_⟩;obtain⟨W2,hW2,hL2,hK2,hP2,hs2⟩:∃ W2,W2=(W.alloc (.cells #[.string p.k,.string p.v] 42)).putObj (w.heap.size+1) (.loop { rec .ready none with state:=.busy })∧W2.heap[w.heap.size+1]?=some (.loop { rec .ready none with state:=.busy })∧Kp [w.heap.size+1] W W2∧W2.heap[W.heap.size]?=some (.cells #[.string p.k,.string p.v] 42)∧W2.heap.size=W.heap.size+1:=
    ⟨_,rfl,World.putObj_heap_same (by simp;omega),((hKa.mono (by simp)).putObj (by simp) _),(World.putObj_heap_other (by omega)).trans (κ _ _),by simp[World.putObj]⟩
   rw[←hW2];clear hW2 hKa hLa;have hne2:∀ {k:Nat} {c:Array Value} {u:TypeId} {fr:Nat × Nat},W.heap[k]?=some (.cells c u fr)→k ∉ [w.heap.size+1]:=fun hk hm=>by
    rw[List.mem_singleton.1 hm,h.loop] at hk;cases hk
   have hO2:=hK2.heap hv1 (hne2 hv1);have hOP2:OPA W2 w.heap.size v pre:=hv2.keep hK2 (fun k hk c fr e=>by rw[List.mem_singleton.1 hk,h.loop] at e;cases e);have hkw2:Kp (t.St::Ob::E.S) w W2:=h.kp.trans hK2 (by intro i hi hlt;simp at hi;omega);have hown:∀ k,v.ownBlock=some k→k<N∧∃ cur,W.heap[k]?=some (.cells cur 42):=fun k hk=>⟨hv3 k hk,by
    rcases hv2.2 with⟨h0,_⟩|⟨gb,cap,cur,e1,e2,e3,_⟩
    ·rw[h0] at hk;cases hk
    ·rw[e1] at hk;cases hk;exact⟨cur,e3⟩⟩
   have hlen:pre.length≤50000:=by
    have h1:=List.IsPrefix.length_le hpre;have h2:=List.length_filter_le (inR lo hi) r.cont;have h3:=hI.live.sz;simp at h1;omega
   refine wpIn_mono (hbody _ pre p W2 v W.heap.size hO2 hOP2 hP2 (by omega) (fun e=>by have:=(hown _ e).1;omega) hkw2 h.le hlen) ?_;rintro e a3 W3 hp
   cases e with
   | normal=>
    obtain⟨hm,v3,S3,hK3,hS3,hO3,hOP3,hv33⟩:=hp;have hL3:W3.heap[w.heap.size+1]?=some (.loop { rec .ready none with state:=.busy }):=hK3.heap hL2 (fun hmm=>by
     rcases hS3 _ hmm with e|e
     ·rw[←e] at hv1;rw[h.loop] at hv1;cases hv1
     ·obtain⟨_,cur,e2⟩:=hown _ e;rw[h.loop] at e2;cases e2)
    have hr:=run_endRound (P:=prog) none hL3;rw[hrec] at hr;have hK13:Kp ((w.heap.size+1)::S3) W W3:=(hK2.mono (by simp +contextual)).trans hK3 (by simp +contextual);have hin3:∀ k∈S3,k∈[Ob]∨w.heap.size≤k:=fun k hk=>by
     rcases hS3 k hk with e|e
     ·exact .inl (by simp[e])
     ·exact .inr (hv2.low k e)
    have hs3:=hK3.size;have hYS:YS W N ((w.heap.size+1)::S3):=fun k hk=>by
     rcases List.mem_cons.1 hk with e|e
     ·rw[e];exact⟨h.lt,.inr ⟨_,h.loop⟩⟩
     ·rcases hS3 k e with e2|e2
      ·rw[e2];refine⟨?_,.inl ⟨_,_,_,hv1,.inl rfl⟩⟩;have:=h.lt;omega
      ·obtain⟨e3,cur,e4⟩:=hown k e2;exact⟨e3,.inl ⟨_,_,_,e4,.inr rfl⟩⟩
    have hKf:Kp ((w.heap.size+1)::S3) W (W3.putObj (w.heap.size+1) (.loop (rec .ready none))):=hK13.putObj (by simp) _;have hSt3:=hYS.keep hKf h.hSt ⟨by decide,.inl (by decide)⟩;have hneL:∀ {k:Nat} {c:Array Value} {u:TypeId} {fr:Nat × Nat},W3.heap[k]?=some (.cells c u fr)→k≠w.heap.size+1:=fun hk e=>by rw[e,hL3] at hk;cases hk
    refine⟨_,_,hr,((w.heap.size+1)::S3),hYS,?_,.inl ⟨rfl,?_⟩⟩
    ·rw[hrec] at hKf;exact hKf
    ·have hfin:ScI E t s Ob M rec w (W3.putObj (w.heap.size+1) (.loop (rec .ready none))).heap.size (pre++[p]) (W3.putObj (w.heap.size+1) (.loop (rec .ready none))):=by
      refine⟨h.kp.trans hKf (fun i hi hlt=>?_),hSt3,E.keepX _ _ _ h.dev hKf hYS.off,⟨v3,(World.putObj_heap_other (hneL hO3)).trans hO3,hOP3.keep ((Kp.refl [w.heap.size+1] W3).putObj (by simp) _) (fun k hk c fr e=>by rw[List.mem_singleton.1 hk,hL3] at e;cases e),fun k hk=>by have:=hv33 k hk;simp[World.putObj];omega⟩,by simp;omega,by simp[World.putObj];omega,?_,World.putObj_heap_same (ζ hL3)⟩
      ·rcases List.mem_cons.1 hi with e|e
       ·omega
       ·rcases hin3 i e with e2|e2
        ·simp at e2;simp[e2]
        ·omega
      ·refine (World.putObj_heap_other (by omega)).trans (hK13.heap h.dfr (fun hm=>?_));rcases List.mem_cons.1 hm with e|e
       ·omega
       ·rcases hS3 _ e with e2|e2
        ·rw[←e2] at hv1;rw[h.dfr] at hv1;cases hv1
        ·obtain⟨_,cur,e4⟩:=hown _ e2;rw[h.dfr] at e4;cases e4
     rw[hrec] at hfin ⊢;exact hfin
   | exit i=>
    obtain⟨rfl,hm,rfl⟩:=hp;have hr:=run_endRound (P:=prog) (some (.exit i)) hL2;rw[hrec] at hr;have hYS:YS W N [w.heap.size+1]:=fun k hk=>by rw[List.mem_singleton.1 hk];exact⟨h.lt,.inr ⟨_,h.loop⟩⟩
    have hKf:Kp [w.heap.size+1] W (W3.putObj (w.heap.size+1) (.loop (rec .done (some (.exit i))))):=hK2.putObj (by simp) _;refine⟨_,_,hr,[w.heap.size+1],hYS,?_,.inr ⟨rfl,?_⟩⟩
    ·rw[hrec] at hKf;exact hKf
    ·have hfin:ScX E t s Ob M i rec w (pre++[p]) (W3.putObj (w.heap.size+1) (.loop (rec .done (some (.exit i))))):=
      ⟨pre,p,v,rfl,hm,h.kp.trans hKf (by intro i hi hlt;simp at hi;omega),hYS.keep hKf h.hSt ⟨by decide,.inl (by decide)⟩,E.keepX _ _ _ h.dev hKf hYS.off,hKf.heap hv1 (hne2 hv1),hv2.keep hKf (fun k hk c fr e=>by rw[List.mem_singleton.1 hk,h.loop] at e;cases e),hKf.hp h.dfr,World.putObj_heap_same (ζ hL2)⟩
     rw[hrec] at hfin ⊢;exact hfin
   | ret=>exact hp.elim
   | goto l=>exact hp.elim
   | panic ch=>exact hp.elim
   | outgrown=>exact hp.elim
  ·exact⟨hK1.mono (by simp),hI1.live.hSt,hI1.live.dev,⟨_,hK1.hp hO,OPA.nil _ _,fun k hk=>by cases hk⟩,Nat.zero_le _,by omega,hD1,hL1⟩
  ·
   rintro e W2 ⟨⟨v,rfl⟩,⟨N,h⟩|⟨pre,hpre,q,p,v2,rfl,hM,hkp,hSt2,hd2,hO2,hOP2,hD2,hL2⟩⟩
   ·obtain⟨v2,hO2,hOP2,_⟩:=h.out;have hr:=run_endLoop (P:=prog) h.loop (by rw[hrec];simp);rw[hrec] at hr;have hKf:Kp [w.heap.size+1] W2 (W2.putObj (w.heap.size+1) (.loop { rec .ready none with state:=.exhausted })):=(Kp.refl _ _).putObj (by simp) _;have hsc:qB0 r.cont lo hi M=r.cont.filter (inR lo hi):=by
     rw[qB0];exact List.take_of_length_le (by have:=h.le;simp;omega)
    have hneL:∀ {k:Nat} {c:Array Value} {u:TypeId} {fr:Nat × Nat},W2.heap[k]?=some (.cells c u fr)→k ∉ [w.heap.size+1]:=fun hk hm=>by rw[List.mem_singleton.1 hm,h.loop] at hk;cases hk
    refine⟨none,_,hr,?_⟩;have:=hdone (W2.putObj (w.heap.size+1) (.loop { rec .ready none with state:=.exhausted })) v2 (h.kp.trans hKf (by intro i hi hlt;simp at hi;omega)) (hKf.heap h.hSt (hneL h.hSt)) (E.keepX _ _ _ h.dev hKf (fun k hk c u fr e=>by rw[List.mem_singleton.1 hk,h.loop] at e;cases e)) (hKf.heap hO2 (hneL hO2)) (by rw[hsc];exact hOP2.keep hKf (fun k hk c fr e=>by rw[List.mem_singleton.1 hk,h.loop] at e;cases e)) (hKf.hp h.dfr) (by have:=ζ h.loop;simp[World.putObj];omega);rw[hrec] at this;exact this
   ·have hr:=run_endLoop (P:=prog) hL2 (by rw[hrec];simp);rw[hrec] at hr;have hKf:Kp [w.heap.size+1] W2 (W2.putObj (w.heap.size+1) (.loop { rec .done (some (.exit id)) with state:=.exhausted })):=(Kp.refl _ _).putObj (by simp) _;have hsc:qB0 r.cont lo hi M=q:=by
     rw[qB0];obtain⟨z,hz⟩:=hpre;rw[←hz,Int.toNat_natCast,List.append_assoc,←hM,List.take_left'];rfl
    have hneL:∀ {k:Nat} {c:Array Value} {u:TypeId} {fr:Nat × Nat},W2.heap[k]?=some (.cells c u fr)→k ∉ [w.heap.size+1]:=fun hk hm=>by rw[List.mem_singleton.1 hm,hL2] at hk;cases hk
    refine⟨some (.exit id),_,hr,?_⟩;have:=hstop (W2.putObj (w.heap.size+1) (.loop { rec .done (some (.exit id)) with state:=.exhausted })) v2 (hkp.trans hKf (by intro i hi hlt;simp at hi;omega)) (hKf.heap hSt2 (hneL hSt2)) (E.keepX _ _ _ hd2 hKf (fun k hk c u fr e=>by rw[List.mem_singleton.1 hk,hL2] at e;cases e)) (hKf.heap hO2 (hneL hO2)) (by rw[hsc];exact hOP2.keep hKf (fun k hk c fr e=>by rw[List.mem_singleton.1 hk,hL2] at e;cases e)) (hKf.hp hD2) (by have:=ζ hL2;simp[World.putObj];omega);rw[hrec] at this;exact this
end Go.Proofs.YtdohpenfkdckiaaGreatDoor
namespace Go.Proofs.YtdohpenfkdckiaaGreatDoor
open Go.Proofs.Tryz
open Go.RowKit
attribute [local go_sem] Oper.semAt_some
theorem qT0(w:World)(a b:Value)(t:TypeId):∀ j u,[a,b][j]?=some u→(w.alloc (.cells #[a,b] t)).cell? ((⟨w.heap.size,0,none⟩:Addr).add j)=some u:=fun j u hj=>by
 rw[qC1,ξ (κ _ _)];simpa using hj
theorem qP0{W w5:World}{X:Obj}{row:Option Nat}{k:Nat}{o:Obj}(h:W.heap[k]?=some o)(hg:(W.alloc X).grownBy w5 row)(hn:row≠some k):w5.heap[k]?=some o:=
 (hg.block k (by have:=ζ h;simp;omega) (fun e=>hn e.symm)).trans (η _ h)
theorem OPA.keepR{S:List Nat}{w w':World}{base n sz:Nat}{v:Value}{xs:List Value}(h:w.ownsRow base 42 sz v n xs)(hK:Kp S w w')(hS:∀ k∈S,∀ c fr,w.heap[k]?≠some (.cells c 42 fr)):w'.ownsRow base 42 sz v n xs:=by
 refine⟨h.1,?_⟩;rcases h.2 with h0|⟨g,cap,cur,h1,h2,h3,h4⟩
 ·exact .inl h0
 ·exact .inr ⟨g,cap,cur,h1,h2,hK.heap h3 (fun hm=>hS g hm _ _ h3),h4⟩
theorem zR2(E:SEnv)(x A n:Nat)(t:Tx)(s:Sto)(r:Root)(lo hi:ByteArray)(most:Int)(w:World)(hL:LiveT E w x A n t s r)(hm0:-9223372036854775808≤most)(hm1:most≤9223372036854775807):
  Calls prog 71 #[.pointer (some ⟨x,0,none⟩),.string lo,.string hi,.int .i64 most] w fun e w'=>∃ v,e=.returned (.tuple #[v,.nilIface])∧OPA w' w.heap.size v (qB0 r.cont lo hi most)∧BadT E w w' t s:=by
 have HL:=zh hL;have hxs:=ζ hL.hx;have hSs:=ζ hL.hSt;clear hL;obtain⟨M,hM⟩:∃ M:Nat,M=most.toNat:=⟨_,rfl⟩;have HSC:Hid (qB0 r.cont lo hi most=qB0 r.cont lo hi M):=by show _=_;rw[qB0,qB0,hM,Int.toNat_natCast]
 obtain⟨i0,hi0,hz0,hz1,hz2⟩:=info_parts zF8;refine (callsIn_wide (n:=9)).1 ?_;refine callsIn_of_wp_marks func71 rfl trivial ?_ rfl;simp only[ntmps71,List.size_toArray,List.length_cons,List.length_nil,Nat.reduceAdd,Nat.reduceSub,Array.replicate_succ,Array.replicate_zero,List.push_toArray,List.append_toArray,List.nil_append,List.cons_append];obtain⟨w0,hw0,hM0,hR0,hE0,hO0,hK0,hs0⟩:∃ w0,w0=(((w.alloc (.cells #[.int .i64 (M:Int)] 3)).alloc (.cells #[.slice none 0 0] 29)).alloc (.cells #[.nilIface] 38)).alloc (.cells #[.slice none 0 0] 29)∧w0.heap[w.heap.size]?=some (.cells #[.int .i64 (M:Int)] 3)∧w0.heap[w.heap.size+1]?=some (.cells #[.slice none 0 0] 29)∧w0.heap[w.heap.size+1+1]?=some (.cells #[.nilIface] 38)∧w0.heap[w.heap.size+1+1+1]?=some (.cells #[.slice none 0 0] 29)∧Kp [] w w0∧w0.heap.size=w.heap.size+4:=by
  refine⟨_,rfl,η _ (η _ (η _ (κ _ _))),η _ (η _ ?_),η _ ?_,?_,((((Kp.refl _ _).alloc _).alloc _).alloc _).alloc _,by simp⟩
  ·have e:=κ (w.alloc (.cells #[.int .i64 (M:Int)] 3)) (.cells #[.slice none 0 0] 29);simpa using e
  ·have e:=κ ((w.alloc (.cells #[.int .i64 (M:Int)] 3)).alloc (.cells #[.slice none 0 0] 29)) (.cells #[.nilIface] 38);simpa using e
  ·have e:=κ (((w.alloc (.cells #[.int .i64 (M:Int)] 3)).alloc (.cells #[.slice none 0 0] 29)).alloc (.cells #[.nilIface] 38)) (.cells #[.slice none 0 0] 29);simpa using e
 have HW0:=zh hw0;have HS0:=zh hs0;clear hw0 hs0;by_cases hb:most<1
 ·have hM1:(0:Int)=(M:Int):=by omega
  have HM1:=zh hM1;clear hM1 hM
  gi_wp2_with fail
  refine⟨trivial,?_⟩;rw[HM1.out,←HW0.out];have hL0:=HL.out.more hK0;refine callsIn_wide.2 ((qM8 x lo hi w0).mono ?_);rintro e w1 ⟨rfl,hB1,hLc1,hHc1,hK1⟩;have hI1:AllIn E x A n t s r w0.heap.size (w0.heap.size+1) (w0.heap.size+2) lo hi w1:=⟨hL0.more hK1,hB1,hLc1,hHc1⟩;have hM1:=hK1.hp hM0;have hR1:=hK1.hp hR0;have hE1:=hK1.hp hE0;have hO1:=hK1.hp hO0;have HK1:Hid (Kp [] w w1):=hK0.tr hK1;have hs1:=hK1.size;clear hM0 hR0 hE0 hO0 hK0 hK1 hB1 hLc1 hHc1 hL0
  gi_wp2_with fail
  have hSo:t.St≠w.heap.size+1+1+1:=by omega
  refine qT2 E x A n t s r w0.heap.size (w0.heap.size+1) (w0.heap.size+2) (w.heap.size+1+1+1) M 0 lo hi (by decide) rfl rfl hI1 hO1 (fun p Pb=>{ tmps:=#[.pointer (some ⟨x,0,none⟩),.string lo,.string hi,.int .i64 most,undef,undef,undef,.pointer (some ⟨w.heap.size,0,none⟩),.pointer (some ⟨w.heap.size+1,0,none⟩),.pointer (some ⟨w.heap.size+1+1,0,none⟩),.pointer (some ⟨w.heap.size+1+1+1,0,none⟩),.pointer (some ⟨Pb,0,none⟩),.nilIface,.int .i64 most,.bool true,.pointer (some ⟨x,0,none⟩),.string lo,.string hi,.func (.func 176) #[] #[.pointer (some ⟨w0.heap.size,0,none⟩),.pointer (some ⟨w0.heap.size+1,0,none⟩),.pointer (some ⟨w0.heap.size+2,0,none⟩)],.agg #[.string p.k,.string p.v],.nilIface,undef,undef,undef,undef,undef,undef,undef,undef,undef,undef,undef,undef],defers:=[] }) ?assign ?body ?done ?stop
  case assign=>
   intro l p W K hK
   gi_wp2
   exact hK
  case body=>
   intro l pre p W v Pb hO hOP hP hPb hown hkp hle hlen;have hMW:=hkp.heap hM1 (by
    simp only[List.mem_cons,not_or];exact⟨by omega,by omega,fun h=>by have:=E.low w HL.out.dev _ h;omega⟩)
   have hObs:=ζ hO;have hPs:=ζ hP;have hMs:=ζ hMW;have o0:=ξ hO 0;simp only[zG,zH,zI] at o0;have fo0:=τ hO 0;have p0:=ξ hP;have m0:=ξ hMW 0;simp only[zG,zH,zI] at m0;obtain⟨ob,oc,rfl⟩:=hOP.form;by_cases hq:pre.length=M
   ·have hqb:(pre.length:Int)=(M:Int):=by omega
    clear hM1 hR1 hE1 hO1 hI1 hO hP hMW
    gi_wp2
    all_goals exact⟨rfl,hq,rfl⟩
   ·have hqb:¬(pre.length:Int)=(M:Int):=by omega
    have HOO:Hid (W.heap[w.heap.size+1+1+1]?=some (.cells #[.slice ob pre.length oc] 29)∧OPA W w1.heap.size (.slice ob pre.length oc) pre∧Kp (t.St::(w.heap.size+1+1+1)::E.S) w1 W):=⟨hO,hOP,hkp⟩;have hsz:=hkp.size;have HNO:Hid ((Value.slice ob pre.length oc).ownBlock≠some (w.heap.size+1+1+1)):=fun e=>by
     rcases hOP.2 with⟨h0,_⟩|⟨gb,cap,cur,e1,e2,e3,_⟩
     ·rw[h0] at e;cases e
     ·rw[e1] at e;cases e;rw[hO] at e3;cases e3
    clear hM1 hR1 hE1 hO1 hI1 hO hP hMW hOP hkp
    gi_wp2_with (gi_at_builtin;refine wpListIn_append_own _ rfl _ _ 29 rfl w1.heap.size 42 i0 (.agg #[.string ⟨#[]⟩,.string ⟨#[]⟩]) 2 32 underlying29 hi0 hz0 hz1 hz2 rfl (by decide) _ _ _ rfl (World.ownsRow.alloc HOO.out.2.1 _) ⟨W.heap.size,0,none⟩ 1 1 [.string p.k,.string p.v] rfl rfl (qT0 _ _ _ _) (by simp[Value.oneCell']) (by unfold maxLen;omega) (by omega) (by simp;omega) ?_;intro v5 w5 hO5 hg5 _;obtain⟨g5,c5,rfl⟩:=qD3 hO5;have hOb5:=qP0 HOO.out.1 hg5 HNO.out;have o5:=ξ hOb5 0;have fo5:=τ hOb5 0;simp only[zG,zH] at o5)
    have hpl:pre.length<M:=by omega
    have hs5:=hg5.size;refine⟨hpl,.slice (some ⟨g5,0,none⟩) (pre.length+1) c5,[w.heap.size+1+1+1]++(Value.slice ob pre.length oc).ownBlock.toList,?_,?_,θ hOb5 0 _,?_,?_⟩
    ·refine ((((Kp.refl _ W).alloc _).grown hg5 (fun k hk=>.inl (List.mem_append.2 (.inr (by have hk2:(Value.slice ob pre.length oc).ownBlock=some k:=hk;rw[hk2];simp))))).sc _)
    ·intro k hk;rcases List.mem_append.1 hk with h|h
     ·exact .inl (List.mem_singleton.1 h)
     ·exact .inr (by simpa using h)
    ·have e:qA9 (pre++[p])=qA9 pre++[.string p.k,.string p.v]:=qS0 pre p;unfold OPA;rw[e,List.length_append];refine OPA.keepR hO5 ((Kp.refl [w.heap.size+1+1+1] w5).sc _) (fun k hk c fr e=>?_);rw[List.mem_singleton.1 hk,hOb5] at e;cases e
    ·intro k hk;have:=(World.ownsRow.lt hO5 k hk).2;simp[World.setCell];omega
  case done=>
   intro W v hkp hSt hd hO hOP hD hlt;have hlow:∀ k,w.heap.size≤k→k≠w.heap.size+1+1+1→k ∉ t.St::(w.heap.size+1+1+1)::E.S:=fun k hk hne hm=>by
    simp only[List.mem_cons] at hm;rcases hm with h|h|h
    ·omega
    ·omega
    ·have:=E.low w HL.out.dev _ h;omega
   have hRW:=hkp.heap hR1 (hlow _ (by omega) (by omega));have hEW:=hkp.heap hE1 (hlow _ (by omega) (by omega));have hObs:=ζ hO;have hRs:=ζ hRW;have hEs:=ζ hEW;obtain⟨ob,oc,hform⟩:=hOP.form;subst hform;have o0:=ξ hO 0;simp only[zG,zH,zI] at o0;have r0:=ξ hRW 0;simp only[zG,zH,zI] at r0;have fr0:=τ hRW 0;have e0:=ξ hEW 0;simp only[zG,zH,zI] at e0;have fe0:=τ hEW 0;obtain⟨sl,hsl⟩:∃ sl,sl=(qB0 r.cont lo hi M).length:=⟨_,rfl⟩;rw[←hsl] at o0;have HOP:Hid (OPA W w1.heap.size (.slice ob sl oc) (qB0 r.cont lo hi M)):=by rw[hsl];exact hOP
   have HW:Hid (W.heap[t.St]?=some (ν 0 s)∧E.Dev W∧Kp (t.St::(w.heap.size+1+1+1)::E.S) w1 W∧W.heap[w.heap.size+1]?=some (.cells #[.slice none 0 0] 29)∧W.heap[w.heap.size+1+1]?=some (.cells #[.nilIface] 38)∧W.heap[w1.heap.size]?=some (.deferred (some []))):=⟨hSt,hd,hkp,hRW,hEW,hD⟩;clear hM1 hR1 hE1 hO1 hI1 hSt hd hkp hRW hEW hD hO hOP hsl hlow
   gi_wp2
   obtain⟨hSt,hd,hkp,hRW,hEW,hD⟩:=HW.out;have hs0:=HS0.out;have hKw1:Kp (t.St::(w.heap.size+1+1+1)::E.S) w W:=(HK1.out.mono (by simp)).trans hkp (fun _ h _=>h);have hsw:=hKw1.size;have hEl:∀ k∈E.S,k<w.heap.size:=E.low w HL.out.dev;obtain⟨w4,hw4,hR4,hE4,hD4,hK4⟩:∃ w4,w4=(W.setCell ⟨w.heap.size+1,0,none⟩ (.slice ob sl oc)).setCell ⟨w.heap.size+1+1,0,none⟩ .nilIface∧w4.heap[w.heap.size+1]?=some (.cells #[.slice ob sl oc] 29)∧w4.heap[w.heap.size+1+1]?=some (.cells #[.nilIface] 38)∧w4.heap[w1.heap.size]?=some (.deferred (some []))∧Kp [w.heap.size+1,w.heap.size+1+1] W w4:=
    ⟨_,rfl,(ρ (by omega) _ _).trans (θ hRW 0 _),θ ((ρ (by omega) _ _).trans hEW) 0 _,(ρ (by omega) _ _).trans ((ρ (by omega) _ _).trans hD),((Kp.refl _ _).sc _).sc _⟩
   rw[←hw4];clear hw4;refine⟨by simp,.inl ⟨_,_,rfl,run_takeDeferred hD4,?_⟩⟩;obtain⟨w5,hw5,hR5,hE5,hK5⟩:∃ w5,w5=w4.putObj w1.heap.size (.deferred none)∧w5.heap[w.heap.size+1]?=some (.cells #[.slice ob sl oc] 29)∧w5.heap[w.heap.size+1+1]?=some (.cells #[.nilIface] 38)∧Kp [w.heap.size+1,w.heap.size+1+1,w1.heap.size] W w5:=
    ⟨_,rfl,(World.putObj_heap_other (by omega)).trans hR4,(World.putObj_heap_other (by omega)).trans hE4,(hK4.mono (by simp +contextual)).putObj (by simp) _⟩
   rw[←hw5];clear hw5;have r0:=ξ hR5 0;have e0:=ξ hE5 0;simp only[zG,zH] at r0 e0;have hoff:OffD W [w.heap.size+1,w.heap.size+1+1,w1.heap.size]:=(OffD.one hRW (by decide)).cons ((OffD.one hEW (by decide)).cons (fun k hk c t fr e=>by rw[List.mem_singleton.1 hk,hD] at e;cases e));have hop5:OPA w5 w1.heap.size (.slice ob sl oc) (qB0 r.cont lo hi M):=HOP.out.keep hK5 (fun k hk c fr e=>by
    simp only[List.mem_cons,List.not_mem_nil,or_false] at hk;rcases hk with h|h|h
    ·rw[h,hRW] at e;cases e
    ·rw[h,hEW] at e;cases e
    ·rw[h,hD] at e;cases e)
   refine⟨.tuple #[.slice ob sl oc,.nilIface],?_,.slice ob sl oc,rfl,?_,E.keepX _ _ _ hd hK5 hoff,hK5.heap hSt ?_,hKw1.trans hK5 ?_ |>.mono ?_⟩
   ·simp[results,results71,go_sem,r0,e0]
   ·rw[HSC.out];exact qD9 hop5 (by omega)
   ·simp only[List.mem_cons,List.not_mem_nil,or_false,not_or];exact⟨by omega,by omega,by omega⟩
   ·intro i hi hlt;simp at hi;omega
   ·intro i hi hlt;simp only[List.mem_cons] at hi ⊢;rcases hi with h|h|h
    ·exact .inl h
    ·omega
    ·exact .inr h
  case stop=>
   intro W v hkp hSt hd hO hOP hD hlt;have hlow:∀ k,w.heap.size≤k→k≠w.heap.size+1+1+1→k ∉ t.St::(w.heap.size+1+1+1)::E.S:=fun k hk hne hm=>by
    simp only[List.mem_cons] at hm;rcases hm with h|h|h
    ·omega
    ·omega
    ·have:=E.low w HL.out.dev _ h;omega
   have hRW:=hkp.heap hR1 (hlow _ (by omega) (by omega));have hEW:=hkp.heap hE1 (hlow _ (by omega) (by omega));have hObs:=ζ hO;have hRs:=ζ hRW;have hEs:=ζ hEW;obtain⟨ob,oc,hform⟩:=hOP.form;subst hform;have o0:=ξ hO 0;simp only[zG,zH,zI] at o0;have r0:=ξ hRW 0;simp only[zG,zH,zI] at r0;have fr0:=τ hRW 0;have e0:=ξ hEW 0;simp only[zG,zH,zI] at e0;have fe0:=τ hEW 0;obtain⟨sl,hsl⟩:∃ sl,sl=(qB0 r.cont lo hi M).length:=⟨_,rfl⟩;rw[←hsl] at o0;have HOP:Hid (OPA W w1.heap.size (.slice ob sl oc) (qB0 r.cont lo hi M)):=by rw[hsl];exact hOP
   have HW:Hid (W.heap[t.St]?=some (ν 0 s)∧E.Dev W∧Kp (t.St::(w.heap.size+1+1+1)::E.S) w1 W∧W.heap[w.heap.size+1]?=some (.cells #[.slice none 0 0] 29)∧W.heap[w.heap.size+1+1]?=some (.cells #[.nilIface] 38)∧W.heap[w1.heap.size]?=some (.deferred (some []))):=⟨hSt,hd,hkp,hRW,hEW,hD⟩;clear hM1 hR1 hE1 hO1 hI1 hSt hd hkp hRW hEW hD hO hOP hsl hlow
   gi_wp2
   obtain⟨hSt,hd,hkp,hRW,hEW,hD⟩:=HW.out;have hs0:=HS0.out;have hKw1:Kp (t.St::(w.heap.size+1+1+1)::E.S) w W:=(HK1.out.mono (by simp)).trans hkp (fun _ h _=>h);have hsw:=hKw1.size;have hEl:∀ k∈E.S,k<w.heap.size:=E.low w HL.out.dev;obtain⟨w4,hw4,hR4,hE4,hD4,hK4⟩:∃ w4,w4=(W.setCell ⟨w.heap.size+1,0,none⟩ (.slice ob sl oc)).setCell ⟨w.heap.size+1+1,0,none⟩ .nilIface∧w4.heap[w.heap.size+1]?=some (.cells #[.slice ob sl oc] 29)∧w4.heap[w.heap.size+1+1]?=some (.cells #[.nilIface] 38)∧w4.heap[w1.heap.size]?=some (.deferred (some []))∧Kp [w.heap.size+1,w.heap.size+1+1] W w4:=
    ⟨_,rfl,(ρ (by omega) _ _).trans (θ hRW 0 _),θ ((ρ (by omega) _ _).trans hEW) 0 _,(ρ (by omega) _ _).trans ((ρ (by omega) _ _).trans hD),((Kp.refl _ _).sc _).sc _⟩
   rw[←hw4];clear hw4;refine⟨by simp,.inl ⟨_,_,rfl,run_takeDeferred hD4,?_⟩⟩;obtain⟨w5,hw5,hR5,hE5,hK5⟩:∃ w5,w5=w4.putObj w1.heap.size (.deferred none)∧w5.heap[w.heap.size+1]?=some (.cells #[.slice ob sl oc] 29)∧w5.heap[w.heap.size+1+1]?=some (.cells #[.nilIface] 38)∧Kp [w.heap.size+1,w.heap.size+1+1,w1.heap.size] W w5:=
    ⟨_,rfl,(World.putObj_heap_other (by omega)).trans hR4,(World.putObj_heap_other (by omega)).trans hE4,(hK4.mono (by simp +contextual)).putObj (by simp) _⟩
   rw[←hw5];clear hw5;have r0:=ξ hR5 0;have e0:=ξ hE5 0;simp only[zG,zH] at r0 e0;have hoff:OffD W [w.heap.size+1,w.heap.size+1+1,w1.heap.size]:=(OffD.one hRW (by decide)).cons ((OffD.one hEW (by decide)).cons (fun k hk c t fr e=>by rw[List.mem_singleton.1 hk,hD] at e;cases e));have hop5:OPA w5 w1.heap.size (.slice ob sl oc) (qB0 r.cont lo hi M):=HOP.out.keep hK5 (fun k hk c fr e=>by
    simp only[List.mem_cons,List.not_mem_nil,or_false] at hk;rcases hk with h|h|h
    ·rw[h,hRW] at e;cases e
    ·rw[h,hEW] at e;cases e
    ·rw[h,hD] at e;cases e)
   refine⟨.tuple #[.slice ob sl oc,.nilIface],?_,.slice ob sl oc,rfl,?_,E.keepX _ _ _ hd hK5 hoff,hK5.heap hSt ?_,hKw1.trans hK5 ?_ |>.mono ?_⟩
   ·simp[results,results71,go_sem,r0,e0]
   ·rw[HSC.out];exact qD9 hop5 (by omega)
   ·simp only[List.mem_cons,List.not_mem_nil,or_false,not_or];exact⟨by omega,by omega,by omega⟩
   ·intro i hi hlt;simp at hi;omega
   ·intro i hi hlt;simp only[List.mem_cons] at hi ⊢;rcases hi with h|h|h
    ·exact .inl h
    ·omega
    ·exact .inr h
 ·have hM1:most=(M:Int):=by omega
  have HM1:=zh hM1;clear hM1 hM
  gi_wp2_with fail
  refine⟨trivial,?_⟩;have e0:(((w.alloc (.cells #[.int .i64 most] 3)).alloc (.cells #[.slice none 0 0] 29)).alloc (.cells #[.nilIface] 38)).alloc (.cells #[.slice none 0 0] 29)=w0:=by rw[HW0.out,←HM1.out]
  rw[e0];clear e0;have hL0:=HL.out.more hK0;refine callsIn_wide.2 ((qM8 x lo hi w0).mono ?_);rintro e w1 ⟨rfl,hB1,hLc1,hHc1,hK1⟩;have hI1:AllIn E x A n t s r w0.heap.size (w0.heap.size+1) (w0.heap.size+2) lo hi w1:=⟨hL0.more hK1,hB1,hLc1,hHc1⟩;have hM1:=hK1.hp hM0;have hR1:=hK1.hp hR0;have hE1:=hK1.hp hE0;have hO1:=hK1.hp hO0;have HK1:Hid (Kp [] w w1):=hK0.tr hK1;have hs1:=hK1.size;clear hM0 hR0 hE0 hO0 hK0 hK1 hB1 hLc1 hHc1 hL0
  gi_wp2_with fail
  have hSo:t.St≠w.heap.size+1+1+1:=by omega
  refine qT2 E x A n t s r w0.heap.size (w0.heap.size+1) (w0.heap.size+2) (w.heap.size+1+1+1) M 0 lo hi (by decide) rfl rfl hI1 hO1 (fun p Pb=>{ tmps:=#[.pointer (some ⟨x,0,none⟩),.string lo,.string hi,.int .i64 most,undef,undef,undef,.pointer (some ⟨w.heap.size,0,none⟩),.pointer (some ⟨w.heap.size+1,0,none⟩),.pointer (some ⟨w.heap.size+1+1,0,none⟩),.pointer (some ⟨w.heap.size+1+1+1,0,none⟩),.pointer (some ⟨Pb,0,none⟩),.nilIface,.int .i64 most,.bool false,.pointer (some ⟨x,0,none⟩),.string lo,.string hi,.func (.func 176) #[] #[.pointer (some ⟨w0.heap.size,0,none⟩),.pointer (some ⟨w0.heap.size+1,0,none⟩),.pointer (some ⟨w0.heap.size+2,0,none⟩)],.agg #[.string p.k,.string p.v],.nilIface,undef,undef,undef,undef,undef,undef,undef,undef,undef,undef,undef,undef],defers:=[] }) ?assign ?body ?done ?stop
  case assign=>
   intro l p W K hK
   gi_wp2
   exact hK
  case body=>
   intro l pre p W v Pb hO hOP hP hPb hown hkp hle hlen;have hMW:=hkp.heap hM1 (by
    simp only[List.mem_cons,not_or];exact⟨by omega,by omega,fun h=>by have:=E.low w HL.out.dev _ h;omega⟩)
   have hObs:=ζ hO;have hPs:=ζ hP;have hMs:=ζ hMW;have o0:=ξ hO 0;simp only[zG,zH,zI] at o0;have fo0:=τ hO 0;have p0:=ξ hP;have m0:=ξ hMW 0;simp only[zG,zH,zI] at m0;obtain⟨ob,oc,rfl⟩:=hOP.form;by_cases hq:pre.length=M
   ·have hqb:(pre.length:Int)=(M:Int):=by omega
    clear hM1 hR1 hE1 hO1 hI1 hO hP hMW
    gi_wp2
    all_goals exact⟨rfl,hq,rfl⟩
   ·have hqb:¬(pre.length:Int)=(M:Int):=by omega
    have HOO:Hid (W.heap[w.heap.size+1+1+1]?=some (.cells #[.slice ob pre.length oc] 29)∧OPA W w1.heap.size (.slice ob pre.length oc) pre∧Kp (t.St::(w.heap.size+1+1+1)::E.S) w1 W):=⟨hO,hOP,hkp⟩;have hsz:=hkp.size;have HNO:Hid ((Value.slice ob pre.length oc).ownBlock≠some (w.heap.size+1+1+1)):=fun e=>by
     rcases hOP.2 with⟨h0,_⟩|⟨gb,cap,cur,e1,e2,e3,_⟩
     ·rw[h0] at e;cases e
     ·rw[e1] at e;cases e;rw[hO] at e3;cases e3
    clear hM1 hR1 hE1 hO1 hI1 hO hP hMW hOP hkp
    gi_wp2_with (gi_at_builtin;refine wpListIn_append_own _ rfl _ _ 29 rfl w1.heap.size 42 i0 (.agg #[.string ⟨#[]⟩,.string ⟨#[]⟩]) 2 32 underlying29 hi0 hz0 hz1 hz2 rfl (by decide) _ _ _ rfl (World.ownsRow.alloc HOO.out.2.1 _) ⟨W.heap.size,0,none⟩ 1 1 [.string p.k,.string p.v] rfl rfl (qT0 _ _ _ _) (by simp[Value.oneCell']) (by unfold maxLen;omega) (by omega) (by simp;omega) ?_;intro v5 w5 hO5 hg5 _;obtain⟨g5,c5,rfl⟩:=qD3 hO5;have hOb5:=qP0 HOO.out.1 hg5 HNO.out;have o5:=ξ hOb5 0;have fo5:=τ hOb5 0;simp only[zG,zH] at o5)
    have hpl:pre.length<M:=by omega
    have hs5:=hg5.size;refine⟨hpl,.slice (some ⟨g5,0,none⟩) (pre.length+1) c5,[w.heap.size+1+1+1]++(Value.slice ob pre.length oc).ownBlock.toList,?_,?_,θ hOb5 0 _,?_,?_⟩
    ·refine ((((Kp.refl _ W).alloc _).grown hg5 (fun k hk=>.inl (List.mem_append.2 (.inr (by have hk2:(Value.slice ob pre.length oc).ownBlock=some k:=hk;rw[hk2];simp))))).sc _)
    ·intro k hk;rcases List.mem_append.1 hk with h|h
     ·exact .inl (List.mem_singleton.1 h)
     ·exact .inr (by simpa using h)
    ·have e:qA9 (pre++[p])=qA9 pre++[.string p.k,.string p.v]:=qS0 pre p;unfold OPA;rw[e,List.length_append];refine OPA.keepR hO5 ((Kp.refl [w.heap.size+1+1+1] w5).sc _) (fun k hk c fr e=>?_);rw[List.mem_singleton.1 hk,hOb5] at e;cases e
    ·intro k hk;have:=(World.ownsRow.lt hO5 k hk).2;simp[World.setCell];omega
  case done=>
   intro W v hkp hSt hd hO hOP hD hlt;have hlow:∀ k,w.heap.size≤k→k≠w.heap.size+1+1+1→k ∉ t.St::(w.heap.size+1+1+1)::E.S:=fun k hk hne hm=>by
    simp only[List.mem_cons] at hm;rcases hm with h|h|h
    ·omega
    ·omega
    ·have:=E.low w HL.out.dev _ h;omega
   have hRW:=hkp.heap hR1 (hlow _ (by omega) (by omega));have hEW:=hkp.heap hE1 (hlow _ (by omega) (by omega));have hObs:=ζ hO;have hRs:=ζ hRW;have hEs:=ζ hEW;obtain⟨ob,oc,hform⟩:=hOP.form;subst hform;have o0:=ξ hO 0;simp only[zG,zH,zI] at o0;have r0:=ξ hRW 0;simp only[zG,zH,zI] at r0;have fr0:=τ hRW 0;have e0:=ξ hEW 0;simp only[zG,zH,zI] at e0;have fe0:=τ hEW 0;obtain⟨sl,hsl⟩:∃ sl,sl=(qB0 r.cont lo hi M).length:=⟨_,rfl⟩;rw[←hsl] at o0;have HOP:Hid (OPA W w1.heap.size (.slice ob sl oc) (qB0 r.cont lo hi M)):=by rw[hsl];exact hOP
   have HW:Hid (W.heap[t.St]?=some (ν 0 s)∧E.Dev W∧Kp (t.St::(w.heap.size+1+1+1)::E.S) w1 W∧W.heap[w.heap.size+1]?=some (.cells #[.slice none 0 0] 29)∧W.heap[w.heap.size+1+1]?=some (.cells #[.nilIface] 38)∧W.heap[w1.heap.size]?=some (.deferred (some []))):=⟨hSt,hd,hkp,hRW,hEW,hD⟩;clear hM1 hR1 hE1 hO1 hI1 hSt hd hkp hRW hEW hD hO hOP hsl hlow
   gi_wp2
   obtain⟨hSt,hd,hkp,hRW,hEW,hD⟩:=HW.out;have hs0:=HS0.out;have hKw1:Kp (t.St::(w.heap.size+1+1+1)::E.S) w W:=(HK1.out.mono (by simp)).trans hkp (fun _ h _=>h);have hsw:=hKw1.size;have hEl:∀ k∈E.S,k<w.heap.size:=E.low w HL.out.dev;obtain⟨w4,hw4,hR4,hE4,hD4,hK4⟩:∃ w4,w4=(W.setCell ⟨w.heap.size+1,0,none⟩ (.slice ob sl oc)).setCell ⟨w.heap.size+1+1,0,none⟩ .nilIface∧w4.heap[w.heap.size+1]?=some (.cells #[.slice ob sl oc] 29)∧w4.heap[w.heap.size+1+1]?=some (.cells #[.nilIface] 38)∧w4.heap[w1.heap.size]?=some (.deferred (some []))∧Kp [w.heap.size+1,w.heap.size+1+1] W w4:=
    ⟨_,rfl,(ρ (by omega) _ _).trans (θ hRW 0 _),θ ((ρ (by omega) _ _).trans hEW) 0 _,(ρ (by omega) _ _).trans ((ρ (by omega) _ _).trans hD),((Kp.refl _ _).sc _).sc _⟩
   rw[←hw4];clear hw4;refine⟨by simp,.inl ⟨_,_,rfl,run_takeDeferred hD4,?_⟩⟩;obtain⟨w5,hw5,hR5,hE5,hK5⟩:∃ w5,w5=w4.putObj w1.heap.size (.deferred none)∧w5.heap[w.heap.size+1]?=some (.cells #[.slice ob sl oc] 29)∧w5.heap[w.heap.size+1+1]?=some (.cells #[.nilIface] 38)∧Kp [w.heap.size+1,w.heap.size+1+1,w1.heap.size] W w5:=
    ⟨_,rfl,(World.putObj_heap_other (by omega)).trans hR4,(World.putObj_heap_other (by omega)).trans hE4,(hK4.mono (by simp +contextual)).putObj (by simp) _⟩
   rw[←hw5];clear hw5;have r0:=ξ hR5 0;have e0:=ξ hE5 0;simp only[zG,zH] at r0 e0;have hoff:OffD W [w.heap.size+1,w.heap.size+1+1,w1.heap.size]:=(OffD.one hRW (by decide)).cons ((OffD.one hEW (by decide)).cons (fun k hk c t fr e=>by rw[List.mem_singleton.1 hk,hD] at e;cases e));have hop5:OPA w5 w1.heap.size (.slice ob sl oc) (qB0 r.cont lo hi M):=HOP.out.keep hK5 (fun k hk c fr e=>by
    simp only[List.mem_cons,List.not_mem_nil,or_false] at hk;rcases hk with h|h|h
    ·rw[h,hRW] at e;cases e
    ·rw[h,hEW] at e;cases e
    ·rw[h,hD] at e;cases e)
   refine⟨.tuple #[.slice ob sl oc,.nilIface],?_,.slice ob sl oc,rfl,?_,E.keepX _ _ _ hd hK5 hoff,hK5.heap hSt ?_,hKw1.trans hK5 ?_ |>.mono ?_⟩
   ·simp[results,results71,go_sem,r0,e0]
   ·rw[HSC.out];exact qD9 hop5 (by omega)
   ·simp only[List.mem_cons,List.not_mem_nil,or_false,not_or];exact⟨by omega,by omega,by omega⟩
   ·intro i hi hlt;simp at hi;omega
   ·intro i hi hlt;simp only[List.mem_cons] at hi ⊢;rcases hi with h|h|h
    ·exact .inl h
    ·omega
    ·exact .inr h
  case stop=>
   intro W v hkp hSt hd hO hOP hD hlt;have hlow:∀ k,w.heap.size≤k→k≠w.heap.size+1+1+1→k ∉ t.St::(w.heap.size+1+1+1)::E.S:=fun k hk hne hm=>by
    simp only[List.mem_cons] at hm;rcases hm with h|h|h
    ·omega
    ·omega
    ·have:=E.low w HL.out.dev _ h;omega
   have hRW:=hkp.heap hR1 (hlow _ (by omega) (by omega));have hEW:=hkp.heap hE1 (hlow _ (by omega) (by omega));have hObs:=ζ hO;have hRs:=ζ hRW;have hEs:=ζ hEW;obtain⟨ob,oc,hform⟩:=hOP.form;subst hform;have o0:=ξ hO 0;simp only[zG,zH,zI] at o0;have r0:=ξ hRW 0;simp only[zG,zH,zI] at r0;have fr0:=τ hRW 0;have e0:=ξ hEW 0;simp only[zG,zH,zI] at e0;have fe0:=τ hEW 0;obtain⟨sl,hsl⟩:∃ sl,sl=(qB0 r.cont lo hi M).length:=⟨_,rfl⟩;rw[←hsl] at o0;have HOP:Hid (OPA W w1.heap.size (.slice ob sl oc) (qB0 r.cont lo hi M)):=by rw[hsl];exact hOP
   have HW:Hid (W.heap[t.St]?=some (ν 0 s)∧E.Dev W∧Kp (t.St::(w.heap.size+1+1+1)::E.S) w1 W∧W.heap[w.heap.size+1]?=some (.cells #[.slice none 0 0] 29)∧W.heap[w.heap.size+1+1]?=some (.cells #[.nilIface] 38)∧W.heap[w1.heap.size]?=some (.deferred (some []))):=⟨hSt,hd,hkp,hRW,hEW,hD⟩;clear hM1 hR1 hE1 hO1 hI1 hSt hd hkp hRW hEW hD hO hOP hsl hlow
   gi_wp2
   obtain⟨hSt,hd,hkp,hRW,hEW,hD⟩:=HW.out;have hs0:=HS0.out;have hKw1:Kp (t.St::(w.heap.size+1+1+1)::E.S) w W:=(HK1.out.mono (by simp)).trans hkp (fun _ h _=>h);have hsw:=hKw1.size;have hEl:∀ k∈E.S,k<w.heap.size:=E.low w HL.out.dev;obtain⟨w4,hw4,hR4,hE4,hD4,hK4⟩:∃ w4,w4=(W.setCell ⟨w.heap.size+1,0,none⟩ (.slice ob sl oc)).setCell ⟨w.heap.size+1+1,0,none⟩ .nilIface∧w4.heap[w.heap.size+1]?=some (.cells #[.slice ob sl oc] 29)∧w4.heap[w.heap.size+1+1]?=some (.cells #[.nilIface] 38)∧w4.heap[w1.heap.size]?=some (.deferred (some []))∧Kp [w.heap.size+1,w.heap.size+1+1] W w4:=
    ⟨_,rfl,(ρ (by omega) _ _).trans (θ hRW 0 _),θ ((ρ (by omega) _ _).trans hEW) 0 _,(ρ (by omega) _ _).trans ((ρ (by omega) _ _).trans hD),((Kp.refl _ _).sc _).sc _⟩
   rw[←hw4];clear hw4;refine⟨by simp,.inl ⟨_,_,rfl,run_takeDeferred hD4,?_⟩⟩;obtain⟨w5,hw5,hR5,hE5,hK5⟩:∃ w5,w5=w4.putObj w1.heap.size (.deferred none)∧w5.heap[w.heap.size+1]?=some (.cells #[.slice ob sl oc] 29)∧w5.heap[w.heap.size+1+1]?=some (.cells #[.nilIface] 38)∧Kp [w.heap.size+1,w.heap.size+1+1,w1.heap.size] W w5:=
    ⟨_,rfl,(World.putObj_heap_other (by omega)).trans hR4,(World.putObj_heap_other (by omega)).trans hE4,(hK4.mono (by simp +contextual)).putObj (by simp) _⟩
   rw[←hw5];clear hw5;have r0:=ξ hR5 0;have e0:=ξ hE5 0;simp only[zG,zH] at r0 e0;have hoff:OffD W [w.heap.size+1,w.heap.size+1+1,w1.heap.size]:=(OffD.one hRW (by decide)).cons ((OffD.one hEW (by decide)).cons (fun k hk c t fr e=>by rw[List.mem_singleton.1 hk,hD] at e;cases e));have hop5:OPA w5 w1.heap.size (.slice ob sl oc) (qB0 r.cont lo hi M):=HOP.out.keep hK5 (fun k hk c fr e=>by
    simp only[List.mem_cons,List.not_mem_nil,or_false] at hk;rcases hk with h|h|h
    ·rw[h,hRW] at e;cases e
    ·rw[h,hEW] at e;cases e
    ·rw[h,hD] at e;cases e)
   refine⟨.tuple #[.slice ob sl oc,.nilIface],?_,.slice ob sl oc,rfl,?_,E.keepX _ _ _ hd hK5 hoff,hK5.heap hSt ?_,hKw1.trans hK5 ?_ |>.mono ?_⟩
   ·simp[results,results71,go_sem,r0,e0]
   ·rw[HSC.out];exact qD9 hop5 (by omega)
   ·simp only[List.mem_cons,List.not_mem_nil,or_false,not_or];exact⟨by omega,by omega,by omega⟩
   ·intro i hi hlt;simp at hi;omega
   ·intro i hi hlt;simp only[List.mem_cons] at hi ⊢;rcases hi with h|h|h
    ·exact .inl h
    ·omega
    ·exact .inr h
end Go.Proofs.YtdohpenfkdckiaaGreatDoor
namespace Go.Proofs.YtdohpenfkdckiaaGreatDoor
open Go.Proofs.Tryz
open Go.RowKit
theorem qE9(k:Int)(w:World):Calls prog 127 #[.int .i64 k] w fun e w'=>e=.returned (.int .i64 k)∧w'=w:=by
 go_enter func127,ntmps127;go_wp2;go_ret;exact⟨rfl,rfl⟩
theorem qI0(c:Int)(n:Nat)(w:World)(h0:-9223372036854775808≤c)(h1:c≤9223372036854775807)(hn:1≤n)(hn1:n≤1000000):
  Calls prog 79 #[.int .i64 c,.int .i64 n] w fun e w'=>∃ j:Nat,e=.returned (.int .i64 j)∧j<n∧w'=w:=by
 have hne:¬((n:Int)=0):=by omega
 by_cases hc:c<0
 ·go_enter func79,ntmps79;go_wp2;go_ret;have e1:-((c+1).tmod (n:Int))=(-(c+1)) % (n:Int):=by rw[←Int.neg_tmod,Int.tmod_eq_emod_of_nonneg (by omega)]
  have e2:=Int.emod_nonneg (-(c+1)) hne;have e3:=Int.emod_lt_of_pos (-(c+1)) (show (0:Int)<n by omega);refine⟨((-(c+1)) % (n:Int)).toNat,?_,by omega,rfl⟩;rw[Int.toNat_of_nonneg e2,←e1];rfl
 ·go_enter func79,ntmps79;go_wp2;go_ret;have e2:=Int.emod_nonneg c hne;have e3:=Int.emod_lt_of_pos c (show (0:Int)<n by omega);refine⟨(c % (n:Int)).toNat,?_,by omega,rfl⟩;rw[Int.toNat_of_nonneg e2];rfl
theorem qY2(c:Int)(w:World)(h:c<0):Calls prog 122 #[.int .i64 c] w fun e w'=>e=.returned (.int .i64 0)∧w'=w:=by
 go_enter func122,ntmps122;go_wp2;go_ret;exact⟨rfl,rfl⟩
theorem qY1(c:Int)(w:World)(h:¬c<0):Calls prog 122 #[.int .i64 c] w fun e w'=>e=.returned (.int .i64 (c % 1000))∧w'=w:=by
 go_enter func122,ntmps122;go_wp2;go_ret;exact⟨rfl,rfl⟩
theorem zR0(w:World):Calls prog 201 #[.slice none 0 0,.slice none 0 0] w fun e w'=>e=.returned (.bool true)∧w'=w:=by
 go_enter func201,ntmps201;go_wp2_with fail;refine wp_loop_rounds 1 ?_;rw[rounds_succ];go_wp2;go_ret;exact⟨rfl,rfl⟩
def RowOk(w:World)(base:Nat)(v:Value)(n:Nat):Prop:=w.ownsRow base 126 1 v n (List.replicate n (.slice none 0 0))
theorem RowOk.kp{S:List Nat}{w w':World}{base:Nat}{v:Value}{n:Nat}(h:RowOk w base v n)(hK:Kp S w w')(hS:∀ k c t fr,w.heap[k]?=some (.cells c t fr)→k∈S→t≠126):RowOk w' base v n:=by
 refine⟨h.1,?_⟩;rcases h.2 with h0|⟨g,cap,cur,h1,h2,h3,h4⟩
 ·exact .inl h0
 ·exact .inr ⟨g,cap,cur,h1,h2,hK.heap h3 (fun hm=>hS g _ _ _ h3 hm rfl),h4⟩
theorem RowOk.le{w:World}{base base':Nat}{v:Value}{n:Nat}(h:RowOk w base v n)(hb:base'≤base):RowOk w base' v n:=qD9 h hb
theorem RowOk.form{w:World}{base:Nat}{v:Value}{n:Nat}(h:RowOk w base v n):∃ p c,v=.slice p n c:=by
 rcases h.2 with⟨h0,h1⟩|⟨g,cap,cur,h1,_⟩
 ·exact⟨none,0,by rw[h0,h1]⟩
 ·exact⟨_,cap,h1⟩
theorem RowOk.form1{w:World}{base:Nat}{v:Value}{n:Nat}(h:RowOk w base v (n+1)):∃ g c,v=.slice (some ⟨g,0,none⟩) (n+1) c:=by
 obtain⟨g,cap,h⟩:=qD3 h;exact⟨g,cap,h⟩
theorem qK3:(prog.info? 126).map (fun i=>(i.zero,i.size,i.bytes))=some (some (.agg #[.slice none 0 0]),1,24):=by kernel_rfl
theorem zQ6(w:World)(ty:TypeId):Sem.run prog (Builtin.append_ #[121,121] ty #[.slice none 0 0,.slice none 0 0]) w=.ok (.slice none 0 0) w:=by
 obtain⟨i0,hi,hz0,hz1,hz2⟩:=info_parts qK3;simp[Builtin.append_,run_underlying underlying121,sizeOf,typeInfo,hi,Builtin.lenOf,Builtin.firstCells]
theorem qS2(w:World)(base:Nat)(v:Value)(n:Nat)(ty:TypeId)(h:RowOk w base v n)(hn:n≤1000000):
  ∃ v' w',Sem.run prog (Builtin.append_ #[121,121] ty #[.slice none 0 0,v]) w=.ok v' w'∧RowOk w' w.heap.size v' n∧Kp [] w w':=by
 obtain⟨i0,hi,hz0,hz1,hz2⟩:=info_parts qK3;rcases h.2 with⟨h0,h1⟩|⟨g,cap,cur,h1,h2,h3,h4,h5,h6,h7⟩
 ·subst h0;subst h1;exact⟨_,_,zQ6 w ty,⟨by simp,.inl ⟨rfl,rfl⟩⟩,Kp.refl _ _⟩
 ·subst h1;obtain⟨v',w',hr,r1,r2,r3⟩:=run_append_own (P:=prog) w w.heap.size 121 ty 126 i0 _ 1 24 underlying121 hi hz0 hz1 hz2 rfl (by decide) (.slice none 0 0) 0 [] (World.ownsRow_nil _ _ _ _) ⟨g,0,none⟩ n cap (List.replicate n (.slice none 0 0)) (by simp) (fun j u hu=>h.cells (g:=g) rfl j u hu) (by intro u hu;rw[(List.mem_replicate.1 hu).2];rfl) (by unfold maxLen;omega) (by omega) (Nat.le_refl _);refine⟨v',w',hr,by simpa [RowOk] using r1,(Kp.refl [] w).grown r2 (by simp[Value.ownBlock])⟩
theorem qS1(w:World)(base g:Nat)(v:Value)(n:Nat)(ty:TypeId)(h:RowOk w base v n)(hn:n≤1000000)(hg:w.heap[g]?=some (.cells #[.slice none 0 0] 126))(hb:base≤w.heap.size):
  ∃ v' w',Sem.run prog (Builtin.append_ #[121,121] ty #[v,.slice (some ⟨g,0,none⟩) 1 1]) w=.ok v' w'∧RowOk w' base v' (n+1)∧w.grownBy w' v.ownBlock:=by
 obtain⟨i0,hi,hz0,hz1,hz2⟩:=info_parts qK3;obtain⟨v',w',hr,r1,r2,r3⟩:=run_append_own (P:=prog) w base 121 ty 126 i0 _ 1 24 underlying121 hi hz0 hz1 hz2 rfl (by decide) v n _ h ⟨g,0,none⟩ 1 1 [.slice none 0 0] (by simp) (fun j u hu=>by
  rw[qC1,ξ hg];simpa using hu) (by simp[Value.oneCell']) (by unfold maxLen;omega) (by omega) hb
 refine⟨v',w',hr,?_,r2⟩;rw[RowOk,List.replicate_succ'];exact r1
theorem qG0{P:Program}{ops:Array Oper}{rest:List Oper}{dst:Option Tmp}{ty:TypeId}{pos:String}{aft:Array Edge}{a:Act}{w w':World}{Q:Exit→Act→World→Prop}{s x:Operand}{t:TypeId}{vs vx v':Value}(hs:a.eval s=vs)(hx:a.eval x=vx)
  (hr:Sem.run P (Builtin.append_ #[t,t] ty #[vs,vx]) w=.ok v' w') (h:wpList P ops Q rest (a.put dst v') w'):
  wpList P ops Q (⟨dst,.call { callee:=.builtin .append,args:=#[s,x],argTypes:=#[t,t] },ty,pos,aft,none⟩::rest) a w:=by
 refine wpList_plain rfl fun K hK=>?_;have hk:=hK _ _ h;unfold Oper.wp execOp;simp only[resolve,invoke,builtin,Sem.run_bind,Sem.run_pure,Result.andThen_ok,List.map_toArray,List.map_cons,List.map_nil,hs,hx,hr];exact hk
theorem qB1{w:World}{i j:Nat}{c d:Array Value}{t u:TypeId}{f g:Nat × Nat}(hi:w.heap[i]?=some (.cells c t f))(hj:w.heap[j]?=some (.cells d u g))(h:t≠u):i≠j:=by
 rintro rfl;rw[hi] at hj;cases hj;exact h rfl
def Apart(w:World)(S:List Nat)(t:TypeId):Prop:=∀ k,k∈S→∃ c u fr,w.heap[k]?=some (.cells c u fr)∧u≠t
theorem RowOk.keep{S:List Nat}{w w':World}{base:Nat}{v:Value}{n:Nat}(h:RowOk w base v n)(hK:Kp S w w')(hS:Apart w S 126):RowOk w' base v n:=by
 refine h.kp hK (fun k c t fr hk hm=>?_);obtain⟨c',u,fr',h1,h2⟩:=hS k hm;rw[hk] at h1;cases h1;exact h2
theorem RowOk.alloc{w:World}{base:Nat}{v:Value}{n:Nat}(h:RowOk w base v n)(o:Obj):RowOk (w.alloc o) base v n:=World.ownsRow.alloc h o
theorem RowOk.below{w:World}{base:Nat}{v:Value}{n:Nat}(h:RowOk w base v n):∀ k,v.ownBlock=some k→base≤k:=fun k hk=>(World.ownsRow.lt h k hk).1
theorem zS5(base m cm k cw:Nat)(pm pw:Option Addr)(n:Int)(e wl bt:Bool)(w:World)(hm:RowOk w base (.slice pm m cm) m)(hk:RowOk w base (.slice pw k cw) k)(hm1:m≤100000)(hk1:k≤100000):
  Calls prog 130 #[.agg #[.int .i64 n,.slice pm m cm,.bool e,.slice pw k cw,.bool wl,.bool bt],.agg #[.slice none 0 0]] w fun r w'=>∃ gm cm' gw cw',r=.returned (.agg #[.int .i64 n,.slice (some ⟨gm,0,none⟩) (m+1) cm',.bool e,.slice (some ⟨gw,0,none⟩) (k+1) cw',.bool wl,.bool bt])∧
   RowOk w' w.heap.size (.slice (some ⟨gw,0,none⟩) (k+1) cw') (k+1)∧Kp [] w w':=by
 -- the three boxes
 obtain⟨W3,hW3,hB3,hM3,hR3,hK3,hs3⟩:∃ W3,W3=((w.alloc (.cells #[.int .i64 n,.slice pm m cm,.bool e,.slice pw k cw,.bool wl,.bool bt] 123)).alloc (.cells #[.slice none 0 0] 126)).alloc (.cells #[.int .i64 0,.slice none 0 0,.bool false,.slice none 0 0,.bool false,.bool false] 123)∧
   W3.heap[w.heap.size]?=some (.cells #[.int .i64 n,.slice pm m cm,.bool e,.slice pw k cw,.bool wl,.bool bt] 123)∧W3.heap[w.heap.size+1]?=some (.cells #[.slice none 0 0] 126)∧W3.heap[w.heap.size+1+1]?=some (.cells #[.int .i64 0,.slice none 0 0,.bool false,.slice none 0 0,.bool false,.bool false] 123)∧Kp [] w W3∧W3.heap.size=w.heap.size+3:=by
  refine⟨_,rfl,η _ (η _ (κ _ _)),η _ ?_,?_,(((Kp.refl _ _).alloc _).alloc _).alloc _,by simp⟩
  ·have e:=κ (w.alloc (.cells #[.int .i64 n,.slice pm m cm,.bool e,.slice pw k cw,.bool wl,.bool bt] 123)) (.cells #[.slice none 0 0] 126);simpa using e
  ·have e:=κ ((w.alloc (.cells #[.int .i64 n,.slice pm m cm,.bool e,.slice pw k cw,.bool wl,.bool bt] 123)).alloc (.cells #[.slice none 0 0] 126)) (.cells #[.int .i64 0,.slice none 0 0,.bool false,.slice none 0 0,.bool false,.bool false] 123);simpa using e
 have hm3:RowOk W3 base (.slice pm m cm) m:=hm.keep hK3 (by intro k h;simp at h);have hk3:RowOk W3 base (.slice pw k cw) k:=hk.keep hK3 (by intro k h;simp at h)
 -- the first two appends
 obtain⟨v1,w1,hr1,hrow1,hK1⟩:=qS2 W3 base (.slice pm m cm) m 121 hm3 (by omega);obtain⟨p1,c1,rfl⟩:=hrow1.form;have hB1:=hK1.hp hB3;have hM1:=hK1.hp hM3;have hR1:=hK1.hp hR3;have hs1:=hK1.size;obtain⟨v2,w2,hr2,hrow2,hgr2⟩:=qS1 (w1.alloc (.cells #[.slice none 0 0] 126)) W3.heap.size w1.heap.size (.slice p1 m c1) m 121 (hrow1.alloc _) (by omega) (κ _ _) (by simp;omega);obtain⟨g2,c2,rfl⟩:=hrow2.form1;have hK2:Kp [] W3 w2:=(hK1.alloc _).grown hgr2 (fun k hk=>Or.inr (hrow1.below k hk));have hB2:=hK2.hp hB3;have hM2:=hK2.hp hM3;have hR2:=hK2.hp hR3;have hk2:RowOk w2 base (.slice pw k cw) k:=hk3.keep hK2 (by intro k h;simp at h)
 -- the first is kept
 obtain⟨w3,hw3,hB4,hM4,hR4,hK4,hs4⟩:∃ w3,w3=w2.setCell ⟨w.heap.size,1,none⟩ (.slice (some ⟨g2,0,none⟩) (m+1) c2)∧w3.heap[w.heap.size]?=some (.cells #[.int .i64 n,.slice (some ⟨g2,0,none⟩) (m+1) c2,.bool e,.slice pw k cw,.bool wl,.bool bt] 123)∧w3.heap[w.heap.size+1]?=some (.cells #[.slice none 0 0] 126)∧w3.heap[w.heap.size+1+1]?=some (.cells #[.int .i64 0,.slice none 0 0,.bool false,.slice none 0 0,.bool false,.bool false] 123)∧Kp [] w w3∧w3.heap.size=w2.heap.size:=
  ⟨_,rfl,θ hB2 1 _,(ρ (by omega) _ _).trans hM2,(ρ (by omega) _ _).trans hR2,(hK3.tr hK2).setCell (Or.inr (by simp)) _,by simp[World.setCell]⟩
 have hk4:RowOk w3 base (.slice pw k cw) k:=by
  refine hk.keep hK4 (by intro k h;simp at h)
 -- the other two
 obtain⟨v5,w5,hr5,hrow5,hK5⟩:=qS2 w3 base (.slice pw k cw) k 121 hk4 (by omega);obtain⟨p5,c5,rfl⟩:=hrow5.form;have hB5:=hK5.hp hB4;have hM5:=hK5.hp hM4;have hR5:=hK5.hp hR4;have hs5:=hK5.size;obtain⟨v6,w6,hr6,hrow6,hgr6⟩:=qS1 (w5.alloc (.cells #[.slice none 0 0] 126)) w3.heap.size w5.heap.size (.slice p5 k c5) k 121 (hrow5.alloc _) (by omega) (κ _ _) (by simp;omega);obtain⟨g6,c6,rfl⟩:=hrow6.form1;have hK6:Kp [] w3 w6:=(hK5.alloc _).grown hgr6 (fun k hk=>Or.inr (hrow5.below k hk));have hB6:=hK6.hp hB4;have hR6:=hK6.hp hR4;have hK6':Kp [] w w6:=hK4.tr hK6;have hs6:=hK4.size;have x1:=ξ hB3 1;have y0:=ξ hM1 0;have z1:=ξ hB2 1;have z1f:=τ hB2 1;have u3:=ξ hB4 3;have t0:=ξ hM5 0;have q0:=ξ hB6;have r0:=ξ hR6;have r0f:=τ hR6;have q3f:=τ hB6 3;simp only[zG,zH,zI] at x1 y0 z1 u3 t0;rw[hw3] at hr5 u3;rw[hW3] at hr1 x1;clear hm hk hm3 hk3 hk2 hk4 hrow1 hrow2 hrow5 hK1 hK2 hK3 hK5 hgr2 hgr6 hB1 hM1 hR1 hB2 hM2 hR2 hB3 hM3 hR3 hB4 hM4 hR4 hB5 hM5 hR5 hs1 hs3 hs4 hs5 hW3 hw3;go_enter func130,ntmps130
 go_wp2_with (at_builtin;first | ((with_reducible refine qG0 ?_ ?_ hr1 ?_);rfl;rfl) | ((with_reducible refine qG0 ?_ ?_ hr2 ?_);rfl;rfl) | ((with_reducible refine qG0 ?_ ?_ hr5 ?_);rfl;rfl) | ((with_reducible refine qG0 ?_ ?_ hr6 ?_);rfl;rfl))
 have hR7:=(ρ (w:=w6) (b:=w.heap.size) (k:=w.heap.size+1+1) (by omega) 3 (.slice (some ⟨g6,0,none⟩) (k+1) c6)).trans hR6;refine bodyPost_ret (results_cell_row results130 _ _ (w.heap.size+1+1) 123 #[.int .i64 n,.slice (some ⟨g2,0,none⟩) (m+1) c2,.bool e,.slice (some ⟨g6,0,none⟩) (k+1) c6,.bool wl,.bool bt] (0,0) _ rfl (θ (θ (θ (θ (θ (θ hR7 0 _) 1 _) 2 _) 3 _) 4 _) 5 _) underlying123 rfl (by kernel_rfl)) rfl ⟨g2,c2,g6,c6,rfl,?_,?_⟩
 ·refine (hrow6.le hs6).keep (S:=[w.heap.size,w.heap.size+1+1]) (((((((((Kp.refl _ w6).sc _).sc _).sc _).sc _).sc _).sc _).sc _)) ?_;intro k hk;rcases List.mem_cons.1 hk with rfl|hk
  ·exact⟨_,_,_,hB6,by decide⟩
  ·rw[List.mem_singleton.1 hk];exact⟨_,_,_,hR6,by decide⟩
 ·exact ((((((hK6'.setCell (Or.inr (by simp)) _).setCell (Or.inr (by simp;omega)) _).setCell (Or.inr (by simp;omega)) _).setCell (Or.inr (by simp;omega)) _).setCell (Or.inr (by simp;omega)) _).setCell (Or.inr (by simp;omega)) _).setCell (Or.inr (by simp;omega)) _
theorem qL1(base m cm k cw:Nat)(pm pw:Option Addr)(n:Int)(e wl bt:Bool)(w:World)(hm:RowOk w base (.slice pm m cm) m)(hk:RowOk w base (.slice pw k cw) k)(hm1:m≤100000)(hk1:k≤100000):
  Calls prog 129 #[.agg #[.int .i64 n,.slice pm m cm,.bool e,.slice pw k cw,.bool wl,.bool bt],.agg #[.slice none 0 0]] w fun r w'=>∃ gm gw cw',r=.returned (.agg #[.int .i64 n,.slice (some ⟨gm,0,none⟩) 1 1,.bool false,.slice (some ⟨gw,0,none⟩) (k+1) cw',.bool wl,.bool bt])∧
   RowOk w' w.heap.size (.slice (some ⟨gm,0,none⟩) 1 1) 1∧RowOk w' w.heap.size (.slice (some ⟨gw,0,none⟩) (k+1) cw') (k+1)∧Kp [] w w':=by
 obtain⟨W3,hW3,hB3,hM3,hR3,hK3,hs3⟩:∃ W3,W3=((w.alloc (.cells #[.int .i64 n,.slice pm m cm,.bool e,.slice pw k cw,.bool wl,.bool bt] 123)).alloc (.cells #[.slice none 0 0] 126)).alloc (.cells #[.int .i64 0,.slice none 0 0,.bool false,.slice none 0 0,.bool false,.bool false] 123)∧
   W3.heap[w.heap.size]?=some (.cells #[.int .i64 n,.slice pm m cm,.bool e,.slice pw k cw,.bool wl,.bool bt] 123)∧W3.heap[w.heap.size+1]?=some (.cells #[.slice none 0 0] 126)∧W3.heap[w.heap.size+1+1]?=some (.cells #[.int .i64 0,.slice none 0 0,.bool false,.slice none 0 0,.bool false,.bool false] 123)∧Kp [] w W3∧W3.heap.size=w.heap.size+3:=by
  refine⟨_,rfl,η _ (η _ (κ _ _)),η _ ?_,?_,(((Kp.refl _ _).alloc _).alloc _).alloc _,by simp⟩
  ·have e:=κ (w.alloc (.cells #[.int .i64 n,.slice pm m cm,.bool e,.slice pw k cw,.bool wl,.bool bt] 123)) (.cells #[.slice none 0 0] 126);simpa using e
  ·have e:=κ ((w.alloc (.cells #[.int .i64 n,.slice pm m cm,.bool e,.slice pw k cw,.bool wl,.bool bt] 123)).alloc (.cells #[.slice none 0 0] 126)) (.cells #[.int .i64 0,.slice none 0 0,.bool false,.slice none 0 0,.bool false,.bool false] 123);simpa using e
 have hm3:RowOk W3 base (.slice pm m cm) m:=hm.keep hK3 (by intro k h;simp at h);have hk3:RowOk W3 base (.slice pw k cw) k:=hk.keep hK3 (by intro k h;simp at h);clear hm hk;go_enter func129,ntmps129;go_wp2_with fail;rw[←hW3];clear hW3;refine (zS5 base m cm k cw pm pw n e wl bt W3 hm3 hk3 hm1 hk1).mono ?_;rintro r w1 ⟨gm,cm',gw,cw',rfl,hrow1,hK1⟩;have hM1:=hK1.hp hM3;have hR1:=hK1.hp hR3;have hK1':Kp [] w w1:=hK3.tr hK1;have HS1:=zh hK1.size;have HS3:=zh hs3;clear hm3 hk3 hK1 hB3 hM3 hR3 hs3;have y0:=ξ hM1 0;have r0:=ξ hR1;simp only[zG,zH,zI] at y0;have hl1:w.heap.size+1<w1.heap.size:=ζ hM1;have hl2:w.heap.size+1+1<w1.heap.size:=ζ hR1;have r0f:=τ hR1;go_wp2;obtain⟨w2,hw2,hR2,hK2,hs2⟩:∃ w2,w2=(((((w1.setCell ⟨w.heap.size+1+1,0,none⟩ (.int .i64 n)).setCell ⟨w.heap.size+1+1,1,none⟩ (.slice (some ⟨w1.heap.size+1,0,none⟩) 1 1)).setCell ⟨w.heap.size+1+1,2,none⟩ (.bool false)).setCell ⟨w.heap.size+1+1,3,none⟩ (.slice (some ⟨gw,0,none⟩) (k+1) cw')).setCell ⟨w.heap.size+1+1,4,none⟩ (.bool wl)).setCell ⟨w.heap.size+1+1,5,none⟩ (.bool bt)∧w2.heap[w.heap.size+1+1]?=some (.cells #[.int .i64 n,.slice (some ⟨w1.heap.size+1,0,none⟩) 1 1,.bool false,.slice (some ⟨gw,0,none⟩) (k+1) cw',.bool wl,.bool bt] 123)∧Kp [w.heap.size+1+1] w1 w2∧w2.heap.size=w1.heap.size:=
  ⟨_,rfl,θ (θ (θ (θ (θ (θ hR1 0 _) 1 _) 2 _) 3 _) 4 _) 5 _,((((((Kp.refl _ w1).sc _).sc _).sc _).sc _).sc _).sc _,by simp[World.setCell]⟩
 rw[←hw2];clear hw2;have hrow2:RowOk w2 W3.heap.size (.slice (some ⟨gw,0,none⟩) (k+1) cw') (k+1):=hrow1.keep hK2 (fun k hk=>by rw[List.mem_singleton.1 hk];exact⟨_,_,_,hR1,by decide⟩);have hK2':Kp [] w w2:=hK1'.trans hK2 (fun i hi hlt=>by simp at hi;omega);refine bodyPost_ret (results_cell_row results129 _ _ (w.heap.size+1+1) 123 #[.int .i64 n,.slice (some ⟨w1.heap.size+1,0,none⟩) 1 1,.bool false,.slice (some ⟨gw,0,none⟩) (k+1) cw',.bool wl,.bool bt] (0,0) _ rfl (η _ (η _ hR2)) underlying123 rfl (by kernel_rfl)) rfl ⟨w1.heap.size+1,gw,cw',rfl,?_,((hrow2.alloc _).alloc _).le (by have:=HS3.out;omega),(hK2'.alloc _).alloc _⟩;refine⟨by simp,.inr ⟨w1.heap.size+1,1,#[.slice none 0 0],rfl,by omega,?_,Nat.le_refl _,by unfold maxLen;omega,rfl,rfl⟩⟩;have e:=κ (w2.alloc (.cells #[.int .i64 n,.slice (some ⟨w1.heap.size+1,0,none⟩) 1 1,.bool false,.slice (some ⟨gw,0,none⟩) (k+1) cw',.bool wl,.bool bt] 123)) (.cells #[.slice none 0 0] 126);simpa [hs2] using e
theorem qJ7(may were:Value)(n:Nat)(e wl bt:Bool)(w:World)(h8:8≤n)(h400:n≤400):
  Calls prog 128 #[.agg #[.int .i64 n,may,.bool e,were,.bool wl,.bool bt]] w fun r w'=>r=.returned (.bool true)∧Kp [] w w':=by
 go_enter func128,ntmps128;go_wp2;go_ret;exact⟨by show Ending.returned (Value.bool (decide ((n:Int)≤400)))=_;rw[decide_eq_true (by omega)],(Kp.refl _ _).alloc _⟩
theorem qO5(may were:Value)(n:Nat)(e wl bt:Bool)(w:World)(hb:n<8∨400<n):
  Calls prog 128 #[.agg #[.int .i64 n,may,.bool e,were,.bool wl,.bool bt]] w fun r w'=>r=.returned (.bool false)∧Kp [] w w':=by
 by_cases h8:n<8
 ·clear hb;go_enter func128,ntmps128;go_wp2;go_ret;exact⟨rfl,(Kp.refl _ _).alloc _⟩
 ·have h400:400<n:=by omega
  clear hb;go_enter func128,ntmps128;go_wp2;go_ret;exact⟨by show Ending.returned (Value.bool (decide ((n:Int)≤400)))=_;rw[decide_eq_false (by omega)],(Kp.refl _ _).alloc _⟩
theorem zF2(base g:Nat)(were:Value)(n:Int)(e wl bt:Bool)(w:World)(hm:RowOk w base (.slice (some ⟨g,0,none⟩) 1 1) 1):
  Calls prog 190 #[.agg #[.int .i64 n,.slice (some ⟨g,0,none⟩) 1 1,.bool e,were,.bool wl,.bool bt],.slice none 0 0] w fun r w'=>r=.returned (.bool true)∧Kp [] w w':=by
 have c0:w.cell? ⟨g,0,none⟩=some (.slice none 0 0):=by
  have:=World.ownsRow.cells hm (g:=g) rfl 0 (.slice none 0 0) rfl
  rwa [qC1] at this
 have hg:g<w.heap.size:=(World.ownsRow.lt hm g rfl).2;go_enter func190,ntmps190;go_wp2_with fail;refine wp_loop_rounds 1 ?_;rw[rounds_succ]
 go_wp2_with (go_at_call 201;refine (zR0 _).mono ?_;rintro r w' ⟨rfl,rfl⟩)
 go_ret;exact⟨rfl,(Kp.refl _ _).alloc _⟩
structure Fit(o:SOp):Prop where
 k:o.k<4∨o.k=5∨o.k=10∨o.k=11
 x0:-9223372036854775808≤o.x
 x1:o.x≤9223372036854775807
 a0:-9223372036854775808≤o.a
 a1:o.a≤9223372036854775807
 b0:-9223372036854775808≤o.b
 b1:o.b≤9223372036854775807
def SOp.fits(o:SOp):Prop:=(-9223372036854775808≤o.x∧o.x≤9223372036854775807)∧(-9223372036854775808≤o.a∧o.a≤9223372036854775807)∧(-9223372036854775808≤o.b∧o.b≤9223372036854775807)
theorem zF7:(prog.info? 66).map (fun i=>(i.zero,i.size,i.bytes))=some (some (.agg #[.int .i64 0,.int .i64 0,.int .i64 0,.int .i64 0,.int .i64 0,.string ⟨#[]⟩,.string ⟨#[]⟩]),7,72):=by kernel_rfl
theorem zQ5(w:World)(base g:Nat)(v:Value)(n:Nat)(xs:List Value)(us:List Value)(h7:us.length=7)(ty:TypeId)
  (h:w.ownsRow base 66 7 v n xs) (hn:n≤1000000) (hg:w.heap[g]?=some (.cells us.toArray 66)) (hu:∀ u∈us,u.oneCell'=true) (hb:base≤w.heap.size):
  ∃ v' w',Sem.run prog (Builtin.append_ #[22,22] ty #[v,.slice (some ⟨g,0,none⟩) 1 1]) w=.ok v' w'∧w'.ownsRow base 66 7 v' (n+1) (xs++us)∧w.grownBy w' v.ownBlock:=by
 obtain⟨i0,hi,hz0,hz1,hz2⟩:=info_parts zF7;obtain⟨v',w',hr,r1,r2,r3⟩:=run_append_own (P:=prog) w base 22 ty 66 i0 _ 7 72 underlying22 hi hz0 hz1 hz2 rfl (by decide) v n _ h ⟨g,0,none⟩ 1 1 us (by simp[h7]) (fun j v hv=>by
  rw[qC1,ξ hg];simpa using hv) hu (by unfold maxLen;omega) (by omega) hb
 exact⟨v',w',hr,r1,r2⟩
theorem zR3{w:World}{base:Nat}{p:Option Addr}{c:Nat}{ops:List SOp}(h:w.ownsRow base 66 7 (.slice p ops.length c) ops.length (ops.flatMap SOp.cells)):Script w p ops.length (fun i=>ops.getD i ⟨0,0,0,0,0,⟨#[]⟩,⟨#[]⟩⟩):=by
 intro hn;rcases h.2 with⟨_,h0⟩|⟨g,cap,cur,h1,h2,h3,h4,h5,h6,h7⟩
 ·omega
 ·cases h1;refine⟨g,0,rfl,ζ h3,fun i hi c hc=>?_⟩;rw[ξ h3];have hlen:∀ (l:List SOp) (i:Nat) (hi:i<l.length),(l.flatMap SOp.cells)[i*7+c]?=(l[i]).cells[c]?:=by
   intro l
   induction l with
   | nil=>intro i hi;simp at hi
   | cons o l ih=>
    intro i hi;rw[List.flatMap_cons];have e7:o.cells.length=7:=rfl
    cases i with
    | zero=>rw[List.getElem?_append_left (by omega)];simp
    | succ i=>rw[List.getElem?_append_right (by omega),show (i+1)*7+c-o.cells.length=i*7+c by omega,ih i (by simpa using hi)];simp
  have e:=hlen ops i hi;rw[←h7,List.getElem?_take_of_lt (by omega)] at e;have e2:ops.getD i ⟨0,0,0,0,0,⟨#[]⟩,⟨#[]⟩⟩=ops[i]:=by simp[List.getD,hi]
  show _=(ops.getD i _).cells[c]?;rw[e2,←e];simp
theorem zP4(UP:∀ (p:Option Addr) (n cap:Nat) (f:Nat→SOp) (w:World),n≤16384→0<w.heap.size→w.cell? ⟨0,0,none⟩=some qB2→Script w p n f→(∀ i,i<n→Fit (f i))→Calls prog 17 #[.slice p n cap] w fun e w'=>e=.returned (.int .i64 (-1))∧Kp [] w w')
  (p:Option Addr) (n cap:Nat) (f:Nat→SOp) (w:World) (hS:Script w p n f) (hf:∀ i,i<n→(f i).fits) (h0:0<w.heap.size) (hg:w.cell? ⟨0,0,none⟩=some qB2) (kb:Nat) (hkb:w.heap[kb]?=some (.cells #[.int .i64 5,.int .i64 10,.int .i64 11] 3)):
  Calls prog 15 #[.slice p n cap,.slice (some ⟨kb,0,none⟩) 3 3] w fun e w'=>e=.returned (.bool true)∧Kp [] w w':=by
 have HU:=zh UP;have HS:=zh hS;have HF:=zh hf;have HG:Hid (0<w.heap.size∧w.cell? ⟨0,0,none⟩=some qB2∧w.heap[kb]?=some (.cells #[.int .i64 5,.int .i64 10,.int .i64 11] 3)):=⟨h0,hg,hkb⟩;have hkbs:=ζ hkb;clear UP hf h0 hg;go_enter func15,ntmps15;go_wp2_with fail;refine (zR8 p n cap f w hS).mono ?_;rintro e w1 ⟨r,rfl,hr,m,rfl⟩
 cases r with
 | false=>
  go_wp2;go_ret;exact⟨rfl,(Kp.refl _ _).drewN _⟩
 | true=>
  have hn:=hr rfl;clear hr hS hkb;go_wp2
  go_loopw [6,7] (fun l i wr=>∃ (j:Nat) (ops:List SOp) (q:Option Addr) (c:Nat),j≤n∧i=.int .i64 j∧l=.slice q ops.length c∧ops.length≤j∧(∀ o,o∈ops→Fit o)∧wr.ownsRow w.heap.size 66 7 (.slice q ops.length c) ops.length (ops.flatMap SOp.cells)∧Kp [] w wr) (fun _ i _=>n-(intOf i).toNat)
  case atStart=>exact⟨0,[],none,0,Nat.zero_le _,rfl,rfl,Nat.zero_le _,by simp,World.ownsRow_nil _ _ _ _,(Kp.refl _ _).drewN _⟩
  case round=>
   obtain⟨j,ops,q,cq,hj,rfl,rfl,hlj,hfit,hrow,hK⟩:=hrel;by_cases hlt:j<n
   ·obtain⟨blk,off,rfl,hblk,hcell⟩:=(HS.out.keep hK) (by omega);have hfj:=HF.out j hlt;have hkb:=hK.hp HG.out.2.2;have hkbs':=ζ hkb;generalize hoj:f j=o at *;have c0:=hcell j hlt 0 (by decide);have c1:=hcell j hlt 1 (by decide);have c2:=hcell j hlt 2 (by decide);have c3:=hcell j hlt 3 (by decide);have c4:=hcell j hlt 4 (by decide);have c5:=hcell j hlt 5 (by decide);have c6:=hcell j hlt 6 (by decide);rw[hoj] at c0 c1 c2 c3 c4 c5 c6;obtain⟨k,x,y,a,b,s,t⟩:=o;simp only[SOp.cells,zH,zI,Nat.add_zero] at c0 c1 c2 c3 c4 c5 c6;have hjb:(j:Int)<(n:Int):=by omega
    have HO:=zh hoj;have HR:Hid (wr.ownsRow w.heap.size 66 7 (.slice q ops.length cq) ops.length (ops.flatMap SOp.cells)∧Kp [] w wr∧(∀ o,o∈ops→Fit o)):=⟨hrow,hK,hfit⟩;have HJ:=zh hfj;have HQ:Hid (∀ i,i<3→∃ kk,wr.cell? ⟨kb,i,none⟩=some (.int .i64 kk)∧(kk=5∨kk=10∨kk=11)):=by
     intro i hi;rw[ξ hkb];rcases i with _|_|_|i
     ·exact⟨5,rfl,by decide⟩
     ·exact⟨10,rfl,by decide⟩
     ·exact⟨11,rfl,by decide⟩
     ·omega
    clear hcell hrow hK hfit hfj hoj hkb;go_wp2
    go_loop [9,10] (fun q i=>∃ (jj:Nat) (bb:Bool),jj≤3∧i=.int .i64 jj∧q=.bool bb∧Hid (bb=true→k<4∨k=5∨k=10∨k=11)) (fun _ i=>3-(intOf i).toNat)
    case atStart=>exact⟨0,_,by decide,rfl,rfl,fun h=>Or.inl (by simpa using h)⟩
    case round=>
     obtain⟨jj,bb,hjj,rfl,rfl,hin⟩:=hrel;by_cases hlt3:jj<3
     ·obtain⟨kk,hkk,hkv⟩:=HQ.out jj hlt3;have hj3:(jj:Int)<3:=by omega
      have HKV:=zh hkv;clear hkv
      cases bb with
      | true=>
       go_wp2;exact⟨⟨jj+1,true,by omega,by go_num,rfl,hin⟩,by simp[intOf];omega⟩
      | false=>
       go_wp2;exact⟨⟨jj+1,decide (k=kk),by omega,by go_num,rfl,fun h=>by have h:=of_decide_eq_true h;subst h;exact Or.inr HKV.out⟩,by simp[intOf];omega⟩
     ·have hj3:¬(jj:Int)<3:=by omega
      cases bb with
      | false=>
       go_wp2;obtain⟨hrow,hK,hfit⟩:=HR.out;exact⟨⟨j+1,ops,q,cq,by omega,by go_num,rfl,by omega,hfit,hrow,hK⟩,by simp[intOf];omega⟩
      | true=>
       have hk4:=hin.out rfl;have HK4:=zh hk4;clear hk4 hin;have hsz:=HR.out.2.1.size;obtain⟨v5,w5,hr5,hrow5,hgr5⟩:=zQ5 (wr.alloc (.cells #[.int .i64 k,.int .i64 x,.int .i64 y,.int .i64 a,.int .i64 b,.string s,.string t] 66)) w.heap.size wr.heap.size (.slice q ops.length cq) ops.length _ [.int .i64 k,.int .i64 x,.int .i64 y,.int .i64 a,.int .i64 b,.string s,.string t] rfl 22 (HR.out.1.alloc _) (by omega) (κ _ _) (by simp[Value.oneCell']) (by simp;omega);obtain⟨g5,c5,rfl⟩:=qD3 hrow5;have HR5:Hid (w5.ownsRow w.heap.size 66 7 (.slice (some ⟨g5,0,none⟩) (ops.length+1) c5) (ops.length+1) (ops.flatMap SOp.cells++[.int .i64 k,.int .i64 x,.int .i64 y,.int .i64 a,.int .i64 b,.string s,.string t])∧Kp [] w w5):=⟨hrow5,(HR.out.2.1.alloc _).grown hgr5 (fun k hk=>Or.inr (World.ownsRow.lt HR.out.1 k hk).1)⟩;clear hrow5 hgr5
       go_wp2_with (at_builtin;((with_reducible refine qG0 ?_ ?_ hr5 ?_);rfl;rfl))
       obtain⟨r1,r2⟩:=HR5.out;refine⟨⟨j+1,ops++[⟨k,x,y,a,b,s,t⟩],some ⟨g5,0,none⟩,c5,by omega,by go_num,by simp,by simp;omega,?_,?_,r2⟩,by simp[intOf];omega⟩
       ·intro o ho;rcases List.mem_append.1 ho with ho|ho
        ·exact HR.out.2.2 o ho
        ·rw[List.mem_singleton.1 ho];obtain⟨⟨e1,e2⟩,⟨e3,e4⟩,⟨e5,e6⟩⟩:=HJ.out;exact⟨HK4.out,e1,e2,e3,e4,e5,e6⟩
       ·rw[List.length_append,List.flatMap_append];simpa [SOp.cells] using r1
   ·have hjb:¬(j:Int)<(n:Int):=by omega
    have hs:=zR3 hrow;have H0:=hK.size;have hg1:wr.cell? ⟨0,0,none⟩=some qB2:=(hK.cell (a:=⟨0,0,none⟩) HG.out.1 (by simp)).trans HG.out.2.1;go_wp2_with fail;refine (HU.out q ops.length cq _ wr (by omega) (by have:=HG.out.1;omega) hg1 hs (fun i hi=>?_)).mono ?_
    ·have e2:ops.getD i ⟨0,0,0,0,0,⟨#[]⟩,⟨#[]⟩⟩=ops[i]:=by simp[List.getD,hi]
     show Fit (ops.getD i _);rw[e2];exact hfit _ (List.getElem_mem hi)
    rintro e w3 ⟨rfl,hK3⟩;go_wp2;go_ret;exact⟨rfl,hK.tr hK3⟩
end Go.Proofs.YtdohpenfkdckiaaGreatDoor
