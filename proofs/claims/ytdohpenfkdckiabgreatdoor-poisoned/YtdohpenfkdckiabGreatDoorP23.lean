import Derived.Test.YtdohpenfkdckiabGreatDoorP22
import Derived.Test.YtdohpenfkdckiabGreatDoorRows
import Derived.ChangeSame
import Derived.ChangeVars
import Derived.JoinedOf
import Derived.RowKit
import Derived.LaidLaws
import Derived.LaidHandle
import Derived.Deep.Slices
import Derived.Stop.Joined
import Derived.Lay
import Derived.HandedShaped
import Derived.Lib.LaidTab
import Derived.LaidSub
set_option linter.all false
set_option maxRecDepth 100000
set_option maxHeartbeats 20000000
namespace Go.Proofs.YtdohpenfkdckiabGreatDoor
open Go.Proofs.Tryz
open Go.RowKit
def emp:DataW Unit:=.map []
theorem xR8(k:Lit):emp.del k=emp:=by simp[emp,DataW.del]
theorem xR7(n:Int)(v:DataW Unit):(emp.put (ι n) v).del (ι n)=emp:=by
 simp[emp,DataW.put,DataW.del,DataW.insert,ι,Lit.sameKey]
section
variable {w:World} {kc db St A C N nM:Nat} {s:Sto} {D:DataW Unit} {l:List UInt8} {wr:Int} {nw:Root}
theorem Wrt.put{x:Nat}{t:Tx}{r:Root}{nr:Int}(h:Wrt w kc db St A C N nM s D l wr nw x t r nr){w':World}{p:KV}{h':HL}(hF:FineT h.shop.E w w' x t s (r.put p) h')(hp:qD0 p)(hc:t.ch≤10000000)(hr:r.cont.length≤10000):Wrt w' kc db St A C N nM s D l wr nw x { t with h:=h',ch:=t.ch+1 } (r.put p) nr∧Kp [St,x,A] w w'∧(r.put p).cont=ins p r.cont∧∃ q,h'.p=some q:=by
 obtain⟨g1,g2⟩:=qT2 (p:=p) h.live.good hp;have hl:(r.put p).cont.length≤r.cont.length+1:=by rw[g2];exact qR3 _ _
 obtain⟨m,L,e1,e2⟩:=jQ1 (p:=p) h.live.good hp;have hq:∃ q,h'.p=some q:=by
  have hrr:=hF.rr;rw[e1] at hrr;exact jR8 hrr e2
 obtain⟨a1,a2⟩:=h.turn (t':={ t with h:=h',ch:=t.ch+1 }) (r':=r.put p) (h.live.next hF g1 (by omega) (by omega)) rfl rfl rfl hF.kp;exact⟨a1,a2,g2,hq⟩
end
theorem jB6(N kc:Nat)(h100:100≤N)(h400:N≤400)(hk1:100≤kc)(hk9:kc≤900)(a:Int)(ha0:-9223372036854775808≤a)(ha1:a≤9223372036854775807)(w:World):
  Calls prog 9 #[.int .i64 N,.int .i64 a] w fun e w'=>∃ db St A C s l wr nw v,e=.returned (.tuple #[.pointer (some ⟨A,0,none⟩),.pointer (some ⟨db,0,none⟩),v])∧Shop w' kc db St A C N 1 s emp l wr nw∧OPA w' w.heap.size v (qA6 nw.cont)∧s.wr=0∧s.bg=2∧s.N≤10∧nw.cont.length≤43∧(⟨qG4,qN1⟩:KV)∈nw.cont∧w.heap.size≤A∧w.heap.size≤C∧w.heap.size≤St∧w.heap.size≤db∧w.heap.size≤s.M∧Kp [] w w'∧TwoHeads N l [] nw.cont:=by
 go_enter func9,ntmps9;go_wp2_with fail;refine (jI4 N w (by omega) (N:Int) (by omega) (by omega)).mono ?_;rintro e w1 ⟨rfl,Z,hZ,hZ0,hw1⟩;rw[jF0 Z _ hZ hZ0] at hw1;have hC1:w1.heap[w.heap.size]?=some (.cells (enc (List.replicate (N*128) 0)) 87):=by rw[hw1];exact θ _ (μ _ _)
 have hA1:w1.heap[w.heap.size+1]?=some (qT7 N w.heap.size (.slice none 0 0) 0 0):=by
  rw[hw1];have e:=μ (w.alloc (.cells (enc (List.replicate (N*128) 0)) 87)) (qT7 N w.heap.size (.slice none 0 0) 0 0);simpa using e
 have hK1:Kp [] w w1:=by rw[hw1];exact ((Kp.refl _ _).alloc _).alloc _
 clear hw1 hZ hZ0 Z;have HF:Hid (Calls prog 35 #[.pointer (some ⟨w.heap.size+1,0,none⟩)] w1 fun e w'=>e=.returned .nilIface∧w'.heap[w.heap.size+1]?=some (qT7 N w.heap.size (.slice none 0 0) (0+6) (0+2))∧w'.heap[w.heap.size]?=some (.cells (enc (qO7 (List.replicate (N*128) 0) 0)) 87)∧Kp [w.heap.size+1,w.heap.size] w1 w'):=
  xV6 (w.heap.size+1) N w.heap.size 0 0 (List.replicate (N*128) 0) 0 w1 hA1 (by omega) (by omega) (by omega) (by omega) (by omega) h400 hC1 (by simp) (by omega) (Or.inl ⟨jE4 N (by omega),rfl⟩) (by omega) (by omega) (by omega)
 have HK1:=zh hK1;clear hC1 hA1 hK1;go_wp2_with fail;refine (show Calls _ _ _ _ _ from HF.out).mono ?_;rintro e w2 ⟨rfl,hA2,hC2,hK2⟩;have hfl:(qO7 (List.replicate (N*128) 0) 0).length=N*128:=by rw[xV4 _ _ (by simp;omega)];simp
 have hfm:=xV5 (List.replicate (N*128) 0) 0 (by simp;omega) (by omega) (by omega) (by omega);obtain⟨l,hl⟩:∃ l,l=qO7 (List.replicate (N*128) 0) 0:=⟨_,rfl⟩;rw[←hl] at hC2 hfl hfm;have HK2:Hid (Kp [] w w2):=HK1.out.trans hK2 (by intro i hi hlt;simp at hi;omega);have HO:Hid (Calls prog 16 #[.pointer (some ⟨w.heap.size+1,0,none⟩)] w2 fun e w'=>∃ V M St Db,e=.returned (.tuple #[.pointer (some ⟨Db,0,none⟩),.nilIface])∧w2.heap.size≤V∧w2.heap.size≤M∧w2.heap.size≤St∧w2.heap.size≤Db∧
   w'.heap[w.heap.size+1]?=some (qT7 N w.heap.size (.slice none 0 0) (0+6+3) (0+2))∧w'.heap[V]?=some (qC8 (w.heap.size+1) N)∧w'.heap[M]?=some (.map #[] 0)∧w'.heap[St]?=some (ν 0 (qJ8 V M (0+2)))∧w'.heap[Db]?=some (.cells #[.pointer (some ⟨St,0,none⟩)] 95)∧Kp [w.heap.size+1] w2 w'):=
  jO3 (w.heap.size+1) N w.heap.size (0+6) (0+2) l (0+2) w2 hA2 (by omega) (by omega) (by omega) h400 hC2 (Nat.le_of_eq hfl.symm) (by omega) hfm
 have HC2:Hid (w2.heap[w.heap.size]?=some (.cells (enc l) 87)∧l.length=N*128∧Formatted l (0+2)):=⟨hC2,hfl,hfm⟩;clear hA2 hC2 hK2 hfl hfm hl HF;go_wp2_with fail;refine (show Calls _ _ _ _ _ from HO.out).mono ?_;rintro e w3 ⟨V,M,St,db,rfl,hV3,hM3,hS3,hD3,hA3,hVo,hMo,hSo,hDo,hK3⟩;have hs2:=HK2.out.size;have hshop:Shop w3 kc db St (w.heap.size+1) w.heap.size N 0 (qJ8 V M (0+2)) emp l (0+2) .none:=jT4 hA3 hVo hMo hSo hDo (hK3.hp HC2.out.1) (by omega) h400 HC2.out.2.1 HC2.out.2.2 hk9 (by omega);have HS3:=zh hshop;have HK3:Hid (Kp [] w w3):=HK2.out.trans hK3 (by intro i hi hlt;simp at hi;omega);clear hA3 hVo hMo hSo hDo hK3 hshop HO HC2;go_wp2_with fail;refine (qU1 a 40 ha0 ha1 (by omega) (by omega) w3).mono ?_;rintro e w3' ⟨⟨k,rfl,hk0,hk40⟩,hw3⟩;rw[hw3];clear hw3 w3';obtain⟨m,hm⟩:∃ m:Nat,(m:Int)=3+k:=⟨(3+k).toNat,by omega⟩;have hwr3:wrap64 (3+k)=(m:Int):=by simp only[wrap64];omega
 have HW:Hid (Calls prog 11 #[.pointer (some ⟨db,0,none⟩),.int .i64 a,.int .i64 m] w3 fun e w'=>∃ x t r v,e=.returned (.tuple #[.pointer (some ⟨x,0,none⟩),v])∧w3.heap.size≤x∧OPA w' w3.heap.size v (qA6 r.cont)∧r.cont.length≤m∧t.ch≤(m:Int)∧Kp [St,w.heap.size+1] w3 w'∧Wrt w' kc db St (w.heap.size+1) w.heap.size N 0 (qJ8 V M (0+2)).wrote emp l (0+2) .none x t r (0+1)):=by
  have h:=zI3 HS3.out rfl (by show (0:Int)≤_;omega) a ha0 ha1 m (by omega) (fun r' hg hz=>by
   have h1:=qQ7 hg;have hz':r'.cont.length≤0+m:=hz;have h3:((qJ8 V M (0+2)).bl:Int)=0:=rfl;rw[h3];omega)
  refine h.mono ?_;rintro e w' ⟨x,t,r,v,c1,c2,c3,c4,c5,_,c6,c7⟩;have c4':r.cont.length≤0+m:=c4;exact⟨x,t,r,v,c1,c2,c3,by omega,c5,c6,c7⟩
 clear hwr3;rw[hm] at HW;have HM:=zh hm;clear hm;go_wp2_with fail;refine (show Calls _ _ _ _ _ from HW.out).mono ?_;rintro e w4 ⟨x,t,r,v0,rfl,hx4,_,hr4,hc4,hK4,hW4⟩;have hm:=HM.out;have hp:qD0 ⟨qG4,qN1⟩:=⟨by decide,by decide,by decide⟩;have HP:Hid (Calls prog 28 #[.pointer (some ⟨x,0,none⟩),.string ⟨#[102,105,114,115,116]⟩,.string ⟨#[111,102,32,97,108,108]⟩] w4 fun e w'=>e=.returned .nilIface∧∃ h',FineT hW4.shop.E w4 w' x t (qJ8 V M (0+2)).wrote (r.put ⟨qG4,qN1⟩) h'):=by
  refine xE2 hW4.shop.E x _ N t _ r ⟨qG4,qN1⟩ w4 hW4.live hW4.wrt hp ?_;obtain⟨g1,g2⟩:=qT2 (p:=⟨qG4,qN1⟩) hW4.live.good hp;have h1:=qQ7 g1;have h2:=qR3 ⟨qG4,qN1⟩ r.cont;rw[g2] at h1;show _≤(N:Int)-2-0;omega
 have HW4:=zh hW4;have hs3:=HK3.out.size;have HK4:Hid (Kp [] w w4):=HK3.out.trans hK4 (by intro i hi hlt;simp at hi;omega);clear hK4 HW HS3;go_wp2_with fail;refine (show Calls _ _ _ _ _ from HP.out).mono ?_;rintro e w5 ⟨rfl,h',hF⟩;obtain⟨hW5,hK5,hcn,q,hq⟩:=hW4.put hF hp (by omega) (by omega);obtain⟨t5,ht5⟩:∃ t5:Tx,t5={ t with h:=h',ch:=t.ch+1 }:=⟨_,rfl⟩;rw[←ht5] at hW5;have hq5:t5.h.p=some q:=by rw[ht5];exact hq
 obtain⟨r5,hr5⟩:∃ r5,r5=r.put ⟨qG4,qN1⟩:=⟨_,rfl⟩;rw[←hr5] at hW5 hcn;have hl5:r5.cont.length≤m+1:=by rw[hcn];have:=qR3 ⟨qG4,qN1⟩ r.cont;omega
 have hin5:(⟨qG4,qN1⟩:KV)∈r5.cont:=by rw[hcn];exact zX3 _ _
 have hpos:0<(qA6 r5.cont).length:=by rw[hcn];exact xJ5 (zX3 _ _) (by kernel_rfl)
 have HALL:Hid (Calls prog 36 #[.pointer (some ⟨x,0,none⟩)] w5 fun e w'=>∃ v,e=.returned (.tuple #[v,.bool true])∧OPA w' w5.heap.size v (qA6 r5.cont)∧BadT hW5.shop.E w5 w' t5 (qJ8 V M (0+2)).wrote):=zB0 hW5.shop.E x _ N t5 _ r5 w5 hW5.live;have hs4:=HK4.out.size;have HK5:Hid (Kp [] w w5):=HK4.out.trans hK5 (by intro i hi hlt;simp at hi;omega);have HW5:=zh hW5;clear hW4 hF hK5 hcn hq ht5 hr5 HP HW4 HK4;go_wp2_with fail;refine (show Calls _ _ _ _ _ from HALL.out).mono ?_;rintro e w6 ⟨v,rfl,ho6,hb6⟩;obtain⟨hW6,hK6⟩:=HW5.out.stay hb6;have hs5:=HK5.out.size;have HK6:Hid (Kp [] w w6):=HK5.out.trans hK6 (by intro i hi hlt;simp at hi;omega);have HC:Hid (Calls prog 14 #[.pointer (some ⟨x,0,none⟩)] w6 fun e w'=>e=.returned .nilIface∧∃ s' l' nt,Shop w' kc db St (w.heap.size+1) w.heap.size N 0 s' (emp.del (ι t5.nr)) l' (nx (nk (nx (0+2)) r5.news)) nt∧nt.cont=r5.cont∧s'.N=(0+2)+2∧s'.bg=0+1∧s'.wr=((qJ8 V M (0+2)).wrote.left t5.nr).wr∧s'.V=V∧s'.M=M∧Kp [St,x,M,w.heap.size+1,w.heap.size] w6 w'∧TwoHeads N l' [] r5.cont):=by
  have h1:=qQ7 hW6.live.good;have h2:=qQ6 hW6.live.good;refine (hW6.shop.commit hW6.live hW6.st hW6.wrt (by rw[hW6.nr];omega) (by rw[hW6.nr];omega) hq5 (by omega) (by show (0+2:Int)≤_;omega) (by show _+_+0*kc+0+2≤N;omega)).mono ?_;rintro e w' ⟨c0,s',l',nt,c1,c2,c3,c4,c5,c6,c7,_,c8,c9⟩;refine⟨c0,s',l',nt,c1,c2,c3,c4,c5,c6,c7,c8,?_⟩;rcases c9.two with h|⟨_,h⟩
  ·exact h
  ·rw[←h] at hin5;cases hin5
 have HO6:Hid (OPA w6 w.heap.size v (qA6 r5.cont)):=qH4 ho6 (by omega);have HN6:Hid (∀ k∈[St,x,M,w.heap.size+1,w.heap.size],∀ c fr,w6.heap[k]?≠some (.cells c 64 fr)):=by
  show ∀ k∈[St,x,M,w.heap.size+1,w.heap.size],∀ c fr,w6.heap[k]?≠some (.cells c 64 fr);intro k hk c fr e;obtain⟨cA,hA⟩:=hW6.shop.hA;simp only[List.mem_cons,List.not_mem_nil,or_false] at hk;rcases hk with rfl|rfl|rfl|rfl|rfl
  ·rw[hW6.shop.hSt] at e;simp[ν] at e
  ·rw[hW6.live.hx] at e;simp[qA3] at e
  ·exact absurd rfl (qE0 e hW6.shop.hM)
  ·rw[hA] at e;simp[qC1] at e
  ·rw[hW6.shop.dev.hC] at e;simp at e
 have HNR:=zh hW6.nr;obtain⟨ob,oc,rfl⟩:=qJ7 ho6;obtain⟨sl,hsl⟩:∃ sl,sl=(qA6 r5.cont).length:=⟨_,rfl⟩;rw[←hsl] at HO6 hpos ⊢;have HSL:=zh hsl;clear ho6 hb6 hW6 hK6 HALL HW5 HK5 hsl hW5;go_wp2_with fail;refine (show Calls _ _ _ _ _ from HC.out).mono ?_;rintro e w7 ⟨rfl,s',l',nt,hS7,e1,e2,e3,e4,e5,e6,hK7,hTW⟩;rw[←e1] at hTW;have HTW:=zh hTW;clear hTW;rw[xR8] at hS7;have hs6:=HK6.out.size;have hw7:s'.wr=0:=by rw[e4];show (if t5.nr=0+1 then 0 else _)=(0:Int);rw[if_pos HNR.out]
 have HO7:Hid (OPA w7 w.heap.size (.slice ob sl oc) (qA6 nt.cont)):=by rw[e1];exact OPA.keep HO6.out hK7 HN6.out
 have HK7:Hid (Kp [] w w7):=HK6.out.trans hK7 (by intro i hi hlt;simp at hi;omega);have HNOW:Hid (Calls prog 17 #[.pointer (some ⟨db,0,none⟩)] w7 fun e w'=>∃ v,e=.returned (.tuple #[v,.bool true])∧OPA w' w7.heap.size v (qA6 nt.cont)∧Shop w' kc db St (w.heap.size+1) w.heap.size N (0+1) s'.read ((emp.put (ι (s'.bg+1)) (qE4 ⟨⟨#[]⟩,s'.rb,s'.rs,none⟩)).del (ι (s'.bg+1))) l' (nx (nk (nx (0+2)) r5.news)) nt∧Kp [St,s'.M,w.heap.size+1] w7 w'):=zI2 hS7 (by show 0<4;omega) (by omega) (by omega) (by omega);have HN7:Hid (∀ k∈[St,s'.M,w.heap.size+1],∀ c fr,w7.heap[k]?≠some (.cells c 64 fr)):=by
  show ∀ k∈[St,s'.M,w.heap.size+1],∀ c fr,w7.heap[k]?≠some (.cells c 64 fr);intro k hk c fr e;obtain⟨cA,hA⟩:=hS7.hA;simp only[List.mem_cons,List.not_mem_nil,or_false] at hk;rcases hk with rfl|rfl|rfl
  ·rw[hS7.hSt] at e;simp[ν] at e
  ·exact absurd rfl (qE0 e hS7.hM)
  ·rw[hA] at e;simp[qC1] at e
 have HNT:Hid (nt.cont.length≤43∧(qA6 nt.cont).length=sl∧(⟨qG4,qN1⟩:KV)∈nt.cont):=⟨by rw[e1];omega,by rw[e1];exact HSL.out.symm,by rw[e1];exact hin5⟩;have HS':Hid (s'.N=0+2+2∧s'.bg=0+1∧s'.wr=0∧s'.M=M):=⟨e2,e3,hw7,e6⟩;clear hS7 e1 e2 e3 e4 e5 e6 hK7 HC HO6 HN6 HK6 hw7 hq5;go_wp2_with fail;refine (show Calls _ _ _ _ _ from HNOW.out).mono ?_;rintro e w8 ⟨v8,rfl,ho8,hS8,hK8⟩;rw[xR7] at hS8;have hs7:=HK7.out.size;have HO8:Hid (OPA w8 w.heap.size (.slice ob sl oc) (qA6 nt.cont)):=OPA.keep HO7.out hK8 HN7.out;have HK8:Hid (Kp [] w w8):=HK7.out.trans hK8 (by intro i hi hlt;have:=HS'.out.2.2.2;simp at hi;omega);have hal:(qA6 nt.cont).length≤1000000:=by
  have h1:=HNT.out.1;have h2:(qA6 nt.cont).length≤nt.cont.length:=by
   unfold qA6 qG2;rw[List.length_take];have:=List.length_filter_le (inR ⟨#[]⟩ qS5) nt.cont;omega
  omega
 have HSAME:Hid (Calls prog 18 #[.slice ob sl oc,v8] w8 fun e w'=>e=.returned (.bool true)∧Kp [] w8 w'):=jE8 _ _ _ _ (qA6 nt.cont) w8 HO8.out ho8 hal;have HS8:=zh hS8;obtain⟨ob8,oc8,rfl⟩:=qJ7 ho8;rw[HNT.out.2.1] at HSAME ⊢;clear ho8 hS8 hK8 HNOW HO7 HN7 HK7;go_wp2_with fail;refine (show Calls _ _ _ _ _ from HSAME.out).mono ?_;rintro e w9 ⟨rfl,hK9⟩;have HE:Hid (Shop w9 kc db St (w.heap.size+1) w.heap.size N 1 s'.read emp l' (nx (nk (nx (0+2)) r5.news)) nt∧OPA w9 w.heap.size (.slice ob sl oc) (qA6 nt.cont)∧Kp [] w w9):=by
  have e2:=HS8.out;exact⟨e2.turn hK9 (by simp) (qP4 e2.dev hK9 (by intro k hk;cases hk)) ⟨rfl,rfl,rfl,rfl,rfl,rfl⟩ (hK9.hp e2.hSt) (e2.hM.kp hK9 (by simp)) e2.m4 e2.n1 e2.bg0 e2.kb e2.rd,OPA.keep HO8.out hK9 (by simp),HK8.out.tr hK9⟩
 have hsl0:¬(sl:Int)=0:=by omega
 clear hK9 HSAME HO8 HK8 HS8;go_wp2
 go_ret3
 obtain⟨f1,f2,f3⟩:=HE.out;obtain⟨g1,g2,g3,g4⟩:=HS'.out;exact⟨db,St,w.heap.size+1,w.heap.size,s'.read,l',_,nt,_,rfl,f1,f2,g3,by show s'.bg+1=2;omega,by show s'.N≤10;omega,HNT.out.1,HNT.out.2.2,by omega,by omega,by omega,by omega,by show w.heap.size≤s'.M;rw[g4];omega,f3,HTW.out⟩
theorem jB5(N kc:Nat)(h100:100≤N)(h400:N≤400)(hk1:100≤kc)(hk9:kc≤900)(a:Int)(ha0:-9223372036854775808≤a)(ha1:a≤9223372036854775807)(w:World):
  Calls prog 9 #[.int .i64 N,.int .i64 a] w fun e w'=>∃ db St A C s l wr nw v,e=.returned (.tuple #[.pointer (some ⟨A,0,none⟩),.pointer (some ⟨db,0,none⟩),v])∧Shop w' kc db St A C N 1 s emp l wr nw∧OPA w' w.heap.size v (qA6 nw.cont)∧s.wr=0∧s.bg=2∧s.N≤10∧nw.cont.length≤43∧(⟨qG4,qN1⟩:KV)∈nw.cont∧w.heap.size≤A∧w.heap.size≤C∧w.heap.size≤St∧w.heap.size≤db∧w.heap.size≤s.M∧Kp [] w w':=by
 refine (jB6 N kc h100 h400 hk1 hk9 a ha0 ha1 w).mono ?_;rintro e w' ⟨db,St,A,C,s,l,wr,nw,v,e0,e1,e2,e3,e4,e5,e6,e7,e8,e9,e10,e11,e12,e13,_⟩;exact⟨db,St,A,C,s,l,wr,nw,v,e0,e1,e2,e3,e4,e5,e6,e7,e8,e9,e10,e11,e12,e13⟩
theorem xD4(A n C kc:Nat)(δ:Dvw)(writes:Int)(N rb rs:Int)(r:Root)(w:World)(h:Devn A n C δ writes w)
  (h8:8≤n) (h400:n≤400) (hh:Heads δ.l N rb rs) (hlie:Lie n δ.l rb rs r) (hg:RGood r) (hc:r.cont.length≤kc) (hk:kc≤900) (hN:0≤N):
  Calls prog 16 #[.pointer (some ⟨A,0,none⟩)] w fun e w'=>∃ V M St Db,e=.returned (.tuple #[.pointer (some ⟨Db,0,none⟩),.nilIface])∧w.heap.size≤V∧w.heap.size≤M∧w.heap.size≤St∧w.heap.size≤Db∧Shop w' kc Db St A C n 0 ⟨V,M,N,rb,rs,qC4 r,false,0,0⟩ emp δ.l writes r∧Kp [A,C] w w':=by
 have hA:=h.sA;have hCs:=h.sC;have hs:n*128≤δ.l.length:=qQ2 n δ.ws δ.l0 h.len h.fit;have HO:Hid (∀ D X W,W.heap[D]?=some (.cells #[.iface 23 (.pointer (some ⟨A,0,none⟩))] 129)→W.heap[X]?=some (.cells #[.pointer none] 24)→Devn A n C δ writes W→X≠A→X≠C→
  Calls prog 71 #[.pointer (some ⟨D,0,none⟩),.pointer (some ⟨X,0,none⟩)] W fun e w'=>e=.returned (.tuple #[])∧
   (∃ V M St Db,W.heap.size≤V∧W.heap.size≤M∧W.heap.size≤St∧W.heap.size≤Db∧Devq V A n C δ.l writes w'∧w'.heap[M]?=some (.map #[] 0)∧w'.heap[St]?=some (ν 0 ⟨V,M,N,rb,rs,qC4 r,false,0,0⟩)∧w'.heap[Db]?=some (.cells #[.pointer (some ⟨St,0,none⟩)] 95)∧w'.heap[X]?=some (.cells #[.pointer (some ⟨Db,0,none⟩)] 24))∧Kp [A,C,X] W w'):=fun D X W q1 q2 q3 q5 q6=>jN9 D X A n C δ writes N rb rs r W q1 q2 q3 h8 h400 q5 q6 hh hlie hg (by omega)
 have HE:Hid (∀ W V M St Db,Devq V A n C δ.l writes W→W.heap[M]?=some (.map #[] 0)→W.heap[St]?=some (ν 0 ⟨V,M,N,rb,rs,qC4 r,false,0,0⟩)→W.heap[Db]?=some (.cells #[.pointer (some ⟨St,0,none⟩)] 95)→Shop W kc Db St A C n 0 ⟨V,M,N,rb,rs,qC4 r,false,0,0⟩ emp δ.l writes r):=fun W V M St Db q1 q2 q3 q4=>
  { hDb:=q4,hSt:=q3,po:=rfl,hM:=⟨#[],0,q2,⟨by simp,MapKept.stamped_empty 0,by simp⟩,Nat.le_refl _,rfl⟩,m4:=by simp[emp,Maps.size],n1:=by omega,dev:=q1,N8:=h8,N4:=h400,len:=hs,lie:=hlie,good:=hg,heads:=hh,sz:=hc,kc1:=hk,bl0:=Int.natCast_nonneg _,bl1:=by have:=qQ6 hg;show ((qC4 r:Nat):Int)≤_;omega,sN0:=hN,bg0:=Int.le_refl _,kb:=fun k hk=>by simp[emp,Maps.has] at hk,rd:=fun x h hk=>by simp[emp,Maps.has] at hk }
 clear hh hlie hg hc;have hmf:=zM;go_enter func16,ntmps16
 go_wp2_with (go_at_call 42;go_in)
 obtain⟨W0,hW0,hK0,hs0⟩:∃ W0,W0=(w.alloc (.cells #[.iface 23 (.pointer (some ⟨A,0,none⟩))] 129)).alloc (.cells #[.pointer none] 24)∧Kp [] w W0∧W0.heap.size=w.heap.size+2:=⟨_,rfl,((Kp.refl _ _).alloc _).alloc _,by simp⟩;have hD0:W0.heap[w.heap.size]?=some (.cells #[.iface 23 (.pointer (some ⟨A,0,none⟩))] 129):=by rw[hW0];exact θ _ (μ _ _)
 have hX0:W0.heap[w.heap.size+1]?=some (.cells #[.pointer none] 24):=by
  rw[hW0];have e:=μ (w.alloc (.cells #[.iface 23 (.pointer (some ⟨A,0,none⟩))] 129)) (.cells #[.pointer none] 24);simpa using e
 rw[←hW0];clear hW0;have hA0:=h.keep0 hK0;refine (qV8 71 _ _ _ (fun w'=>(∃ V M St Db,W0.heap.size+2≤V∧W0.heap.size+2≤M∧W0.heap.size+2≤St∧W0.heap.size+2≤Db∧Devq V A n C δ.l writes w'∧w'.heap[M]?=some (.map #[] 0)∧w'.heap[St]?=some (ν 0 ⟨V,M,N,rb,rs,qC4 r,false,0,0⟩)∧w'.heap[Db]?=some (.cells #[.pointer (some ⟨St,0,none⟩)] 95)∧w'.heap[w.heap.size+1]?=some (.cells #[.pointer (some ⟨Db,0,none⟩)] 24))∧Kp [A,C] w w') (fun W=>zS6 _ W) ?_).mono ?_
 ·refine (HO.out w.heap.size (w.heap.size+1) _ (θ _ (θ _ hD0)) (θ _ (θ _ hX0)) (hA0.keep0 (((Kp.refl [] _).alloc _).alloc _)) (by omega) (by omega)).mono ?_;rintro e w1 ⟨rfl,⟨V,M,St,Db,hV,hM,hSt,hDb,r⟩,hK1⟩;refine⟨rfl,⟨⟨V,M,St,Db,by simpa using hV,by simpa using hM,by simpa using hSt,by simpa using hDb,r⟩,(((hK0.mono (S':=[A,C]) (by simp)).alloc _).alloc _).trans hK1 (by intro i hi hlt;simp at hi ⊢;omega)⟩,hK1.heap ?_ (by simp;omega)⟩;have e:=μ (W0.alloc (.cells #[.string ⟨#[79,112,101,110]⟩] 9)) (.cells #[.nilIface] 35);simpa using e
 rintro e w2 ⟨rfl,w1,⟨⟨V,M,St,Db,hV,hM,hSt,hDb,r1,rm,r2,r3,r4⟩,hK1⟩,rfl⟩;have x0:=ξ r4 0;simp at x0;go_wp2
 go_ret2
 obtain⟨ca,hAd⟩:=r1.hA;exact⟨V,M,St,Db,rfl,by omega,by omega,by omega,by omega,HE.out _ V M St Db ⟨(qA9 (by omega) _ _).trans r1.hV,⟨ca,(qA9 (by omega) _ _).trans hAd⟩,(qA9 (by omega) _ _).trans r1.hC⟩ ((qA9 (by omega) _ _).trans rm) ((qA9 (by omega) _ _).trans r2) ((qA9 (by omega) _ _).trans r3),hK1.setCell (Or.inr (by simp;omega)) _⟩
theorem jO1(A n C kc:Nat)(calls writes:Int)(l:List UInt8)(N rb rs:Int)(r:Root)(w:World)(h:w.heap[A]?=some (qA8 (l.length / 128) n C (.slice none 0 0) calls writes))
  (h8:8≤n) (h400:n≤400) (hC:w.heap[C]?=some (.cells (enc l) 87)) (hs:n*128≤l.length) (hh:Heads l N rb rs) (hlie:Lie n l rb rs r) (hg:RGood r) (hc:r.cont.length≤kc) (hk:kc≤900) (hN:0≤N):
  Calls prog 16 #[.pointer (some ⟨A,0,none⟩)] w fun e w'=>∃ V M St Db,e=.returned (.tuple #[.pointer (some ⟨Db,0,none⟩),.nilIface])∧w.heap.size≤V∧w.heap.size≤M∧w.heap.size≤St∧w.heap.size≤Db∧Shop w' kc Db St A C n 0 ⟨V,M,N,rb,rs,qC4 r,false,0,0⟩ emp l writes r∧Kp [A,C] w w':=
 xD4 A n C kc _ writes N rb rs r w (Devn.new h hC hs (by omega)) h8 h400 hh hlie hg hc hk hN
variable {κ:Nat}
section
variable {w:World} {kc db St A C N nM:Nat} {s:Sto} {D:DataW Unit} {l:List UInt8} {wr:Int} {nw:Root}
theorem Shop.more(hS:Shop w kc db St A C N nM s D l wr nw){w':World}(hK:Kp [] w w'):Shop w' kc db St A C N nM s D l wr nw:=
 hS.turn hK (by simp) (qP4 hS.dev hK (by intro k hk;cases hk)) ⟨rfl,rfl,rfl,rfl,rfl,rfl⟩ (hK.hp hS.hSt) (hS.hM.kp hK (by simp)) hS.m4 hS.n1 hS.bg0 hS.kb hS.rd
end
theorem xV8(A n C:Nat)(calls writes:Int)(l:List UInt8)(N rb rs:Int)(r:Root)(w:World)(h:w.heap[A]?=some (qA8 (l.length / 128) n C (.slice none 0 0) calls writes))
  (h8:8≤n) (h400:n≤400) (hC:w.heap[C]?=some (.cells (enc l) 87)) (hs:n*128≤l.length)  (hh:Heads l N rb rs) (hlie:Lie n l rb rs r) (hg:RGood r) (hc:r.cont.length≤300) (hN:0≤N):
  Calls prog 19 #[.pointer (some ⟨A,0,none⟩)] w fun e w'=>∃ v,e=.returned (.tuple #[v,.bool true])∧OPA w' w.heap.size v (qA6 r.cont)∧Kp [A,C] w w':=by
 have HO:Hid (Calls prog 16 #[.pointer (some ⟨A,0,none⟩)] w fun e w'=>∃ V M St Db,e=.returned (.tuple #[.pointer (some ⟨Db,0,none⟩),.nilIface])∧w.heap.size≤V∧w.heap.size≤M∧w.heap.size≤St∧w.heap.size≤Db∧Shop w' 300 Db St A C n 0 ⟨V,M,N,rb,rs,qC4 r,false,0,0⟩ emp l writes r∧Kp [A,C] w w'):=jO1 A n C 300 calls writes l N rb rs r w h h8 h400 hC hs hh hlie hg hc (by omega) hN;have hAs:=ζ h;have hCs:=ζ hC;clear h hC hh hlie hg;go_enter func19,ntmps19;go_wp2_with fail;refine (show Calls _ _ _ _ _ from HO.out).mono ?_;rintro e w1 ⟨V,M,St,Db,rfl,hV,hM,hSt,hDb,hS1,hK1⟩;have HN:Hid (Calls prog 17 #[.pointer (some ⟨Db,0,none⟩)] w1 fun e w'=>∃ v,e=.returned (.tuple #[v,.bool true])∧OPA w' w1.heap.size v (qA6 r.cont)∧Kp [St,M,A] w1 w'):=by
  refine (zI2 hS1 (by show 0<4;omega) (by omega) (by show (0:Int)≤_;omega) (by show (0:Int)≤0;omega)).mono ?_;rintro e w' ⟨v,e1,e2,e3,e4⟩;exact⟨v,e1,e2,e4⟩
 have HK1:=zh hK1;have hs1:=hK1.size;clear hS1 hK1 HO;go_wp2_with fail;refine (show Calls _ _ _ _ _ from HN.out).mono ?_;rintro e w2 ⟨v,rfl,ho,hK2⟩;have HE:Hid (OPA w2 w.heap.size v (qA6 r.cont)∧Kp [A,C] w w2):=⟨qH4 ho (by omega),HK1.out.trans hK2 (by intro i hi hlt;simp at hi ⊢;omega)⟩;clear ho hK2 HN HK1;go_wp2
 go_ret2
 exact⟨v,rfl,HE.out⟩
theorem zT2(St:Nat)(s:Sto)(h:HL)(w:World)(hSt:w.heap[St]?=some (ν 1 s))
  (heq:∀ W:World,Sem.run prog (Op.equalIn 10000 83 (τ s.V h) (τ s.V ⟨⟨#[]⟩,s.rb,s.rs,none⟩)) W=.ok true W):
  Calls prog 41 #[.pointer (some ⟨St,0,none⟩),τ s.V h] w fun e w'=>e=.returned (.tuple #[])∧Kp [] w w':=by
 have HS:=zh hSt;clear hSt;rw[τ,show τ s.V ⟨⟨#[]⟩,s.rb,s.rs,none⟩=.agg #[.pointer (some ⟨s.V,0,none⟩),.string ⟨#[]⟩,.int .i64 s.rb,.int .u64 s.rs,.pointer none] from rfl] at heq;rw[τ];go_enter func41,ntmps41;go_wp2_with fail;obtain⟨w0,hw0,hT0,hK0,hs0'⟩:=qE8 w (.cells #[.pointer (some ⟨s.V,0,none⟩),.string h.key,.int .i64 h.b,.int .u64 h.s,.pointer h.ptr] 83);rw[←hw0];clear hw0;refine (zB9 St 1 s w0 (hK0.hp HS.out)).mono ?_;rintro e w1 ⟨rfl,hK1⟩;rw[show τ s.V ⟨⟨#[]⟩,s.rb,s.rs,none⟩=.agg #[.pointer (some ⟨s.V,0,none⟩),.string ⟨#[]⟩,.int .i64 s.rb,.int .u64 s.rs,.pointer none] from rfl];have hT1:=hK1.hp hT0;have hT1s:=ζ hT1;have t:=ξ hT1;have HK1:Hid (Kp [] w w1):=hK0.tr hK1;clear hK0 hK1 hT0 hT1;go_wp2;refine bodyPost_ret (results_none results41 _ _ _) rfl ?_;exact⟨rfl,HK1.out.alloc _⟩
section
variable {w:World} {kc db St A C N nM:Nat} {s:Sto} {D:DataW Unit} {l:List UInt8} {wr:Int} {nw:Root}
theorem LiveT.lie{E':SEnv}{x:Nat}{t:Tx}{r:Root}{hN:N≤1000}{hs:N*128≤l.length}(hL:LiveT (EQ s.V A N C l wr hN hs) w x A N t s r)(hp:t.h.p=none):Lie N l t.h.b t.h.s r:=by
 have hr:=hL.rr
 cases r with
 | none=>rw[show t.h=_ from hr];exact⟨rfl,rfl⟩
 | «at» n L=>
  have h2:=hr.2
  cases hx:L.ref with
  | none=>
   rw[hx] at h2;obtain⟨_,_,q,e,_⟩:=h2;rw[hp] at e;cases e
  | some x=>
   rw[hx] at h2;obtain⟨e1,e2,_,e4⟩:=h2;refine⟨x.1,e1,?_,?_⟩
   ·rw[hx,e2]
   ·rw[e2];exact e4
end
section
variable {κ:Kd} {w w0:World} {kc db St A C N nM base:Nat} {s:Sto} {D:DataW Unit} {l:List UInt8} {wr:Int} {nw:Root}
theorem Heads.mixed{N:Nat}{l l2:List UInt8}{n rb rs:Int}(h:Heads l n rb rs)(hN:2≤N)(hm:Mixed N l [] l2):Heads l2 n rb rs:=h.move fun k hk=>hm.oth k (by omega) (by simp)
theorem Lie.mixed{N:Nat}{l l2:List UInt8}{rb rs:Int}{r:Root}(h:Lie N l rb rs r)(hm:Mixed N l [] l2):Lie N l2 rb rs r:=h.move fun k hk=>hm.oth k (h.lt k hk) (by simp)
def Cuts(V A N C kc:Nat)(n:Int)(a b:List KV)(o:Res)(w:World):Prop:=
 ∃ κ' bb l1 ws1 wr',Dk κ' V A N C bb l1 ws1 wr' w∧(∀ l2,Mixed N l1 ws1 l2→qN7 N kc l2 n a b)∧(o=.ok→∀ l2,Mixed N l1 ws1 l2→qN7 N kc l2 n b b)
theorem Shop.cuts(hS:Shop w0 kc db St A C N nM s D l wr nw){x:Nat}{t:Tx}{r:Root}(hL:LiveT hS.E w0 x A N t s r)(hKA:Kp [A] w0 w)(hd:Dk κ s.V A N C base l [] wr w)(hst:t.St=St)(hwr:t.wrt=true)(h0:0≤t.nr)(h1:t.nr≤1000000000)(hrk:r.cont.length≤kc)(hN9:s.N≤999999999)
  (hfit:qC4 r+r.news+Maps.size D*kc+qC4 nw+2≤N):
  Calls prog 14 #[.pointer (some ⟨x,0,none⟩)] w fun e w'=>∃ o v,e=.returned v∧ErrE w' v o∧Kp [St,x,s.M,A,C] w w'∧Cuts s.V A N C kc s.N nw.cont r.cont o w':=by
 have htd:=hS.hM.tidy qO0;have hsd:=Maps.size_del (k:=ι t.nr) htd;have hle:Maps.size (D.del (ι t.nr))≤Maps.size D:=by omega
 have hdl:∀ k,Maps.has (D.del (ι t.nr)) k=true→Maps.has D k=true∧∀ zd,(D.del (ι t.nr)).atKey k zd=D.atKey k zd:=fun k hk=>by
  by_cases e:k=ι t.nr
  ·rw[e,Maps.has_del_same] at hk;cases hk
  ·rw[Maps.has_del_other e] at hk;exact⟨hk,fun zd=>Maps.atKey_del_other e zd⟩
 have hN8:=hS.N8;have hgo:(∀ W:World,Sem.run prog (Op.equalIn 10000 83 (τ s.V t.h) (τ s.V ⟨⟨#[]⟩,s.rb,s.rs,none⟩)) W=.ok false W)→Calls prog 14 #[.pointer (some ⟨x,0,none⟩)] w fun e w'=>∃ o v,e=.returned v∧ErrE w' v o∧Kp [St,x,s.M,A,C] w w'∧Cuts s.V A N C kc s.N nw.cont r.cont o w':=fun heq=>by
  refine (zM1 hS x t r hL hKA hd hst hwr h0 h1 heq hrk hN9 hdl (by have:=hS.m4;omega) (by have:=Nat.mul_le_mul_right kc hle;omega)).mono ?_;rintro e w' ⟨o,v,rfl,hv,hx,hK,hE⟩;refine⟨o,v,rfl,hv,hK,?_⟩
  cases o with
  | no k=>exact hE.elim
  | io=>
   obtain⟨_,_,l1,ws1,b,k,e1,_,e2⟩:=hE;exact⟨_,b,l1,ws1,_,e1,e2,fun h=>by cases h⟩
  | ok=>
   obtain⟨s',l',nt,b,_,e2,e3,e4,e5,e6,e7,e8,_⟩:=hE;have hh:∀ a l2,Mixed N l' [] l2→qN7 N kc l2 s.N a r.cont:=fun a l2 hm=>⟨_,_,_,nt,e3.mixed (by omega) hm,e4.mixed hm,e5,.inr e6,by rw[e6];exact hrk,by omega,by omega⟩;exact⟨_,b,l',[],_,e2,hh _,fun _=>hh _⟩
 cases hp:t.h.p with
 | some q=>exact hgo (fun W=>zM9 s.V q t.h s.rb s.rs hp hL.key W)
 | none=>
  by_cases he:t.h.b=s.rb∧t.h.s=s.rs
  ·have heq:∀ W:World,Sem.run prog (Op.equalIn 10000 83 (τ s.V t.h) (τ s.V ⟨⟨#[]⟩,s.rb,s.rs,none⟩)) W=.ok true W:=fun W=>by rw[zE1 s.V t.h s.rb s.rs hp hL.key W];simp[he]
   have hlie:Lie N l s.rb s.rs r:=by
    have h:=LiveT.lie (E':=hS.E) hL hp;rw[he.1,he.2] at h;exact h
   have hc:=(Lie.one hS.N1 hS.lie hlie).1;subst hst;obtain⟨cA,hA⟩:=hS.hA;have hMS:s.M≠t.St:=(qE0 hS.hSt hS.hM).symm;have hxM:x≠s.M:=qE0 hL.hx hS.hM;have hxw:=hKA.heap hL.hx (by simpa using qB7 hL.hx hA (by decide));have hStw:=hKA.heap hS.hSt (by simpa using qB7 hS.hSt hA (by decide));have hMw:=hS.hM.kp hKA (by simpa using (qE0 hA hS.hM).symm);have hoff:qS1 w [t.St,x,s.M]:=fun k hk c ty fr e=>by
    simp only[List.mem_cons,List.not_mem_nil,or_false] at hk;rcases hk with rfl|rfl|rfl
    ·rw[hStw] at e;cases e;decide
    ·rw[hxw] at e;cases e;decide
    ·exact absurd rfl (qE0 e hMw)
   refine (xG1 x nM s.V t s D [] (fun W w1=>Kp [] W w1) w hxw hL.over hStw hS.po hMw h0 h1 hMS hL.xS hxM hMw.lt hL.on hwr (by simp) ?_).mono ?_
   ·intro W hK hx' hS' hM';refine (zT2 t.St (s.left t.nr) t.h W hS' heq).mono ?_;rintro e w1 ⟨rfl,hK1⟩;exact⟨rfl,⟨_,hK1.hp hS'⟩,hK1,hK1.mono (by simp)⟩
   ·rintro e w' ⟨rfl,hKw,W,w1,B,s',hK,hx',hS',hM',hR,_,hs1,hs2,hB0,hB1,hKB⟩;have hoB:qS1 w1 [t.St,B]:=fun k hk c ty fr e=>by
     simp only[List.mem_cons,List.not_mem_nil,or_false] at hk;rcases hk with rfl|rfl
     ·rw[hs1] at e;cases e;decide
     ·rw[hB1] at e;cases e;decide
    have hh:∀ a l2,Mixed N l [] l2→qN7 N kc l2 s.N a r.cont:=fun a l2 hm=>⟨_,_,_,nw,hS.heads.mixed (by omega) hm,hS.lie.mixed hm,hS.good,.inr hc,hS.sz,by omega,by omega⟩;exact⟨.ok,_,rfl,rfl,hKw.mono (by intro i hi _;simp at hi ⊢;omega),_,_,l,[],_,((hd.keep hK hoff).keep0 hR).keep hKB hoB,hh _,fun _=>hh _⟩
  ·exact hgo (fun W=>by rw[zE1 s.V t.h s.rb s.rs hp hL.key W];simp[he])
end
theorem zB4(ba bb:Nat)(va vb:Value)(ps qs:List KV)(w:World)(ha:OPA w ba va ps)(hb:OPA w bb vb qs)(hn:ps.length≤1000000):
  Calls prog 18 #[va,vb] w fun e w'=>e=.returned (.bool (decide (ps=qs)))∧Kp [] w w':=by
 have sa:=qF7 ha;have sb:=qF7 hb;obtain⟨abs,acp,rfl⟩:=qJ7 ha;obtain⟨bbs,bcp,rfl⟩:=qJ7 hb;by_cases hll:ps.length=qs.length
 ·obtain⟨ln,hln⟩:∃ ln,ln=ps.length:=⟨_,rfl⟩;have HA:Hid (Slc w 64 2 (.slice abs ln acp) ps.length (qB0 ps)):=by rw[hln];exact sa
  have HB:Hid (Slc w 64 2 (.slice bbs ln bcp) qs.length (qB0 qs)):=by rw[hln,hll];exact sb
  have HLN:Hid (ln=ps.length∧ln=qs.length):=⟨hln,hln.trans hll⟩;rw[←hll,←hln];rw[←hln] at hn;clear ha hb sa sb hln hll;go_enter func18,ntmps18;go_wp2_with fail
  go_loopw [5] (fun i wr=>∃ (j:Nat),j≤ln∧i=.int .i64 j∧Hid (ps.take j=qs.take j)∧Hid (Kp [] w wr)) (fun i _=>ln-(intOf i).toNat)
  case atStart=>exact⟨0,Nat.zero_le _,rfl,rfl,Kp.refl _ _⟩
  case round=>
   obtain⟨j,hj,rfl,HT,HK⟩:=hrel;by_cases hlt:j<ln
   ·have hjb:(j:Int)<(ln:Int):=by omega
    have hjp:j<ps.length:=by have:=HLN.out;omega
    have hjq:j<qs.length:=by have:=HLN.out;omega
    obtain⟨ga,oa,ca,cua,fra,e1,e2,e3,e4⟩:=(HA.out.keep0 HK.out).pairT (by omega);obtain⟨gb,ob,cb,cub,frb,f1,f2,f3,f4⟩:=(HB.out.keep0 HK.out).pairT (by omega);simp only[Value.slice.injEq] at e1 f1;obtain⟨rfl,_,rfl⟩:=e1;obtain⟨rfl,_,rfl⟩:=f1;have a0:=ξ e3 (oa+j*2);rw[(e4 j hjp).1] at a0;have a1:=ξ e3 (oa+j*2+1);rw[(e4 j hjp).2] at a1;have b0:=ξ f3 (ob+j*2);rw[(f4 j hjq).1] at b0;have b1:=ξ f3 (ob+j*2+1);rw[(f4 j hjq).2] at b1;have hga:=ζ e3;have hgb:=ζ f3;have HNX:Hid (ps[j]=qs[j]→ps.take (j+1)=qs.take (j+1)):=fun h=>by rw[List.take_succ_eq_append_getElem hjp,List.take_succ_eq_append_getElem hjq,HT.out,h]
    have HNE:Hid (ps[j]≠qs[j]→ps≠qs):=fun h e=>h (by subst e;rfl);generalize ps[j]=x at a0 a1 HNX HNE;generalize qs[j]=y at b0 b1 HNX HNE;clear e3 f3 e4 f4;by_cases hxy:x=y
    ·subst hxy;have HT2:=Hid.mk' (HNX.out rfl);clear HNX HNE;go_wp2_with fail
     go_quiet (fail)
     go_wp2;exact⟨⟨j+1,by omega,by go_num,HT2,HK.out.trans ((Kp.refl [] _).drewN _) (by simp)⟩,by simp[intOf];omega⟩
    ·have HF:Hid (decide (ps=qs)=false):=decide_eq_false (HNE.out hxy);have hkv:(x.k.toList == y.k.toList)=false∨((x.k.toList == y.k.toList)=true∧(x.v.toList == y.v.toList)=false):=by
      by_cases e:x.k=y.k
      ·refine .inr ⟨by rw[qU9];simpa using e,?_⟩;rw[qU9];have:x.v≠y.v:=fun e2=>hxy (by cases x;cases y;simp only at e e2;rw[e,e2]);simpa using this
      ·exact .inl (by rw[qU9];simpa using e)
     clear HNX HNE hxy;rcases hkv with h1|⟨h1,h2⟩
     all_goals
      go_wp2_with fail
      go_quiet (fail)
      go_wp2;go_ret;exact⟨by rw[HF.out];rfl,HK.out.trans ((Kp.refl [] _).drewN _) (by simp)⟩
   ·have hjb:¬(j:Int)<(ln:Int):=by omega
    have HF:Hid (decide (ps=qs)=true):=by
     refine decide_eq_true ?_;have h:=HT.out;rw[List.take_of_length_le (by have:=HLN.out;omega),List.take_of_length_le (by have:=HLN.out;omega)] at h;exact h
    go_wp2;go_ret;exact⟨by rw[HF.out];rfl,HK.out⟩
 ·have hf:decide (ps=qs)=false:=decide_eq_false (fun e=>hll (by rw[e]));have HF:=zh hf;obtain⟨l1,hl1⟩:∃ l1,l1=ps.length:=⟨_,rfl⟩;obtain⟨l2,hl2⟩:∃ l2,l2=qs.length:=⟨_,rfl⟩;rw[←hl1,←hl2] at hll;rw[←hl1,←hl2];have hne:¬(l1:Int)=(l2:Int):=by omega
  clear ha hb sa sb hl1 hl2 hll hf;go_enter func18,ntmps18;go_wp2;go_ret;exact⟨by rw[HF.out];rfl,Kp.refl _ _⟩
theorem Dk.tells{κ κ':Kd}{V A N C base:Nat}{l:List UInt8}{ws:List (Nat × List UInt8)}{wr:Int}{w w':World}(h:Dk κ V A N C base l ws wr w)(hg:Gl w)(hK:Kp [A] w w'){v:Value}{calls:Int}(h0:w.heap[A]?=some (qC1 κ N C v calls wr))(h1:w'.heap[A]?=some (qC1 κ' N C v calls wr)):Dk κ' V A N C base l ws wr w':=by
 obtain⟨v0,c0,g1,g2,g3⟩:=h.hA;have e:=h0.symm.trans g1;simp[qC1] at e;obtain⟨rfl,rfl⟩:=e;exact⟨hK.heap h.hV (by simpa using h.VA),⟨v,calls,h1,zC2 g2 g1 hK,g3⟩,hK.heap h.hC (by simpa using h.AC),.inr (hg.keep hK (fun k hk c t fr e hm=>by rw[List.mem_singleton.1 hk,g1] at e;cases e;revert hm;decide)),Nat.le_trans h.low hK.size,h.fit,h.wl,h.len,h.N1⟩
theorem jJ6{κ:Kd}{V A N C base:Nat}{l:List UInt8}{ws:List (Nat × List UInt8)}{wr:Int}{w:World}(h:Dk κ V A N C base l ws wr w)(hg:Gl w)(n:Int):
  Calls prog 13 #[.pointer (some ⟨A,0,none⟩),.int .i64 n] w fun e w'=>e=.returned (.tuple #[])∧Kp [A] w w'∧∃ κ',Dk κ' V A N C base l ws wr w':=by
 obtain⟨v,calls,hA,_⟩:=h.hA;have HD:Hid (Dk κ V A N C base l ws wr w∧Gl w∧w.heap[A]?=some (qC1 κ N C v calls wr)):=⟨h,hg,hA⟩;have c2:=ξ hA 2;have c5:=ξ hA 5;simp at c2 c5;have f5:=ψ hA 5;clear h hg hA;go_enter func13,ntmps13;go_wp2
 go_end0
 obtain⟨h,hg,hA⟩:=HD.out;have hK:Kp [A] w (w.setCell ⟨A,5,none⟩ (.int .i64 (wrap64 (calls+n)))):=(Kp.refl _ _).sc _;exact⟨rfl,hK,⟨κ.cap,κ.told,wrap64 (calls+n),κ.fr,κ.to⟩,h.tells hg hK hA (φ hA 5 _)⟩
theorem jT5(n:Int)(v:DataW Unit):Maps.size ((emp.put (ι n) v).del (ι n))=0:=by
 have hem:Maps.Tidy emp:=⟨[],rfl,List.Pairwise.nil⟩;have h1:=Maps.size_put (k:=ι n) hem v;rw[if_neg (by simp[emp,Maps.has])] at h1;have ht:Maps.Tidy (emp.put (ι n) v):=by
  first | exact Maps.Tidy.put hem _ _ | exact hem.put (ι n) v | exact⟨[(ι n,v)],rfl,List.pairwise_singleton _ _⟩
 have h2:=Maps.size_del (k:=ι n) ht;rw[if_pos (Maps.has_put_same hem.isMap (show WideAt.IsKeyLit (ι _) from trivial) v)] at h2;have h3:Maps.size emp=0:=by simp[emp,Maps.size]
 omega
theorem Cuts.lies{V A N C kc:Nat}{n:Int}{a b:List KV}{o:Res}{w:World}(h:Cuts V A N C kc n a b o w):∃ κ' bb l1 ws1 wr',Dk κ' V A N C bb l1 ws1 wr' w∧∀ l2,Mixed N l1 ws1 l2→∃ N' rb' rs' rr,Heads l2 N' rb' rs'∧Lie N l2 rb' rs' rr∧RGood rr∧(rr.cont=a∨rr.cont=b)∧(o=.ok→rr.cont=b)∧rr.cont.length≤kc∧n≤N'∧N'≤n+2:=by
 obtain⟨κ',bb,l1,ws1,wr',h1,h2,h3⟩:=h;refine⟨κ',bb,l1,ws1,wr',h1,fun l2 hm=>?_⟩
 cases o with
 | ok=>
  obtain⟨N',rb',rs',rr,e1,e2,e3,e4,e5⟩:=h3 rfl l2 hm;have e4:rr.cont=b:=by simpa using e4
  exact⟨N',rb',rs',rr,e1,e2,e3,.inr e4,fun _=>e4,e5⟩
 | no k=>
  obtain⟨N',rb',rs',rr,e1,e2,e3,e4,e5⟩:=h2 l2 hm;exact⟨N',rb',rs',rr,e1,e2,e3,e4,fun h=>(by cases h),e5⟩
 | io=>
  obtain⟨N',rb',rs',rr,e1,e2,e3,e4,e5⟩:=h2 l2 hm;exact⟨N',rb',rs',rr,e1,e2,e3,e4,fun h=>(by cases h),e5⟩
end Go.Proofs.YtdohpenfkdckiabGreatDoor
namespace Go.Proofs.YtdohpenfkdckiabGreatDoor
open Go.Proofs.Tryz
open Go.RowKit Go.MuLone
theorem xJ9(S F St:Nat)(s:Sto)(w:World)(hS:w.heap[S]?=some (.cells #[.pointer (some ⟨St,0,none⟩)] 74))(hSt:w.heap[St]?=some (ν 1 s))(hpo:s.po=true):
  Calls prog 83 #[.pointer (some ⟨S,0,none⟩),.pointer (some ⟨F,0,none⟩)] w fun e w'=>e=qC6 (some 7)∧w'=w:=by
 have s0:=ξ hS 0;have p7:=ξ hSt 7;simp[hpo] at s0 p7;clear hS hSt;go_enter func83,ntmps83;go_wp2;exact⟨rfl,rfl,rfl,rfl⟩
theorem zP0(St f:Nat)(s:Sto)(first cap:Array Value)(call:ByteArray)(w:World)(hSt:w.heap[St]?=some (ν 0 s))(hpo:s.po=true):
  Calls prog 44 #[.pointer (some ⟨St,0,none⟩),.string call,.func (.func f) first cap] w fun e w'=>∃ v,e=.returned v∧qI6 w' v (some 7)∧w'.heap[St]?=some (ν 0 s)∧Kp [St] w w':=by
 have hmf:=zM;have HPO:=zh hpo;clear hpo;have hSs:=ζ hSt
 go_enter_defers func44,ntmps44
 go_wp2_with fail;refine (lock_free qO3 ⟨St,0,none⟩ _ (ξ (θ _ (θ _ hSt)) 0) (ψ (θ _ (θ _ hSt)) 0)).mono ?_;rintro e W0 ⟨rfl,rfl⟩;obtain⟨W0,hW0,hK0,hs0,hB0,hF0,hSt0⟩:∃ W0,W0=((w.alloc (.cells #[.pointer (some ⟨St,0,none⟩)] 74)).alloc (.cells #[.func (Fn.func f) first cap] 1)).setCell ⟨St,0,none⟩ (.int .i32 1)∧Kp [St] w W0∧W0.heap.size=w.heap.size+2∧W0.heap[w.heap.size]?=some (.cells #[.pointer (some ⟨St,0,none⟩)] 74)∧W0.heap[w.heap.size+1]?=some (.cells #[.func (Fn.func f) first cap] 1)∧W0.heap[St]?=some (ν 1 s):=by
  refine⟨_,rfl,((((Kp.refl _ _).alloc _).alloc _).sc _),by simp[World.setCell],?_,?_,?_⟩
  ·exact (qA9 (by omega) _ _).trans (θ _ (μ _ _))
  ·refine (qA9 (by omega) _ _).trans ?_;have e:=μ (w.alloc (.cells #[.pointer (some ⟨St,0,none⟩)] 74)) (.cells #[.func (Fn.func f) first cap] 1);simpa using e
  ·exact φ (θ _ (θ _ hSt)) 0 _
 rw[←hW0];clear hW0;have b0:=ξ hB0 0;simp at b0;go_wp2_with fail;obtain⟨Wc,hWc,hKc,hsc,hBc,hFc,hStc,hEc,hCc⟩:∃ Wc,Wc=(W0.alloc (.cells #[.string call] 9)).alloc (.cells #[.nilIface] 35)∧Kp [St] w Wc∧Wc.heap.size=w.heap.size+4∧Wc.heap[w.heap.size]?=some (.cells #[.pointer (some ⟨St,0,none⟩)] 74)∧Wc.heap[w.heap.size+1]?=some (.cells #[.func (Fn.func f) first cap] 1)∧Wc.heap[St]?=some (ν 1 s)∧Wc.heap[W0.heap.size+1]?=some (.cells #[.nilIface] 35)∧Wc.heap[W0.heap.size]?=some (.cells #[.string call] 9):=by
  refine⟨_,rfl,(hK0.alloc _).alloc _,by simp[hs0],θ _ (θ _ hB0),θ _ (θ _ hF0),θ _ (θ _ hSt0),?_,θ _ (μ _ _)⟩;have e:=μ (W0.alloc (.cells #[.string call] 9)) (.cells #[.nilIface] 35);simpa using e
 have HA1:Hid (Calls prog 83 #[.pointer (some ⟨w.heap.size,0,none⟩),.pointer (some ⟨w.heap.size+1,0,none⟩)] Wc fun e w1=>e=qC6 (some 7)∧w1=Wc):=xJ9 w.heap.size (w.heap.size+1) St s Wc hBc hStc HPO.out;refine (zS5 83 _ _ 7 _ (fun w1=>w1=Wc) (qV9 _) ?_).mono ?_
 ·rw[←hWc];refine (show Calls _ _ _ _ _ from HA1.out).mono ?_;rintro e w1 ⟨rfl,rfl⟩;exact⟨rfl,rfl,hEc,hCc⟩
 rintro e w2 ⟨F,rfl,hF2,w1,rfl,hFs,hKc2⟩;have hst:=hStc;have hst2:w2.heap[St]?=some (ν 1 s):=hKc2.ho hst;have hK2:Kp [St] w w2:=hKc.trans hKc2 (by intro i hi hlt;simp at hi;omega);have HIS:Hid (Calls prog 84 #[.iface 180 (.pointer (some ⟨F,0,none⟩)),.iface 46 (.int .i64 8)] w2 fun e w'=>e=.returned (.bool false)∧w'=w2):=zH8 F _ 7 w2 (by decide) hF2;have hFSt:St<F:=by have:=ζ hst;omega
 go_wp2_with (go_at_call 84;refine (show Calls _ _ _ _ _ from HIS.out).mono ?_;rintro e w' ⟨rfl,rfl⟩)
 refine leaves_cons (f:=82) (args:=#[.pointer (some ⟨St,0,none⟩)]) (by simp) (by simp[go_sem]) ?_;refine (unlock_deferred qO3 ⟨St,0,none⟩ .returning _ (ξ hst2 0) (ψ hst2 0)).mono ?_;rintro e u' w'' ⟨rfl,rfl,rfl⟩;exact⟨_,results_tmp rfl _ _ _,.iface 180 (.pointer (some ⟨F,0,none⟩)),rfl,⟨F,_,rfl,(qA9 (by omega) _ _).trans hF2⟩,φ hst2 0 _,hK2.sc _⟩
theorem xX7(x St f:Nat)(t:Tx)(s:Sto)(first cap:Array Value)(call:ByteArray)(w:World)(hx:w.heap[x]?=some (qA3 t))(htS:t.St=St)(hSt:w.heap[St]?=some (ν 0 s))(hpo:s.po=true):
  Calls prog 38 #[.pointer (some ⟨x,0,none⟩),.string call,.func (.func f) first cap] w fun e w'=>∃ v,e=.returned v∧qI6 w' v (some 7)∧w'.heap[St]?=some (ν 0 s)∧Kp [St] w w':=by
 have hmf:=zM;have HPO:=zh hpo;clear hpo;have hSs:=ζ hSt;have hxs:=ζ hx;subst htS;have d0:=ξ (θ (.cells #[.func (Fn.func f) first cap] 1) (θ (.cells #[.pointer (some ⟨x,0,none⟩)] 29) hx)) 0;simp only[zG,zH] at d0;go_enter func38,ntmps38;go_wp2_with fail;obtain⟨W0,hW0,hK0,hs0,hB0,hF0⟩:∃ W0,W0=(w.alloc (.cells #[.pointer (some ⟨x,0,none⟩)] 29)).alloc (.cells #[.func (Fn.func f) first cap] 1)∧Kp [] w W0∧W0.heap.size=w.heap.size+2∧W0.heap[w.heap.size]?=some (.cells #[.pointer (some ⟨x,0,none⟩)] 29)∧W0.heap[w.heap.size+1]?=some (.cells #[.func (Fn.func f) first cap] 1):=by
  refine⟨_,rfl,((Kp.refl _ _).alloc _).alloc _,by simp,θ _ (μ _ _),?_⟩;have e:=μ (w.alloc (.cells #[.pointer (some ⟨x,0,none⟩)] 29)) (.cells #[.func (Fn.func f) first cap] 1);simpa using e
 rw[←hW0];clear hW0;have hSt0:=hK0.hp hSt;refine (zP0 t.St 64 s #[] #[.pointer (some ⟨w.heap.size,0,none⟩),.pointer (some ⟨w.heap.size+1,0,none⟩)] _ W0 hSt0 HPO.out).mono ?_;rintro e w2 ⟨v,rfl,hv,hSt2,hK2⟩;have HV:=zh hv;clear hv;go_wp2;go_ret;exact⟨v,rfl,HV.out,hSt2,(hK0.mono (S':=[t.St]) (by simp)).trans hK2 (fun _ h _=>h)⟩
theorem xL8(Db St:Nat)(wrt:Bool)(s:Sto)(w:World)(hD:w.heap[Db]?=some (.cells #[.pointer (some ⟨St,0,none⟩)] 95))(hSt:w.heap[St]?=some (ν 0 s))(hpo:s.po=true):
  Calls prog 22 #[.pointer (some ⟨Db,0,none⟩),.bool wrt] w fun e w'=>∃ v,e=.returned (.tuple #[.pointer none,v])∧qI6 w' v (some 7)∧w'.heap[St]?=some (ν 0 s)∧Kp [St] w w':=by
 have HPO:=zh hpo;clear hpo;have hmf:=zM;have hDs:=ζ hD;have hSs:=ζ hSt;have d0:=ξ (θ (.cells #[.pointer none] 29) (θ (.cells #[.bool wrt] 4) (θ (.cells #[.pointer (some ⟨Db,0,none⟩)] 24) hD))) 0;simp only[zG,zH] at d0;go_enter func22,ntmps22;go_wp2_with fail;obtain⟨W0,hW0,hK0,hs0,hX0,hB0,hT0⟩:∃ W0,W0=((w.alloc (.cells #[.pointer (some ⟨Db,0,none⟩)] 24)).alloc (.cells #[.bool wrt] 4)).alloc (.cells #[.pointer none] 29)∧Kp [] w W0∧W0.heap.size=w.heap.size+3∧W0.heap[w.heap.size]?=some (.cells #[.pointer (some ⟨Db,0,none⟩)] 24)∧W0.heap[w.heap.size+1]?=some (.cells #[.bool wrt] 4)∧W0.heap[w.heap.size+2]?=some (.cells #[.pointer none] 29):=by
  refine⟨_,rfl,(((Kp.refl _ _).alloc _).alloc _).alloc _,by simp,θ _ (θ _ (μ _ _)),θ _ ?_,?_⟩
  ·have e:=μ (w.alloc (.cells #[.pointer (some ⟨Db,0,none⟩)] 24)) (.cells #[.bool wrt] 4);simpa using e
  ·have e:=μ ((w.alloc (.cells #[.pointer (some ⟨Db,0,none⟩)] 24)).alloc (.cells #[.bool wrt] 4)) (.cells #[.pointer none] 29);simpa using e
 rw[←hW0];clear hW0;have hD0:=hK0.hp hD;have hSt0:=hK0.hp hSt;refine (zP0 St 45 s #[] _ _ W0 hSt0 HPO.out).mono ?_;rintro e w2 ⟨v,rfl,hv,hSt2,hK2⟩;have hT2:w2.heap[w.heap.size+2]?=some (.cells #[.pointer none] 29):=hK2.ho hT0;have hTs:=ζ hT2;have t0:=ξ hT2 0;simp only[zG,zH,zI] at t0;have HV:=zh hv;have HK:Hid (Kp [St] w w2):=(hK0.mono (S':=[St]) (by simp)).trans hK2 (fun _ h _=>h);clear hv hK2 hT2;go_wp2
 go_ret2
 exact⟨v,rfl,HV.out,hSt2,HK.out⟩
theorem jV4(x:Nat)(t:Tx)(s:Sto)(k:ByteArray)(w:World)(hx:w.heap[x]?=some (qA3 t))(hSt:w.heap[t.St]?=some (ν 0 s))(hpo:s.po=true):
  Calls prog 23 #[.pointer (some ⟨x,0,none⟩),.string k] w fun e w'=>∃ v,e=.returned (.tuple #[.string ⟨#[]⟩,.bool false,v])∧qI6 w' v (some 7)∧w'.heap[t.St]?=some (ν 0 s)∧Kp [t.St] w w':=by
 have hxs:=ζ hx;have hSs:=ζ hSt;have hmf:=zM;go_enter func23,ntmps23;go_wp2_with fail;obtain⟨w0,hw0,hT0,hK0,hV0,hB0,hKp0,hs0⟩:∃ w0,w0=(((w.alloc (.cells #[.pointer (some ⟨x,0,none⟩)] 29)).alloc (.cells #[.string k] 9)).alloc (.cells #[.string ⟨#[]⟩] 9)).alloc (.cells #[.bool false] 4)∧w0.heap[w.heap.size]?=some (.cells #[.pointer (some ⟨x,0,none⟩)] 29)∧w0.heap[w.heap.size+1]?=some (.cells #[.string k] 9)∧w0.heap[w.heap.size+1+1]?=some (.cells #[.string ⟨#[]⟩] 9)∧w0.heap[w.heap.size+1+1+1]?=some (.cells #[.bool false] 4)∧Kp [] w w0∧w0.heap.size=w.heap.size+4:=by
  refine⟨_,rfl,θ _ (θ _ (θ _ (μ _ _))),θ _ (θ _ ?_),θ _ ?_,?_,((((Kp.refl _ _).alloc _).alloc _).alloc _).alloc _,by simp⟩
  ·have e:=μ (w.alloc (.cells #[.pointer (some ⟨x,0,none⟩)] 29)) (.cells #[.string k] 9);simpa using e
  ·have e:=μ ((w.alloc (.cells #[.pointer (some ⟨x,0,none⟩)] 29)).alloc (.cells #[.string k] 9)) (.cells #[.string ⟨#[]⟩] 9);simpa using e
  ·have e:=μ (((w.alloc (.cells #[.pointer (some ⟨x,0,none⟩)] 29)).alloc (.cells #[.string k] 9)).alloc (.cells #[.string ⟨#[]⟩] 9)) (.cells #[.bool false] 4);simpa using e
 rw[←hw0];clear hw0;refine (xX7 x t.St 48 t s #[] _ _ w0 (hKp0.hp hx) rfl (hKp0.hp hSt) hpo).mono ?_;rintro e w2 ⟨v,rfl,hv,hSt2,hK2⟩;have hVe:=hK2.ho hV0;have hBe:=hK2.ho hB0;have HB:Hid (qI6 w2 v (some 7)∧w2.heap[t.St]?=some (ν 0 s)∧Kp [t.St] w w2):=⟨hv,hSt2,(hKp0.mono (by simp)).trans hK2 (fun _ h _=>h)⟩;clear hv hSt2 hK2 hT0 hK0 hV0 hB0 hKp0;have hVs:=ζ hVe;have hBs:=ζ hBe;have v0:=ξ hVe 0;simp only[zG,zH,zI] at v0;have b0:=ξ hBe 0;simp only[zG,zH,zI] at b0;clear hVe hBe;go_wp2_with fail
 go_quiet (fail)
 go_wp2;refine bodyPost_ret (v:=.tuple #[.string ⟨#[]⟩,.bool false,v]) (by simp[results,results23,go_sem]) rfl ?_;exact⟨v,rfl,HB.out.1,HB.out.2.1,HB.out.2.2.drewN _⟩
end Go.Proofs.YtdohpenfkdckiabGreatDoor
namespace Go.Proofs.YtdohpenfkdckiabGreatDoor
open Go.Proofs.Tryz
open Go.RowKit Go.Extern.Stop Go.Stop Go.Extern
theorem xL4(v:Value)(w:World):(ReflectliteType.typeOf #[.iface 241 v]).run prog w=.ok (.iface 196 (.agg #[.pointer (some ⟨5,241,none⟩)])) w:=by kernel_rfl
theorem xK8(w:World):(ReflectliteType.relation "AssignableTo" ReflectliteType.assignableTo #[.agg #[.pointer (some ⟨5,241,none⟩)],.iface 196 (.agg #[.pointer (some ⟨5,46,none⟩)])]).run prog w=.ok (.bool false) w:=by kernel_rfl
theorem jX3(p:Addr)(w:World):Calls prog 278 #[.pointer (some p)] w fun e w'=>e=.returned (.iface 46 (.int .i64 8))∧w'=w:=by
 go_enter func278,ntmps278;go_wp2;go_ret;exact⟨rfl,rfl⟩
theorem xK6(F E a:Nat)(call:ByteArray)(p:Addr)(w:World)(hF:w.heap[F]?=some (.cells #[.string call,.iface 241 (.pointer (some p))] 183))(hE:w.heap[E]?=some (.cells #[.int .i64 0] 46))(ha:w.heap[a]?=some (.cells #[.pointer (some ⟨E,0,none⟩)] 93)):
  Calls prog 80 #[.iface 180 (.pointer (some ⟨F,0,none⟩)),.iface 93 (.pointer (some ⟨E,0,none⟩)),.agg #[.pointer (some ⟨5,93,none⟩),.pointer (some ⟨a,0,none⟩),.int .u64 150],.iface 196 (.agg #[.pointer (some ⟨5,46,none⟩)])] w fun e w'=>e=.returned (.bool true)∧w'.heap[E]?=some (.cells #[.int .i64 8] 46)∧Kp [E] w w':=by
 have h90:=@run_callFunc_extern prog 77 _ (fun args=>ReflectliteValue.unpack (args.getD 0 (.tuple #[]))) func77 (by kernel_rfl) (by kernel_rfl) (by kernel_rfl) (by kernel_rfl);have h142:=@run_callFunc_extern prog 116 _ ReflectliteType.typeOf func116 (by kernel_rfl) (by kernel_rfl) (by kernel_rfl) (by kernel_rfl);have h285:=@run_callFunc_extern prog 267 _ (ReflectliteType.relation "AssignableTo" ReflectliteType.assignableTo) func267 (by kernel_rfl) (by kernel_rfl) (by kernel_rfl) (by kernel_rfl);have h143:=@run_callFunc_extern prog 117 _ (ReflectliteValue.method (ReflectliteValue.valueError "reflectlite.Value.Elem" 0) ReflectliteValue.elem) func117 (by kernel_rfl) (by kernel_rfl) (by kernel_rfl) (by kernel_rfl);have h144:=@run_callFunc_extern prog 118 _ ReflectliteValue.set func118 (by kernel_rfl) (by kernel_rfl) (by kernel_rfl) (by kernel_rfl);have tF:=zQ8;have tE:=qY9;have mA:=zQ0;have mU:=qY8;have aF:=zP3;have aE:=zP2;have tV:=xL4;have aV:=xK8;have mV:=zQ4;have ta3:∀ W:World,Sem.run prog (Instr.typeAssert (.iface 241 (.pointer (some p))) 35 201 true) W=.ok (.tuple #[.nilIface,.bool false]) W:=fun W=>run_typeAssert_lacksB underlying201 (by kernel_rfl) (by kernel_rfl) _ _ W;have ta4:∀ W:World,Sem.run prog (Instr.typeAssert (.iface 241 (.pointer (some p))) 35 204 true) W=.ok (.tuple #[.iface 241 (.pointer (some p)),.bool true]) W:=fun W=>run_typeAssert_hasB underlying204 (by kernel_rfl) _ _ W;have vE:=zR0;have ta1:∀ W:World,Sem.run prog (Instr.typeAssert (.iface 180 (.pointer (some ⟨F,0,none⟩))) 35 201 true) W=.ok (.tuple #[.nilIface,.bool false]) W:=fun W=>run_typeAssert_lacksB underlying201 (by kernel_rfl) (by kernel_rfl) _ _ W;have ta2:∀ W:World,Sem.run prog (Instr.typeAssert (.iface 180 (.pointer (some ⟨F,0,none⟩))) 35 204 true) W=.ok (.tuple #[.iface 180 (.pointer (some ⟨F,0,none⟩)),.bool true]) W:=fun W=>run_typeAssert_hasB underlying204 (by kernel_rfl) _ _ W;have hEs:=ζ hE;have hFs:=ζ hF;have has:=ζ ha;go_enter func80,ntmps80;go_wp2;refine wp_loop_rounds 4 ?_;rw[rounds_succ];go_wp2_with fail;obtain⟨W1,hW1,hK1,hs1⟩:∃ W1,W1=w.alloc (.cells #[.pointer (some ⟨5,93,none⟩),.pointer (some ⟨a,0,none⟩),.int .u64 150] 137)∧Kp [E] w W1∧W1.heap.size=w.heap.size+1:=⟨_,rfl,(Kp.refl _ _).alloc _,by simp⟩;have hF1:W1.heap[F]?=some (.cells #[.string call,.iface 241 (.pointer (some p))] 183):=by rw[hW1];exact θ _ hF
 have hE1:W1.heap[E]?=some (.cells #[.int .i64 0] 46):=by rw[hW1];exact θ _ hE
 have ha1:W1.heap[a]?=some (.cells #[.pointer (some ⟨E,0,none⟩)] 93):=by rw[hW1];exact θ _ ha
 have hv1:W1.heap[w.heap.size]?=some (.cells #[.pointer (some ⟨5,93,none⟩),.pointer (some ⟨a,0,none⟩),.int .u64 150] 137):=by rw[hW1];exact μ _ _
 rw[←hW1];clear hW1;have v0:=ξ hv1 0;have v1:=ξ hv1 1;have v2:=ξ hv1 2;have a0:=ξ ha1 0;simp at v0 v1 v2 a0;have eV:=zP5 ⟨a,0,none⟩ ⟨E,0,none⟩ W1 a0;have hb2:=ξ (μ W1 (.cells #[.int .i64 8] 46)) 0;have he2:=ξ (θ (.cells #[.int .i64 8] 46) hE1) 0;have hfz2:=ψ (θ (.cells #[.int .i64 8] 46) hE1) 0;simp at hb2 he2;have sE:=zQ6 ⟨E,0,none⟩ ⟨W1.heap.size,0,none⟩ 8 (.int .i64 0) (W1.alloc (.cells #[.int .i64 8] 46)) (by simp) (by simpa using he2) hfz2;rw[hs1] at sE;clear hb2 he2 hfz2;refine (xH2 F call _ _ hF1).mono ?_;rintro e w2 ⟨rfl,rfl⟩;go_wp2_with fail;rw[rounds_succ];go_wp2_with fail;refine (jX3 p _).mono ?_;rintro e w3 ⟨rfl,rfl⟩;go_wp2_with fail;rw[rounds_succ];go_wp2;go_ret;refine⟨rfl,?_,?_⟩
 ·first
   | exact φ (θ _ hE1) 0 _
   | exact θ _ (φ hE1 0 _)
 ·first
   | exact (hK1.alloc _).sc _
   | exact (hK1.sc _).alloc _
theorem xK4(F E:Nat)(call:ByteArray)(p:Addr)(w:World)(hg:w.cell? ⟨0,0,none⟩=some qL6)(hF:w.heap[F]?=some (.cells #[.string call,.iface 241 (.pointer (some p))] 183))(hE:w.heap[E]?=some (.cells #[.int .i64 0] 46)):
  Calls prog 43 #[.iface 180 (.pointer (some ⟨F,0,none⟩)),.iface 93 (.pointer (some ⟨E,0,none⟩))] w fun e w'=>e=.returned (.bool true)∧w'.heap[E]?=some (.cells #[.int .i64 8] 46)∧Kp [E] w w':=by
 have h90:=@run_callFunc_extern prog 77 _ (fun args=>ReflectliteValue.unpack (args.getD 0 (.tuple #[]))) func77 (by kernel_rfl) (by kernel_rfl) (by kernel_rfl) (by kernel_rfl);have h91:=@run_callFunc_extern prog 78 _ (ReflectliteValue.methodAny (ReflectliteValue.valueError "reflectlite.Value.Type" 0) (fun t _ _ _=>ReflectliteType.toType t)) func78 (by kernel_rfl) (by kernel_rfl) (by kernel_rfl) (by kernel_rfl);have h92:=@run_callFunc_extern prog 79 _ (ReflectliteValue.method (ReflectliteValue.valueError "reflectlite.Value.IsNil" 0) ReflectliteValue.isNil) func79 (by kernel_rfl) (by kernel_rfl) (by kernel_rfl) (by kernel_rfl);have h266:=@run_callFunc_extern prog 246 _ (ReflectliteType.abiMethod fun t=>do pure (.int .u8 (←Rtype.kind t))) func246 (by kernel_rfl) (by kernel_rfl) (by kernel_rfl) (by kernel_rfl);have h287:=@run_callFunc_extern prog 269 _ (ReflectliteType.method ReflectliteType.elem) func269 (by kernel_rfl) (by kernel_rfl) (by kernel_rfl) (by kernel_rfl);have h288:=@run_callFunc_extern prog 270 _ (ReflectliteType.relation "Implements" ReflectliteType.implements_) func270 (by kernel_rfl) (by kernel_rfl) (by kernel_rfl) (by kernel_rfl);have vO:=zQ9;have tY:=zQ7;have mK:=zQ3;have mE:=zQ1;have mI:=zQ2;have kP:=zP9;have kE:=zP8;have eL:=zP4;have iM:=zP6;have hEs:=ζ hE;have hFs:=ζ hF;have hgl:0<w.heap.size:=by omega
 have nN:=zP7 ⟨w.heap.size,0,none⟩ ⟨E,0,none⟩ ((w.alloc (.cells #[.pointer (some ⟨E,0,none⟩)] 93)).alloc (.cells #[.pointer (some ⟨5,93,none⟩),.pointer (some ⟨w.heap.size,0,none⟩),.int .u64 150] 137)) (by simp);have hg2:((w.alloc (.cells #[.pointer (some ⟨E,0,none⟩)] 93)).alloc (.cells #[.pointer (some ⟨5,93,none⟩),.pointer (some ⟨w.heap.size,0,none⟩),.int .u64 150] 137)).cell? ⟨0,0,none⟩=some (.iface 196 (.agg #[.pointer (some ⟨5,35,none⟩)])):=by
  rw[World.cell?_alloc_lt _ _ ⟨0,0,none⟩ (by simp),World.cell?_alloc_lt _ _ ⟨0,0,none⟩ hgl];exact hg
 clear hg;go_enter func43,ntmps43;go_wp2_with fail;refine (xK6 F E w.heap.size call p _ (θ _ (θ _ hF)) (θ _ (θ _ hE)) (θ _ (μ _ _))).mono ?_;rintro e w1 ⟨rfl,hE1,hK1⟩;have hK1':Kp [E] w w1:=(((Kp.refl [E] w).alloc _).alloc _).tr hK1;clear h90 h91 h92 h266 h287 h288 vO tY mK mE mI kP kE eL iM nN hg2 hK1;go_wp2;go_ret;exact⟨rfl,hE1,hK1'⟩
theorem jW2(F:Nat)(call:ByteArray)(p:Addr)(w:World)(hg:w.cell? ⟨0,0,none⟩=some qL6)(hF:w.heap[F]?=some (.cells #[.string call,.iface 241 (.pointer (some p))] 183)):
  Calls prog 21 #[.iface 180 (.pointer (some ⟨F,0,none⟩))] w fun e w'=>e=.returned (.int .i64 8)∧Kp [] w w':=by
 have hFs:=ζ hF;have hgl:0<w.heap.size:=by omega
 go_enter func21,ntmps21;go_wp2_with fail;refine (xK4 F w.heap.size call p _ (by rw[World.cell?_alloc_lt _ _ ⟨0,0,none⟩ hgl];exact hg) (θ _ hF) (μ _ _)).mono ?_;rintro e w1 ⟨rfl,hE1,hK1⟩;have hK1':Kp [] w w1:=((Kp.refl [] w).alloc _).trans hK1 (by intro i hi hlt;simp at hi;omega);have c0:=ξ hE1 0;simp at c0;clear hK1 hg;go_wp2;go_ret;exact⟨rfl,hK1'⟩
end Go.Proofs.YtdohpenfkdckiabGreatDoor
namespace Go.Proofs.YtdohpenfkdckiabGreatDoor
open Go.Proofs.Tryz
open Go.RowKit
theorem zR2{κ:Kd}{V A N C base:Nat}{l:List UInt8}{ws:List (Nat × List UInt8)}{wr:Int}{w:World}(h:Dk κ V A N C base l ws wr w)(hg:Gl w)(n k:Int):
  Calls prog 20 #[.pointer (some ⟨A,0,none⟩),.int .i64 n,.int .i64 k] w fun e w'=>e=.returned (.tuple #[])∧Kp [A] w w'∧∃ f t,Dk ⟨κ.cap,κ.told,κ.off,f,t⟩ V A N C base l ws wr w'∧(k=0→t=f):=by
 obtain⟨v,calls,hA,_⟩:=h.hA;have HD:Hid (Dk κ V A N C base l ws wr w∧Gl w∧w.heap[A]?=some (qC1 κ N C v calls wr)):=⟨h,hg,hA⟩;have hw2:k=0→wrap64 (wrap64 (calls+n)+k)=wrap64 (calls+n):=fun e=>by
  subst e;rw[Int.add_zero];simp only[wrap64];omega
 have HW:=zh hw2;have c2:=ξ hA 2;have c6:=ξ hA 6;have c7:=ξ hA 7;simp only[qC1,zG,zH,zI] at c2 c6 c7;have f6:=ψ hA;clear h hg hA hw2;go_enter func20,ntmps20;go_wp2_with fail
 go_region
 all_goals
  go_end0
  obtain⟨h,hg,hA⟩:=HD.out;have hK:Kp [A] w ((w.setCell ⟨A,6,none⟩ (.int .i64 (wrap64 (calls+n)))).setCell ⟨A,7,none⟩ (.int .i64 (wrap64 (wrap64 (calls+n)+k)))).drew:=(((Kp.refl _ _).sc _).sc _).drew;have hs:((w.setCell ⟨A,6,none⟩ (.int .i64 (wrap64 (calls+n)))).setCell ⟨A,7,none⟩ (.int .i64 (wrap64 (wrap64 (calls+n)+k)))).heap[A]?=some (qC1 ⟨κ.cap,κ.told,κ.off,wrap64 (calls+n),wrap64 (wrap64 (calls+n)+k)⟩ N C v calls wr):=φ (φ hA 6 _) 7 _;exact⟨rfl,hK,_,_,h.tells hg hK hA hs,HW.out⟩
theorem Mixed.laid{N:Nat}{l:List UInt8}{ws:List (Nat × List UInt8)}(hl:N*128≤l.length)(hf:∀ x∈ws,x.1<N∧x.2.length=128):Mixed N l ws (laidAll l ws):=by
 have h:∀ j,j≤ws.length→Mixed N l (ws.take j) (laidAll l (ws.take j)):=by
  intro j
  induction j with
  | zero=>intro _;simpa [laidAll] using Mixed.none hl
  | succ j ih=>
   intro hj;have hj':j<ws.length:=by omega
   have hx:=hf ws[j] (List.getElem_mem hj');have hlen:=qQ2 N (ws.take j) l hl (fun x hx=>hf x (List.mem_of_mem_take hx));rw[zI4 l ws j hj'];refine Mixed.one hj' (ih (by omega)) ⟨qX8 _ _ _ ?_,fun k hk=>qP2 _ _ _ k N hx.2 hlen hx.1 hk,.inr ⟨by omega,by rw[qR0 _ _ _ N hx.2 hlen hx.1]⟩⟩;rw[hx.2];have:(ws[j].1+1)*128≤N*128:=Nat.mul_le_mul_right 128 hx.1;omega
 have:=h ws.length (Nat.le_refl _)
 rwa [List.take_length] at this
section
variable {κ:Kd} {w w0:World} {kc db St A C N nM base:Nat} {s:Sto} {D:DataW Unit} {l:List UInt8} {wr:Int} {nw:Root}
structure CutsP(κ:Kd)(kc db St A C N nM:Nat)(s:Sto)(D:DataW Unit)(nr:Int)(a b:List KV)(o:Res)(w:World)(κ':Kd)(bb:Nat)(l1:List UInt8)(ws1:List (Nat × List UInt8))(wr':Int):Prop where
 up:κ'=κ∨κ'=κ.up
 dk:Dk κ' s.V A N C bb l1 ws1 wr' w
 has:∀ l2,Mixed N l1 ws1 l2→qN7 N kc l2 s.N a b
 all:o=.ok→∀ l2,Mixed N l1 ws1 l2→qN7 N kc l2 s.N b b
 shop:o=.ok→ws1=[]∧∃ s' nt,(∀ W,Kp [A] w W→Devq s'.V A N C l1 wr' W→Shop W kc db St A C N nM s' (D.del (ι nr)) l1 wr' nt)∧s'.V=s.V∧s'.M=s.M∧s'.bg=s.bg∧s'.wr=(s.left nr).wr
 bad:o≠.ok→o=.io∧∃ s1:Sto,w.heap[St]?=some (ν 0 { s1 with po:=true })
theorem Shop.cutsP(hS:Shop w0 kc db St A C N nM s D l wr nw){x:Nat}{t:Tx}{r:Root}(hL:LiveT hS.E w0 x A N t s r)(hKA:Kp [A] w0 w)(hd:Dk κ s.V A N C base l [] wr w)(hst:t.St=St)(hwr:t.wrt=true)(h0:0≤t.nr)(h1:t.nr≤1000000000)(hrk:r.cont.length≤kc)(hN9:s.N≤999999999)
  (hfit:qC4 r+r.news+Maps.size D*kc+qC4 nw+2≤N):
  Calls prog 14 #[.pointer (some ⟨x,0,none⟩)] w fun e w'=>∃ o v,e=.returned v∧ErrE w' v o∧w'.heap[x]?=some (qA3 t.ended)∧Kp [St,x,s.M,A,C] w w'∧∃ κ' bb l1 ws1 wr',CutsP κ kc db St A C N nM s D t.nr nw.cont r.cont o w' κ' bb l1 ws1 wr':=by
 have htd:=hS.hM.tidy qO0;have hsd:=Maps.size_del (k:=ι t.nr) htd;have hle:Maps.size (D.del (ι t.nr))≤Maps.size D:=by omega
 have hdl:∀ k,Maps.has (D.del (ι t.nr)) k=true→Maps.has D k=true∧∀ zd,(D.del (ι t.nr)).atKey k zd=D.atKey k zd:=fun k hk=>by
  by_cases e:k=ι t.nr
  ·rw[e,Maps.has_del_same] at hk;cases hk
  ·rw[Maps.has_del_other e] at hk;exact⟨hk,fun zd=>Maps.atKey_del_other e zd⟩
 have hN8:=hS.N8;have hgo:(∀ W:World,Sem.run prog (Op.equalIn 10000 83 (τ s.V t.h) (τ s.V ⟨⟨#[]⟩,s.rb,s.rs,none⟩)) W=.ok false W)→Calls prog 14 #[.pointer (some ⟨x,0,none⟩)] w fun e w'=>∃ o v,e=.returned v∧ErrE w' v o∧w'.heap[x]?=some (qA3 t.ended)∧Kp [St,x,s.M,A,C] w w'∧∃ κ' bb l1 ws1 wr',CutsP κ kc db St A C N nM s D t.nr nw.cont r.cont o w' κ' bb l1 ws1 wr':=fun heq=>by
  refine (zM1 hS x t r hL hKA hd hst hwr h0 h1 heq hrk hN9 hdl (by have:=hS.m4;omega) (by have:=Nat.mul_le_mul_right kc hle;omega)).mono ?_;rintro e w' ⟨o,v,rfl,hv,hx,hK,hE⟩;refine⟨o,v,rfl,hv,hx,hK,?_⟩
  cases o with
  | no k=>exact hE.elim
  | io=>
   obtain⟨_,hpo,l1,ws1,b,k,e1,_,e2⟩:=hE;exact⟨_,b,l1,ws1,_,.inr rfl,e1,e2,fun h=>(by cases h),fun h=>(by cases h),fun _=>⟨rfl,hpo⟩⟩
  | ok=>
   obtain⟨s',l',nt,b,e1,e2,e3,e4,e5,e6,e7,e8,e9,e10,e11,e12,_⟩:=hE;have hh:∀ a l2,Mixed N l' [] l2→qN7 N kc l2 s.N a r.cont:=fun a l2 hm=>⟨_,_,_,nt,e3.mixed (by omega) hm,e4.mixed hm,e5,.inr e6,by rw[e6];exact hrk,by omega,by omega⟩;exact⟨_,b,l',[],_,.inl rfl,e2,hh _,fun _=>hh _,fun _=>⟨rfl,s',nt,e1,e11,e12,e9,e10⟩,fun h=>absurd rfl h⟩
 cases hp:t.h.p with
 | some q=>exact hgo (fun W=>zM9 s.V q t.h s.rb s.rs hp hL.key W)
 | none=>
  by_cases he:t.h.b=s.rb∧t.h.s=s.rs
  ·have heq:∀ W:World,Sem.run prog (Op.equalIn 10000 83 (τ s.V t.h) (τ s.V ⟨⟨#[]⟩,s.rb,s.rs,none⟩)) W=.ok true W:=fun W=>by rw[zE1 s.V t.h s.rb s.rs hp hL.key W];simp[he]
   have hlie:Lie N l s.rb s.rs r:=by
    have h:=LiveT.lie (E':=hS.E) hL hp;rw[he.1,he.2] at h;exact h
   have hc:=(Lie.one hS.N1 hS.lie hlie).1;subst hst;obtain⟨cA,hA⟩:=hS.hA;have hMS:s.M≠t.St:=(qE0 hS.hSt hS.hM).symm;have hxM:x≠s.M:=qE0 hL.hx hS.hM;have hxw:=hKA.heap hL.hx (by simpa using qB7 hL.hx hA (by decide));have hStw:=hKA.heap hS.hSt (by simpa using qB7 hS.hSt hA (by decide));have hMw:=hS.hM.kp hKA (by simpa using (qE0 hA hS.hM).symm);have hoff:qS1 w [t.St,x,s.M]:=fun k hk c ty fr e=>by
    simp only[List.mem_cons,List.not_mem_nil,or_false] at hk;rcases hk with rfl|rfl|rfl
    ·rw[hStw] at e;cases e;decide
    ·rw[hxw] at e;cases e;decide
    ·exact absurd rfl (qE0 e hMw)
   refine (xG1 x nM s.V t s D [] (fun W w1=>Kp [] W w1) w hxw hL.over hStw hS.po hMw h0 h1 hMS hL.xS hxM hMw.lt hL.on hwr (by simp) ?_).mono ?_
   ·intro W hK hx' hS' hM';refine (zT2 t.St (s.left t.nr) t.h W hS' heq).mono ?_;rintro e w1 ⟨rfl,hK1⟩;exact⟨rfl,⟨_,hK1.hp hS'⟩,hK1,hK1.mono (by simp)⟩
   ·rintro e w' ⟨rfl,hKw,W,w1,B,s',hK,hx',hS',hM',hR,_,hs1,hs2,hB0,hB1,hKB⟩;have hse:s'=s.left t.nr:=by
     rw[hR.hp hS'] at hs1;exact (xF5 (Option.some.inj hs1)).symm
    rw[hse] at hs2 hs1;have hxs:=ζ hL.hx;have hxs2:=hKA.size;have hMs:=hS.hM.lt;obtain⟨n1,n2,n3,n4⟩:=hS.neDb;have hKw0:Kp [t.St,x,s.M,A] w0 w':=(hKA.mono (S':=[t.St,x,s.M,A]) (by simp)).trans hKw (by intro i hi _;simp at hi ⊢;omega);have hoB:qS1 w1 [t.St,B]:=fun k hk c ty fr e=>by
     simp only[List.mem_cons,List.not_mem_nil,or_false] at hk;rcases hk with rfl|rfl
     ·rw[hs1] at e;cases e;decide
     ·rw[hB1] at e;cases e;decide
    have hh:∀ a l2,Mixed N l [] l2→qN7 N kc l2 s.N a r.cont:=fun a l2 hm=>⟨_,_,_,nw,hS.heads.mixed (by omega) hm,hS.lie.mixed hm,hS.good,.inr hc,hS.sz,by omega,by omega⟩;refine⟨.ok,_,rfl,rfl,hKB.heap (hR.hp hx') (by simp[hL.xS];omega),hKw.mono (by intro i hi _;simp at hi ⊢;omega),_,_,l,[],_,.inl rfl,((hd.keep hK hoff).keep0 hR).keep hKB hoB,hh _,fun _=>hh _,fun _=>⟨rfl,s.left t.nr,nw,fun W' hKW hdv=>?_,rfl,rfl,rfl,rfl⟩,fun h=>absurd rfl h⟩;refine hS.turn (hKw0.trans hKW (by intro i hi _;simp at hi ⊢;omega)) (by simp[n1,n2,n4];exact qB7 hS.hDb hL.hx (by decide)) hdv ⟨rfl,rfl,rfl,rfl,rfl,rfl⟩ (hKW.heap hs2 (by simpa using qB7 hS.hSt hA (by decide))) (((hM'.kp hR (by simp)).kp hKB (by simp[hMS];omega)).kp hKW (by simpa using (qE0 hA hS.hM).symm)) (by have:=hS.m4;omega) hS.n1 hS.bg0 (fun k hk=>hS.kb k (hdl k hk).1) (fun y h g1 g2 g3=>?_);obtain⟨f1,f2⟩:=hdl _ g1;exact hS.rd y h f1 (fun zd=>(f2 zd).symm.trans (g2 zd)) g3
  ·exact hgo (fun W=>by rw[zE1 s.V t.h s.rb s.rs hp hL.key W];simp[he])
end
theorem zO6(ps:List KV):(qA6 ps).length≤ps.length:=by
 unfold qA6 qG2;rw[List.length_take];have:=List.length_filter_le (inR ⟨#[]⟩ qS5) ps;omega
def qK6:List TypeId:=[64,3]
def Bag(W:World)(b:Nat)(kv:Value)(ys:List Int)(xs:List (Value × List KV)):Prop:=Slc W 3 1 kv ys.length (qI7 ys)∧∀ x∈xs,OPA W b x.1 x.2
theorem Bag.keep{W W':World}{b:Nat}{kv:Value}{ys:List Int}{xs:List (Value × List KV)}{S:List Nat}(h:Bag W b kv ys xs)(hK:Kp S W W')(hS:Apt W S qK6):Bag W' b kv ys xs:=
 ⟨h.1.keep hK (hS.sub (by simp[qK6])),fun x hx=>OPA.keep (h.2 x hx) hK (fun k hk c fr e=>hS k hk c _ fr e (by simp[qK6]))⟩
theorem Bag.keep0{W W':World}{b:Nat}{kv:Value}{ys:List Int}{xs:List (Value × List KV)}(h:Bag W b kv ys xs)(hK:Kp [] W W'):Bag W' b kv ys xs:=h.keep hK (Apt.nil _ _)
theorem Bag.add{W:World}{b b':Nat}{kv v:Value}{ys:List Int}{xs:List (Value × List KV)}{ps:List KV}(h:Bag W b kv ys xs)(ho:OPA W b' v ps)(hb:b≤b'):Bag W b kv ys ((v,ps)::xs):=
 ⟨h.1,fun x hx=>by rcases List.mem_cons.1 hx with rfl | hx;exact qH4 ho hb;exact h.2 x hx⟩
section
variable {w:World} {kc db St A C N nM:Nat} {s:Sto} {D:DataW Unit} {l:List UInt8} {wr:Int} {nw:Root}
theorem Shop.bag(hS:Shop w kc db St A C N nM s D l wr nw):Apt w [St,s.M,A,C] qK6:=by
 intro k hk c t fr e;obtain⟨cA,hA⟩:=hS.hA;simp only[List.mem_cons,List.not_mem_nil,or_false] at hk;rcases hk with rfl|rfl|rfl|rfl
 ·rw[hS.hSt] at e;cases e;decide
 ·exact absurd rfl (qE0 e hS.hM)
 ·rw[hA] at e;cases e;decide
 ·rw[hS.dev.hC] at e;cases e;decide
theorem Apt.less{w:World}{S S':List Nat}{Ts:List TypeId}(h:Apt w S Ts)(hs:∀ k∈S',k∈S):Apt w S' Ts:=fun k hk=>h k (hs k hk)
theorem Wrt.cuts{x:Nat}{t:Tx}{r:Root}{nr:Int}(hW:Wrt w kc db St A C N nM s D l wr nw x t r nr)(h0:0≤nr)(h1:nr≤1000000000)(hrk:r.cont.length≤kc)(hN9:s.N≤999999999)(hD:Maps.size D=0)(hfit:r.cont.length+1+(nw.cont.length+1) / 2+2≤N){κ:Kd}{W:World}(hK:Kp [A] w W)(hd:Dk κ s.V A N C 0 l [] wr W):
  Calls prog 14 #[.pointer (some ⟨x,0,none⟩)] W fun e w'=>∃ o v,e=.returned v∧((v=.nilIface∧o=.ok)∨∃ F,v=.iface 180 (.pointer (some ⟨F,0,none⟩))∧o≠.ok)∧Kp [St,x,s.M,A,C] W w'∧Cuts s.V A N C kc s.N nw.cont r.cont o w':=by
 have e1:=qQ7 hW.live.good;have e2:=qQ6 hW.live.good;have e3:=qQ6 hW.shop.good;refine (hW.shop.cuts hW.live hK hd hW.st hW.wrt (by rw[hW.nr];exact h0) (by rw[hW.nr];exact h1) hrk hN9 (by rw[hD];omega)).mono ?_;rintro e w' ⟨o,v,rfl,hv,hK,hC⟩;refine⟨o,v,rfl,?_,hK,hC⟩
 cases o with
 | ok=>exact .inl ⟨hv,rfl⟩
 | no k=>obtain⟨F,call,rfl,_⟩:=hv;exact .inr ⟨F,rfl,by simp⟩
 | io=>obtain⟨F,call,p,rfl,_⟩:=hv;exact .inr ⟨F,rfl,by simp⟩
theorem Wrt.bag{x:Nat}{t:Tx}{r:Root}{nr:Int}(hW:Wrt w kc db St A C N nM s D l wr nw x t r nr){κ:Kd}{W:World}(hK:Kp [A] w W)(hd:Dk κ s.V A N C 0 l [] wr W):Apt W [St,x,s.M,A,C] qK6:=by
 obtain⟨cA,hA⟩:=hW.shop.hA;have hx:=hK.heap hW.live.hx (by simpa using qB7 hW.live.hx hA (by decide));have hSt:=hK.heap hW.shop.hSt (by simpa using qB7 hW.shop.hSt hA (by decide));have hM:=hW.shop.hM.kp hK (by simpa using (qE0 hA hW.shop.hM).symm);obtain⟨v,c,hA',_⟩:=hd.hA;intro k hk c t fr e;simp only[List.mem_cons,List.not_mem_nil,or_false] at hk;rcases hk with rfl|rfl|rfl|rfl|rfl
 ·rw[hSt] at e;cases e;decide
 ·rw[hx] at e;cases e;decide
 ·exact absurd rfl (qE0 e hM)
 ·rw[hA'] at e;cases e;decide
 ·rw[hd.hC] at e;cases e;decide
end
section
variable {κ κ':Kd} {w:World} {kc db St A C N nM bb:Nat} {s:Sto} {D:DataW Unit} {l l1:List UInt8} {ws1:List (Nat × List UInt8)} {wr wr' nr:Int} {nw:Root}
theorem CutsP.lies{a b:List KV}{o:Res}(h:CutsP κ kc db St A C N nM s D nr a b o w κ' bb l1 ws1 wr'){l2:List UInt8}(hm:Mixed N l1 ws1 l2):∃ N' rb' rs' rr,Heads l2 N' rb' rs'∧Lie N l2 rb' rs' rr∧RGood rr∧(rr.cont=a∨rr.cont=b)∧(o=.ok→rr.cont=b)∧rr.cont.length≤kc∧s.N≤N'∧N'≤s.N+2:=by
 by_cases ho:o=.ok
 ·obtain⟨N',rb',rs',rr,e1,e2,e3,e4,e5⟩:=h.all ho l2 hm;have e4:rr.cont=b:=by simpa using e4
  exact⟨N',rb',rs',rr,e1,e2,e3,.inr e4,fun _=>e4,e5⟩
 ·obtain⟨N',rb',rs',rr,e1,e2,e3,e4,e5⟩:=h.has l2 hm;exact⟨N',rb',rs',rr,e1,e2,e3,e4,fun h=>absurd h ho,e5⟩
theorem CutsP.reads{a b:List KV}{o:Res}(h:CutsP κ kc db St A C N nM s D nr a b o w κ' bb l1 ws1 wr'):∃ N' rb' rs' rr,Heads (laidAll l1 ws1) N' rb' rs'∧Lie N (laidAll l1 ws1) rb' rs' rr∧RGood rr∧(rr.cont=a∨rr.cont=b)∧(o=.ok→rr.cont=b)∧rr.cont.length≤kc∧s.N≤N'∧N'≤s.N+2:=h.lies (Mixed.laid h.dk.len h.dk.fit)
theorem Wrt.cutsP{x:Nat}{t:Tx}{r:Root}(hW:Wrt w kc db St A C N nM s D l wr nw x t r nr)(h0:0≤nr)(h1:nr≤1000000000)(hrk:r.cont.length≤kc)(hN9:s.N≤999999999)(hD:Maps.size D=0)(hfit:r.cont.length+1+(nw.cont.length+1) / 2+2≤N){W:World}(hK:Kp [A] w W)(hd:Dk κ s.V A N C 0 l [] wr W):
  Calls prog 14 #[.pointer (some ⟨x,0,none⟩)] W fun e w'=>∃ o v,e=.returned v∧ErrE w' v o∧(o=.ok∨o=.io)∧w'.heap[x]?=some (qA3 t.ended)∧Kp [St,x,s.M,A,C] W w'∧∃ κ' bb l1 ws1 wr',CutsP κ kc db St A C N nM s D nr nw.cont r.cont o w' κ' bb l1 ws1 wr':=by
 have e1:=qQ7 hW.live.good;have e2:=qQ6 hW.live.good;have e3:=qQ6 hW.shop.good;refine (hW.shop.cutsP hW.live hK hd hW.st hW.wrt (by rw[hW.nr];exact h0) (by rw[hW.nr];exact h1) hrk hN9 (by rw[hD];omega)).mono ?_;rintro e w' ⟨o,v,rfl,hv,hx,hK,κ',bb,l1,ws1,wr',hC⟩;rw[hW.nr] at hC;exact⟨o,v,rfl,hv,by by_cases h:o=.ok;exact .inl h;exact .inr (hC.bad h).1,hx,hK,κ',bb,l1,ws1,wr',hC⟩
def Res.n:Res→Int
 | .ok=>0
 | .no k=>k
 | .io=>8
theorem jW0{v:Value}{o:Res}(hv:ErrE w v o)(ho:o=.ok∨o=.io)(hg:w.cell? ⟨0,0,none⟩=some qL6):
  Calls prog 21 #[v] w fun e w'=>e=.returned (.int .i64 o.n)∧Kp [] w w':=by
 rcases ho with rfl|rfl
 ·rw[show v=.nilIface from hv];refine (xG6 w).mono ?_;rintro e w' ⟨rfl,rfl⟩;exact⟨rfl,Kp.refl _ _⟩
 ·obtain⟨F,call,p,rfl,hF⟩:=hv;exact (jW2 F call p w hg hF).mono fun e w' ⟨h1,h2⟩=>⟨h1,h2⟩
end
def Sick(q:Bool)(W:World)(St:Nat):Prop:=∃ s:Sto,W.heap[St]?=some (ν 0 s)∧s.po=q
theorem xM0{db St:Nat}{W:World}(hDb:W.heap[db]?=some (.cells #[.pointer (some ⟨St,0,none⟩)] 95))(h:Sick true W St)(M:Nat):
  Calls prog 22 #[.pointer (some ⟨db,0,none⟩),.bool false] W fun e w'=>∃ p v,e=.returned (.tuple #[.pointer p,v])∧qI6 w' v (some 7)∧Sick true w' St∧Kp [St,M] W w':=by
 obtain⟨s,hs,hp⟩:=h;refine (xL8 db St false s W hDb hs hp).mono ?_;rintro e w' ⟨v,rfl,hv,hs',hK⟩;exact⟨_,v,rfl,hv,⟨s,hs',hp⟩,hK.mono (by simp)⟩
theorem xM1{W:World}{kc db St A C N nM:Nat}{s:Sto}{D:DataW Unit}{l:List UInt8}{wr:Int}{nw:Root}(hS:Shop W kc db St A C N nM s D l wr nw)(h4:Maps.size D<4)(hnM:nM≤999999)(hbg:s.bg≤100000000):
  Calls prog 22 #[.pointer (some ⟨db,0,none⟩),.bool false] W fun e w'=>∃ p v,e=.returned (.tuple #[.pointer p,v])∧qI6 w' v none∧Sick false w' St∧Kp [St,s.M] W w':=by
 refine (hS.beginR h4 hnM hbg).mono ?_;rintro e w' ⟨x,t,D',rfl,_,_,_,_,_,hK,_,hS',_⟩;exact⟨_,_,rfl,rfl,⟨_,hS'.hSt,hS'.po⟩,hK⟩
theorem xW9{q:Bool}{x St:Nat}{t:Tx}{W:World}(k:ByteArray)(hx:W.heap[x]?=some (qA3 t))(ho:t.over=true)(ht:t.St=St)(h:Sick q W St):
  Calls prog 23 #[.pointer (some ⟨x,0,none⟩),.string k] W fun e w'=>∃ v,e=.returned (.tuple #[.string ⟨#[]⟩,.bool false,v])∧qI6 w' v (some (if q then 7 else 5))∧Kp [St] W w':=by
 subst ht;obtain⟨s,hs,hp⟩:=h;have hne:x≠t.St:=qB7 hx hs (by decide)
 cases q with
 | true=>
  refine (jV4 x t s k W hx hs hp).mono ?_;rintro e w' ⟨v,rfl,hv,_,hK⟩;exact⟨v,rfl,hv,hK⟩
 | false=>
  refine (jV3 x t s k W hx ho hs hp hne).mono ?_;rintro e w' ⟨v,rfl,hv,_,hK⟩;exact⟨v,rfl,hv,hK⟩
theorem xG5{w:World}{v:Value}{k:Option Int}(hv:qI6 w v k)(hg:w.cell? ⟨0,0,none⟩=some qL6):Calls prog 21 #[v] w fun e w'=>e=.returned (.int .i64 (k.getD 0))∧Kp [] w w':=by
 cases k with
 | none=>
  rw[show v=.nilIface from hv];refine (xG6 w).mono ?_;rintro e w' ⟨rfl,rfl⟩;exact⟨rfl,Kp.refl _ _⟩
 | some k=>
  obtain⟨F,call,rfl,hF⟩:=hv;exact jW1 F call k w hg hF
theorem ErrE.keep{w w':World}{v:Value}{o:Res}{S:List Nat}(h:ErrE w v o)(hK:Kp S w w')(hS:∀ i∈S,∀ c fr,w.heap[i]?≠some (.cells c 183 fr)):ErrE w' v o:=by
 cases o with
 | ok=>exact h
 | no k=>
  obtain⟨F,call,h1,h2⟩:=h;exact⟨F,call,h1,hK.heap h2 (fun hm=>hS _ hm _ _ h2)⟩
 | io=>
  obtain⟨F,call,p,h1,h2⟩:=h;exact⟨F,call,p,h1,hK.heap h2 (fun hm=>hS _ hm _ _ h2)⟩
structure Mid(q:Bool)(b0:Nat)(w:World)(db St M A C x:Nat)(t:Tx)(δ:Dvw)(wr:Int):Prop where
 hx:w.heap[x]?=some (qA3 t)
 ov:t.over=true
 st:t.St=St
 dev:Devn A 150 C δ wr w
 off:OffD w [St,M]
 apt:Apt w [St,M] qK6
 xM:x ∉ [St,M]
 lo:b0≤St∧b0≤M
 sz:St<w.heap.size∧M<w.heap.size
 beg:∀ W,Kp [] w W→Calls prog 22 #[.pointer (some ⟨db,0,none⟩),.bool false] W fun e w'=>∃ p v,e=.returned (.tuple #[.pointer p,v])∧qI6 w' v (cond q (some 7) none)∧Sick q w' St∧Kp [St,M] W w'
theorem Sick.keep0{q:Bool}{w w':World}{St:Nat}(h:Sick q w St)(hK:Kp [] w w'):Sick q w' St:=by
 obtain⟨s,h1,h2⟩:=h;exact⟨s,hK.hp h1,h2⟩
theorem Sick.offd{q:Bool}{w:World}{St:Nat}(h:Sick q w St):OffD w [St]:=by
 obtain⟨s,h1,h2⟩:=h;exact OffD.one h1 (by decide)
theorem Sick.apt{q:Bool}{w:World}{St:Nat}(h:Sick q w St):Apt w [St] qK6:=by
 obtain⟨s,h1,h2⟩:=h;exact Apt.one h1 (by decide)
theorem Sick.ne{q:Bool}{w:World}{St x:Nat}{t:Tx}(h:Sick q w St)(hx:w.heap[x]?=some (qA3 t)):x ∉ [St]:=by
 obtain⟨s,h1,h2⟩:=h;simpa using qB7 hx h1 (by decide)
theorem Wrt.mid{κ κ':Kd}{w W w5 w6:World}{kc db St A C nM bb x b0:Nat}{s:Sto}{D:DataW Unit}{l l1:List UInt8}{ws1:List (Nat × List UInt8)}{wr wr' nr f:Int}{nw r:Root}{t:Tx}{o:Res}
  (hW:Wrt w kc db St A C 150 nM s D l wr nw x t r nr) (hD:Maps.size (D.del (ι nr))<4) (hnM:nM≤999999) (hbg:s.bg≤100000000) (hKA:Kp [A] w W) (hK5:Kp [St,x,s.M,A,C] W w5) (hx5:w5.heap[x]?=some (qA3 t.ended)) (hC:CutsP κ kc db St A C 150 nM s D nr nw.cont r.cont o w5 κ' bb l1 ws1 wr') (ho:o=.ok∨o=.io) (hoff:κ.off=-1) (hK6:Kp [A] w5 w6) (hd:Dk ⟨κ'.cap,κ'.told,κ'.off,f,f⟩ s.V A 150 C bb l1 ws1 wr' w6) (h1:b0≤St) (h2:b0≤s.M):
  ∃ q M δ,((q=false∧o=.ok)∨(q=true∧o=.io))∧δ.l=laidAll l1 ws1∧Mid q b0 w6 db St M A C x t.ended δ wr':=by
 have hoff':κ'.off=-1:=by rcases hC.up with e | e<;>rw[e]<;>exact hoff
 have hq:Kd.quiet ⟨κ'.cap,κ'.told,κ'.off,f,f⟩:=⟨hoff',Int.le_refl _⟩;obtain⟨cA,hA⟩:=hW.shop.hA;obtain⟨n1,n2,n3,n4⟩:=hW.shop.neDb;have hxA:x≠A:=qB7 hW.live.hx hA (by decide);have hSA:St≠A:=qB7 hW.shop.hSt hA (by decide);have hDx:db≠x:=qB7 hW.shop.hDb hW.live.hx (by decide);have hDS:db≠St:=qB7 hW.shop.hDb hW.shop.hSt (by decide);have hDA:db≠A:=qB7 hW.shop.hDb hA (by decide);have hDC:db≠C:=qB7 hW.shop.hDb hW.shop.dev.hC (by decide);have hDM:db≠s.M:=qE0 hW.shop.hDb hW.shop.hM;have hdb6:w6.heap[db]?=some (.cells #[.pointer (some ⟨St,0,none⟩)] 95):=hK6.heap (hK5.heap (hKA.heap hW.shop.hDb (by simpa using hDA)) (by simp[hDx,hDS,hDA,hDC,hDM])) (by simpa using hDA);have hx6:=hK6.heap hx5 (by simpa using hxA);have hN:=hd.n hq;rcases ho with rfl|rfl
 ·obtain⟨hws,s',nt,hsh,eV,eM,ebg,ewr⟩:=hC.shop rfl;subst hws;have hS:=hsh w6 hK6 (by rw[eV];exact hd.q hq);refine⟨false,s'.M,⟨_,hq,bb,l1,[]⟩,.inl ⟨rfl,rfl⟩,rfl,hx6,rfl,hW.st,hN,(OffD.one hS.hSt (by decide)).cons (fun k hk c ty fr e=>?_),hS.bag.less (by simp),?_,⟨h1,by rw[eM];exact h2⟩,⟨ζ hS.hSt,hS.hM.lt⟩,fun W hK=>xM1 (hS.more hK) hD hnM (by rw[ebg];exact hbg)⟩
  ·rw[List.mem_singleton.1 hk] at e;exact absurd rfl (qE0 e hS.hM)
  ·have g1:=qB7 hx6 hS.hSt (by decide);have g2:=qE0 hx6 hS.hM;simp[g1,g2]
 ·obtain⟨_,s1,hs1⟩:=hC.bad (by simp);have hs6:=hK6.heap hs1 (by simpa using hSA);have hsk:Sick true w6 St:=⟨_,hs6,rfl⟩;exact⟨true,St,⟨_,hq,bb,l1,ws1⟩,.inr ⟨rfl,rfl⟩,rfl,hx6,rfl,hW.st,hN,hsk.offd.cons hsk.offd,hsk.apt.cons hsk.apt,by have:=hsk.ne hx6;simp at this;simp[this],⟨h1,h1⟩,⟨ζ hs6,ζ hs6⟩,fun W hK=>xM0 (hK.hp hdb6) (hsk.keep0 hK) St⟩
theorem Mid.begun{q:Bool}{b0:Nat}{w w' w1:World}{db St M A C x:Nat}{t:Tx}{δ:Dvw}{wr:Int}(h:Mid q b0 w db St M A C x t δ wr)(hK:Kp [] w w')(hK1:Kp [St,M] w' w1):w1.heap[x]?=some (qA3 t)∧Devn A 150 C δ wr w1∧Apt w' [St,M] qK6:=by
 have h1:Kp [St,M] w w1:=(hK.mono (S':=[St,M]) (by simp)).trans hK1 (by intro i hi _;exact hi);refine⟨h1.heap h.hx h.xM,h.dev.keep h1 h.off,fun k hk c ty fr e=>h.apt k hk c ty fr ?_⟩;have h2:=h.sz;have h3:k<w.heap.size:=by simp at hk;omega
 rw[←hK.block k h3 (by simp)];exact e
theorem xR2(n:Int):Maps.size (emp.del (ι n))<4:=by
 have h:=Maps.size_del (k:=ι n) (show Maps.Tidy emp from⟨[],rfl,List.Pairwise.nil⟩);have h2:Maps.size emp=0:=by simp[emp,Maps.size]
 omega
theorem kA1{w w':World}(h0:0<w.heap.size)(hg:w.cell? ⟨0,0,none⟩=some qL6)(hK:Kp [] w w'):w'.cell? ⟨0,0,none⟩=some qL6:=(hK.cell (a:=⟨0,0,none⟩) h0 (by simp)).trans hg
theorem jQ2{a b c:List KV}{o:Res}{q1 q2:Bool}(h:c=a∨c=b)(ho:o=.ok→c=b)(h1:q1=decide (qA6 c=qA6 a))(h2:q2=decide (qA6 c=qA6 b)):Hid ((q1=true∧q2=true)∨(q1=false∧q2=true)∨(q1=true∧q2=false∧o≠.ok)):=by
 show (q1=true∧q2=true)∨(q1=false∧q2=true)∨(q1=true∧q2=false∧o≠.ok);have g1:c=a→q1=true:=fun e=>by rw[h1,e];simp
 have g2:c=b→q2=true:=fun e=>by rw[h2,e];simp
 cases q2 with
 | true=>cases q1<;>simp
 | false=>
  refine .inr (.inr ⟨?_,rfl,fun e=>by simpa using g2 (ho e)⟩);rcases h with e|e
  ·exact g1 e
  ·simpa using g2 e
theorem jP7{T:TypeId}(a b c at_:Int)(bs:Option Addr)(cp:Nat)(xs:List Int)(ha0:-9223372036854775808≤a)(ha1:a≤9223372036854775807)(hb0:-9223372036854775808≤b)(hb1:b≤9223372036854775807)(hc0:-9223372036854775808≤c)(hc1:c≤9223372036854775807)(ht0:-9223372036854775808≤at_)(ht1:at_≤9223372036854775807)(w:World)(hg:Gl w)(hz0:0<w.heap.size)(hz:w.cell? ⟨0,0,none⟩=some qL6)(hs:Slc w T 1 (.slice bs xs.length cp) xs.length (qI7 xs))(hn:(xs.length:Int)≤9223372036854775807):
  Calls prog 4 #[.int .i64 a,.int .i64 b,.int .i64 c,.int .i64 at_,.slice bs xs.length cp] w fun e w'=>e=.returned (.bool true)∧Kp [] w w':=by
 have HZ:Hid (∀ W,Kp [] w W→W.cell? ⟨0,0,none⟩=some qL6):=fun W hK=>kA1 hz0 hz hK;clear hz0 hz;have HSL:Hid (Slc w T 1 (.slice bs xs.length cp) xs.length (qI7 xs)∧(xs.length:Int)≤9223372036854775807∧Gl w):=⟨hs,hn,hg⟩;have HTD:Hid (-9223372036854775808≤at_.tdiv 64∧at_.tdiv 64≤9223372036854775807):=by
  show -9223372036854775808≤at_.tdiv 64∧at_.tdiv 64≤9223372036854775807;rcases Int.le_total 0 at_ with h|h
  ·rw[Int.tdiv_eq_ediv_of_nonneg h];omega
  ·have h2:at_.tdiv 64=-((-at_) / 64):=by rw[←Int.tdiv_eq_ediv_of_nonneg (by omega),Int.neg_tdiv,Int.neg_neg]
   omega
 have HCC:Hid (-9223372036854775808≤c∧c≤9223372036854775807):=⟨hc0,hc1⟩;obtain⟨xl,hxl⟩:∃ xl,xl=xs.length:=⟨_,rfl⟩;have HXL:=zh hxl;rw[←hxl];clear hs hn hxl hg hc0 hc1;have HB:Hid (Calls prog 9 #[.int .i64 150,.int .i64 a] w fun e w'=>∃ db St A C s l wr nw v,e=.returned (.tuple #[.pointer (some ⟨A,0,none⟩),.pointer (some ⟨db,0,none⟩),v])∧Shop w' 300 db St A C 150 1 s emp l wr nw∧OPA w' w.heap.size v (qA6 nw.cont)∧s.wr=0∧s.bg=2∧s.N≤10∧nw.cont.length≤43∧(⟨qG4,qN1⟩:KV)∈nw.cont∧w.heap.size≤A∧w.heap.size≤C∧w.heap.size≤St∧w.heap.size≤db∧w.heap.size≤s.M∧Kp [] w w'):=jB5 150 300 (by omega) (by omega) (by omega) (by omega) a ha0 ha1 w;clear ha0 ha1;go_enter func4,ntmps4;go_wp2_with fail;refine (show Calls _ _ _ _ _ from HB.out).mono ?_;rintro e w1 ⟨db,St,A,C,s,l,wr,nw,v,rfl,hS1,ho1,hwr,hbg,hsN,hnw,_,gA,gC,gSt,gdb,gM,hK1⟩;have HS1:=zh hS1;have HO1:=zh ho1;obtain⟨ob,oc,rfl⟩:=qJ7 ho1;obtain⟨sl,hsl⟩:∃ sl,sl=(qA6 nw.cont).length:=⟨_,rfl⟩;rw[←hsl] at HO1 ⊢;have HK1:=zh hK1;have HF:Hid (Calls prog 10 #[.slice bs xl cp] w1 (zN9 w1)):=by
  have h:=xT0 bs cp xs w1 (HSL.out.1.keep0 HK1.out) HSL.out.2.1;rw[←HXL.out] at h;exact h
 clear hS1 ho1 hK1 HB hsl;go_wp2_with fail;refine (show Calls _ _ _ _ _ from HF.out).mono ?_;rintro e w2 ⟨kv,ys,rfl,hys,hrow,hK2⟩;have HS2:Hid (Shop w2 300 db St A C 150 1 s emp l wr nw):=HS1.out.more hK2;have hs1:=HK1.out.size;have HK2:Hid (Kp [] w w2):=HK1.out.tr hK2;have HR2:Hid (Bag w2 w.heap.size kv ys [(.slice ob sl oc,qA6 nw.cont)]):=⟨qF7 hrow,by simpa using OPA.keep HO1.out hK2 (by simp)⟩;obtain⟨kb,kcp,rfl⟩:=qM0 (qF7 hrow);obtain⟨kn,hkn⟩:∃ kn,kn=ys.length:=⟨_,rfl⟩;rw[←hkn] at HR2 ⊢;have HYS:=zh hys;clear hrow hK2 HS1 HO1 HK1 HF hkn hys;go_wp2_with fail;refine (qU1 b 25 hb0 hb1 (by omega) (by omega) w2).mono ?_;rintro e w2' ⟨⟨k,rfl,hk0,hk40⟩,hw⟩;rw[hw];clear hw w2';obtain⟨m,hm⟩:∃ m:Nat,(m:Int)=1+k:=⟨(1+k).toNat,by omega⟩;have HW:Hid (Calls prog 11 #[.pointer (some ⟨db,0,none⟩),.int .i64 b,.int .i64 (1+k)] w2 fun e w'=>∃ x t r v,e=.returned (.tuple #[.pointer (some ⟨x,0,none⟩),v])∧w2.heap.size≤x∧OPA w' w2.heap.size v (qA6 r.cont)∧r.cont.length≤68∧Kp [St,A] w2 w'∧Wrt w' 300 db St A C 150 1 s.wrote emp l wr nw x t r (s.bg+1)):=by
  rw[←hm];refine (zI3 HS2.out hwr (by omega) b hb0 hb1 m (by omega) (fun r' hg hz=>?_)).mono ?_
  ·have h1:=qQ7 hg;have h2:=HS2.out.bl1;omega
  ·rintro e w' ⟨x,t,r,v,e1,e0,e2,e5,_,_,e3,e4⟩;exact⟨x,t,r,v,e1,e0,e2,by omega,e3,e4⟩
 clear hm hb0 hb1;go_wp2_with fail;refine (show Calls _ _ _ _ _ from HW.out).mono ?_;rintro e w3 ⟨x,t,r,v3,rfl,hx3,ho3,hr3,hK3,hW3⟩;have hs2:=HK2.out.size;have HR3:Hid (Bag w3 w.heap.size (.slice kb kn kcp) ys [(v3,qA6 r.cont),(.slice ob sl oc,qA6 nw.cont)]):=(HR2.out.keep hK3 (HS2.out.bag.less (by simp))).add ho3 hs2;have HK3:Hid (Kp [] w w3):=HK2.out.trans hK3 (by intro i hi hlt;simp at hi;omega);obtain⟨pb,pc,rfl⟩:=qJ7 ho3;obtain⟨pl,hpl⟩:∃ pl,pl=(qA6 r.cont).length:=⟨_,rfl⟩;rw[←hpl] at HR3 ⊢;have HX3:Hid (w.heap.size≤x∧r.cont.length≤68):=⟨by omega,hr3⟩;have HW3:=zh hW3;have HG3:Hid (Gl w3):=HSL.out.2.2.keep HK3.out (by simp);clear hx3 ho3 hr3 hK3 hW3 HW HR2 HS2 HK2 hpl;go_wp2_with fail;refine (qU1 at_ 14 ht0 ht1 (by omega) (by omega) w3).mono ?_;rintro e w3' ⟨⟨k2,rfl,_,_⟩,hw⟩;rw[hw];clear hw w3';obtain⟨cq,_,hcq⟩:=HW3.out.shop.toShop0.dk;have HCQ:=zh cq.q.1;have HBD:Hid (Calls prog 20 #[.pointer (some ⟨A,0,none⟩),.int .i64 k2,.int .i64 1] w3 fun e w'=>e=.returned (.tuple #[])∧Kp [A] w3 w'∧∃ f t,Dk ⟨cq.κ.cap,cq.κ.told,cq.κ.off,f,t⟩ s.V A 150 C 0 l [] wr w'∧((1:Int)=0→t=f)):=zR2 hcq HG3.out k2 1;clear hcq;go_wp2_with fail;refine (show Calls _ _ _ _ _ from HBD.out).mono ?_;rintro e w4 ⟨rfl,hK4,f4,t4,hd4,_⟩;obtain⟨κ4,hκ4⟩:∃ κ4:Kd,κ4=⟨cq.κ.cap,cq.κ.told,cq.κ.off,f4,t4⟩:=⟨_,rfl⟩;have HQ4:Hid (κ4.off=-1):=by rw[hκ4];exact HCQ.out
 rw[←hκ4] at hd4;have HC:Hid (Calls prog 14 #[.pointer (some ⟨x,0,none⟩)] w4 fun e w'=>∃ o v,e=.returned v∧ErrE w' v o∧(o=.ok∨o=.io)∧w'.heap[x]?=some (qA3 t.ended)∧Kp [St,x,s.M,A,C] w4 w'∧∃ κ' bb l1 ws1 wr',CutsP κ4 300 db St A C 150 1 s.wrote emp (s.bg+1) nw.cont r.cont o w' κ' bb l1 ws1 wr'):=HW3.out.cutsP (by omega) (by omega) (by have:=HX3.out.2;omega) (by show s.N≤_;omega) (by simp[emp,Maps.size]) (by have:=HX3.out.2;omega) hK4 hd4;have HR4:Hid (Bag w4 w.heap.size (.slice kb kn kcp) ys [(.slice pb pl pc,qA6 r.cont),(.slice ob sl oc,qA6 nw.cont)]):=HR3.out.keep hK4 (HW3.out.shop.bag.less (by simp));have HN4:Hid (Apt w4 [St,x,s.M,A,C] qK6):=HW3.out.bag hK4 hd4;have HK4:Hid (Kp [] w w4):=HK3.out.trans hK4 (by intro i hi hlt;simp at hi;omega);have HA4:=zh hK4;have HSN:Hid (0≤s.N∧s.N≤10∧s.bg=2):=⟨HW3.out.shop.sN0,hsN,hbg⟩;have HLO:Hid (w.heap.size≤A∧w.heap.size≤C∧w.heap.size≤St∧w.heap.size≤s.M):=⟨gA,gC,gSt,gM⟩;clear hK4 hd4 HBD HR3 HK3 HG3 hκ4 HCQ;go_wp2_with fail;refine (show Calls _ _ _ _ _ from HC.out).mono ?_;rintro e w5 ⟨o,ev,rfl,hev,ho,hx5,hK5,κ5,bb,l1,ws1,wr5,hC5⟩;have hs4:=HK4.out.size;have HO:=zh ho;have HE5:=zh hev;have HX5:=zh hx5;have HC5:=zh hC5;have HR5:Hid (Bag w5 w.heap.size (.slice kb kn kcp) ys [(.slice pb pl pc,qA6 r.cont),(.slice ob sl oc,qA6 nw.cont)]):=HR4.out.keep hK5 HN4.out;have HK5:Hid (Kp [] w w5):=HK4.out.trans hK5 (by intro i hi hlt;have:=HX3.out.1;simp at hi;omega);have HA5:=zh hK5;have HG5:Hid (Gl w5):=HSL.out.2.2.keep HK5.out (by simp);have HBD:Hid (Calls prog 20 #[.pointer (some ⟨A,0,none⟩),.int .i64 0,.int .i64 0] w5 fun e w'=>e=.returned (.tuple #[])∧Kp [A] w5 w'∧∃ f t,Dk ⟨κ5.cap,κ5.told,κ5.off,f,t⟩ s.V A 150 C bb l1 ws1 wr5 w'∧((0:Int)=0→t=f)):=zR2 hC5.dk HG5.out 0 0;clear hev ho hx5 hK5 hC5 HC HR4 HK4 HN4 HG5;go_wp2_with fail;refine (show Calls _ _ _ _ _ from HBD.out).mono ?_;rintro e w6 ⟨rfl,hK6,f6,t6,hd6,ht6⟩;have ht6:=ht6 (by first | trivial | rfl);subst ht6;have hs5:=HK5.out.size;have hN6:Apt w5 [A] qK6:=by
  obtain⟨v,ca,hA,_⟩:=HC5.out.dk.hA;exact Apt.one hA (by decide)
 have hE6:ErrE w6 ev o:=HE5.out.keep hK6 (by
  obtain⟨v,ca,hA,_⟩:=HC5.out.dk.hA;intro i hi cc fr e;rw[List.mem_singleton.1 hi] at e;exact absurd rfl (qB7 hA e (by decide)))
 have HR6:Hid (Bag w6 w.heap.size (.slice kb kn kcp) ys [(.slice pb pl pc,qA6 r.cont),(.slice ob sl oc,qA6 nw.cont)]):=HR5.out.keep hK6 hN6;have HK6:Hid (Kp [] w w6):=HK5.out.trans hK6 (by intro i hi hlt;simp at hi;omega);obtain⟨q,Mx,δ,hq,hδ,hmid⟩:=HW3.out.mid (b0:=w.heap.size) (xR2 _) (by omega) (by show s.bg+1≤_;omega) HA4.out HA5.out HX5.out HC5.out HO.out HQ4.out hK6 hd6 gSt gM;have HM6:=zh hmid;obtain⟨N6,rb6,rs6,rr,hrd⟩:=HC5.out.reads;rw[←hδ] at hrd;have HRD:Hid (_∧_∧_∧_∧_∧_∧s.N≤N6∧N6≤s.N+2):=hrd;have HT:Hid (Calls prog 21 #[ev] w6 fun e w'=>e=.returned (.int .i64 o.n)∧Kp [] w6 w'):=jW0 hE6 HO.out (HZ.out w6 HK6.out);have HEV:Hid ((q=false∧o=.ok∧ev=.nilIface)∨(q=true∧o=.io∧∃ F,ev=.iface 180 (.pointer (some ⟨F,0,none⟩)))):=by
  rcases hq with⟨e1,e2⟩|⟨e1,e2⟩
  ·subst e2;exact .inl ⟨e1,rfl,hE6⟩
  ·subst e2;obtain⟨F,_,_,e3,_⟩:=hE6;exact .inr ⟨e1,rfl,F,e3⟩
 have HRL:Hid (rr.cont.length≤68∧N6≤12∧w.heap.size≤A∧w.heap.size≤C∧0≤N6):=⟨by have:=HX3.out.2;rcases hrd.2.2.2.1 with e | e<;>rw[e]<;>omega,by have:=HRD.out.2.2.2.2.2.2.2;omega,gA,gC,by have:=HRD.out.2.2.2.2.2.2.1;have:=HSN.out.1;omega⟩;clear hK6 hd6 hN6 hE6 hq hδ hmid hrd HBD HR5 HK5 HE5 HX5 HC5 HA4 HA5 HW3 HO HQ4;go_wp2_with fail;refine (show Calls _ _ _ _ _ from HT.out).mono ?_;rintro e w7 ⟨rfl,hK7⟩;have HA7:=zh hK7;have HR7:Hid (Bag w7 w.heap.size (.slice kb kn kcp) ys [(.slice pb pl pc,qA6 r.cont),(.slice ob sl oc,qA6 nw.cont)]):=HR6.out.keep0 hK7;have HK7:Hid (Kp [] w w7):=HK6.out.tr hK7;have HBG:Hid (Calls prog 22 #[.pointer (some ⟨db,0,none⟩),.bool false] w7 fun e w'=>∃ p v,e=.returned (.tuple #[.pointer p,v])∧qI6 w' v (cond q (some 7) none)∧Sick q w' St∧Kp [St,Mx] w7 w'):=HM6.out.beg w7 hK7;obtain⟨en,hen⟩:∃ en,en=o.n:=⟨_,rfl⟩;have HEN:=zh hen;rw[←hen];clear hK7 hen HT HR6 HK6;go_wp2_with fail;refine (show Calls _ _ _ _ _ from HBG.out).mono ?_;rintro e w8 ⟨p8,v8,rfl,hv8,hk8,hK8⟩;have HR8:Hid (Bag w8 w.heap.size (.slice kb kn kcp) ys [(.slice pb pl pc,qA6 r.cont),(.slice ob sl oc,qA6 nw.cont)]):=HR7.out.keep hK8 (HM6.out.begun HA7.out hK8).2.2;have HK8:Hid (Kp [] w w8):=HK7.out.trans hK8 (by intro i hi hlt;have:=HM6.out.lo;simp at hi;omega);have HD8:Hid (w8.heap[x]?=some (qA3 t.ended)∧Devn A 150 C δ wr5 w8):=⟨(HM6.out.begun HA7.out hK8).1,(HM6.out.begun HA7.out hK8).2.1⟩;have HS8:=zh hk8;have HT:Hid (Calls prog 21 #[v8] w8 fun e w'=>e=.returned (.int .i64 ((cond q (some 7) none).getD 0))∧Kp [] w8 w'):=xG5 hv8 (HZ.out w8 HK8.out);have HMO:Hid (t.ended.over=true∧t.ended.St=St):=⟨HM6.out.ov,HM6.out.st⟩;obtain⟨fn,hfn⟩:∃ fn:Int,fn=(cond q (some 7) none).getD 0:=⟨_,rfl⟩;have HFN:=zh hfn;rw[←hfn] at HT;clear hv8 hk8 hK8 hfn HBG HR7 HK7 HA7 HM6;go_wp2_with fail;refine (show Calls _ _ _ _ _ from HT.out).mono ?_;rintro e w9 ⟨rfl,hK9⟩;have HR9:Hid (Bag w9 w.heap.size (.slice kb kn kcp) ys [(.slice pb pl pc,qA6 r.cont),(.slice ob sl oc,qA6 nw.cont)]):=HR8.out.keep0 hK9;have HK9:Hid (Kp [] w w9):=HK8.out.tr hK9;have HD9:Hid (w9.heap[x]?=some (qA3 t.ended)∧Devn A 150 C δ wr5 w9):=⟨hK9.hp HD8.out.1,HD8.out.2.keep0 hK9⟩;have HS9:Hid (Sick q w9 St):=HS8.out.keep0 hK9;clear hK9 HT HR8 HK8 HD8 HS8;go_wp2_with fail;refine (xW9 _ HD9.out.1 HMO.out.1 HMO.out.2 HS9.out).mono ?_;rintro e w10 ⟨v10,rfl,hv10,hK10⟩;have HR10:Hid (Bag w10 w.heap.size (.slice kb kn kcp) ys [(.slice pb pl pc,qA6 r.cont),(.slice ob sl oc,qA6 nw.cont)]):=HR9.out.keep hK10 HS9.out.apt;have HK10:Hid (Kp [] w w10):=HK9.out.trans hK10 (by intro i hi hlt;have:=HLO.out;simp at hi;omega);have HD10:Hid (Devn A 150 C δ wr5 w10):=HD9.out.2.keep hK10 HS9.out.offd;have HT:Hid (Calls prog 21 #[v10] w10 fun e w'=>e=.returned (.int .i64 (if q then 7 else 5))∧Kp [] w10 w'):=xG5 hv10 (HZ.out w10 HK10.out);obtain⟨gn,hgn⟩:∃ gn:Int,gn=if q then 7 else 5:=⟨_,rfl⟩
 have HGN:=zh hgn;rw[←hgn] at HT;clear hv10 hK10 hgn HR9 HK9 HD9 HS9;go_wp2_with fail;refine (show Calls _ _ _ _ _ from HT.out).mono ?_;rintro e w11 ⟨rfl,hK11⟩;have HR11:Hid (Bag w11 w.heap.size (.slice kb kn kcp) ys [(.slice pb pl pc,qA6 r.cont),(.slice ob sl oc,qA6 nw.cont)]):=HR10.out.keep0 hK11;have HK11:Hid (Kp [] w w11):=HK10.out.tr hK11;have HD11:Hid (Devn A 150 C δ wr5 w11):=HD10.out.keep0 hK11;have HG0:=zh HSL.out.2.2;have HB1:Hid ((ev=.nilIface∧en=0∧fn=0∧gn=5∧Hid (o=.ok))∨(∃ F,ev=.iface 180 (.pointer (some ⟨F,0,none⟩))∧en=8∧fn=7∧gn=7∧Hid (o=.io))):=by
  have h1:=HEN.out;have h2:=HFN.out;have h3:=HGN.out;rcases HEV.out with⟨e1,e2,rfl⟩|⟨e1,e2,F,rfl⟩
  ·rw[e1] at h2 h3;rw[e2] at h1;exact .inl ⟨rfl,h1,h2,h3,e2⟩
  ·rw[e1] at h2 h3;rw[e2] at h1;exact .inr ⟨F,rfl,h1,h2,h3,e2⟩
 clear hK11 HT HR10 HK10 HD10 HEN HFN HGN HEV HSL HXL HMO gA gC gSt gM gdb hwr hbg hsN hnw;rcases HB1.out with⟨rfl,rfl,rfl,rfl,HOK⟩|⟨F,rfl,rfl,rfl,rfl,HOK⟩
 all_goals
  clear HB1;have HOP:Hid (Calls prog 16 #[.pointer (some ⟨A,0,none⟩)] w11 fun e w'=>∃ V M St Db,e=.returned (.tuple #[.pointer (some ⟨Db,0,none⟩),.nilIface])∧w11.heap.size≤V∧w11.heap.size≤M∧w11.heap.size≤St∧w11.heap.size≤Db∧Shop w' 300 Db St A C 150 0 ⟨V,M,N6,rb6,rs6,qC4 rr,false,0,0⟩ emp δ.l wr5 rr∧Kp [A,C] w11 w'):=xD4 A 150 C 300 δ wr5 N6 rb6 rs6 rr w11 HD11.out (by omega) (by omega) HRD.out.1 HRD.out.2.1 HRD.out.2.2.1 HRD.out.2.2.2.2.2.1 (by omega) HRL.out.2.2.2.2;have HN11:Hid (Apt w11 [A,C] qK6):=by
   obtain⟨v,ca,hA,_⟩:=HD11.out.hA;exact Apt.cons (Apt.one hA (by decide)) (Apt.one HD11.out.hC (by decide))
  obtain⟨l2,hl2⟩:∃ l2,l2=δ.l:=⟨_,rfl⟩;rw[←hl2] at HOP;clear hl2 HD11;go_wp2_with fail;refine (show Calls _ _ _ _ _ from HOP.out).mono ?_;rintro e w12 ⟨V2,M2,St2,Db,rfl,gV,gM2,gSt2,gDb2,hS12,hK12⟩;have hs11:=HK11.out.size;have HR12:Hid (Bag w12 w.heap.size (.slice kb kn kcp) ys [(.slice pb pl pc,qA6 r.cont),(.slice ob sl oc,qA6 nw.cont)]):=HR11.out.keep hK12 HN11.out;have HK12:Hid (Kp [] w w12):=HK11.out.trans hK12 (by intro i hi hlt;have:=HRL.out;simp at hi;omega);have HNOW:Hid (Calls prog 17 #[.pointer (some ⟨Db,0,none⟩)] w12 fun e w'=>∃ v,e=.returned (.tuple #[v,.bool true])∧OPA w' w12.heap.size v (qA6 rr.cont)∧Shop w' 300 Db St2 A C 150 1 ⟨V2,M2,N6,rb6,rs6,qC4 rr,false,1,0⟩ ((emp.put (ι 1) (qE4 ⟨⟨#[]⟩,rb6,rs6,none⟩)).del (ι 1)) l2 wr5 rr∧Kp [St2,M2,A] w12 w'):=
   zI2 hS12 (by simp[emp,Maps.size]) (by omega) (by show (0:Int)≤_;omega) (by show (0:Int)≤0;omega)
  have HN12:Hid (Apt w12 [St2,M2,A] qK6):=hS12.bag.less (by simp);have HGE:Hid (w.heap.size≤St2∧w.heap.size≤M2):=⟨by omega,by omega⟩;clear gV gM2 gSt2 gDb2 hS12 hK12 HOP HN11 HR11 HK11;go_wp2_with fail;refine (show Calls _ _ _ _ _ from HNOW.out).mono ?_;rintro e w8 ⟨v8,rfl,ho8,hS8,hK8⟩;have hs12:=HK12.out.size;have HR8:Hid (Bag w8 w.heap.size (.slice kb kn kcp) ys [(v8,qA6 rr.cont),(.slice pb pl pc,qA6 r.cont),(.slice ob sl oc,qA6 nw.cont)]):=(HR12.out.keep hK8 HN12.out).add ho8 hs12;have HK8:Hid (Kp [] w w8):=HK12.out.trans hK8 (by intro i hi hlt;have:=HGE.out;have:=HRL.out;simp at hi;omega);have HS8:=zh hS8;have HAL:Hid ((qA6 rr.cont).length≤1000000):=by have:=zO6 rr.cont;have:=HRL.out;exact (by omega:(qA6 rr.cont).length≤1000000)
  have HSM:Hid (Calls prog 18 #[v8,.slice ob sl oc] w8 fun e w'=>e=.returned (.bool (decide (qA6 rr.cont=qA6 nw.cont)))∧Kp [] w8 w'):=zB4 _ _ _ _ _ _ w8 (HR8.out.2 _ (.head _)) (HR8.out.2 _ (.tail _ (.tail _ (.head _)))) HAL.out;obtain⟨ob8,oc8,rfl⟩:=qJ7 ho8;obtain⟨ql,hql⟩:∃ ql,ql=(qA6 rr.cont).length:=⟨_,rfl⟩;rw[←hql] at HSM HR8 ⊢;clear ho8 hK8 hS8 HNOW HN12 HR12 HK12 hql;go_wp2_with fail;refine (show Calls _ _ _ _ _ from HSM.out).mono ?_;rintro e w9 ⟨rfl,hK9⟩;have HR9:Hid (Bag w9 w.heap.size (.slice kb kn kcp) ys [(.slice ob8 ql oc8,qA6 rr.cont),(.slice pb pl pc,qA6 r.cont),(.slice ob sl oc,qA6 nw.cont)]):=HR8.out.keep0 hK9;have HK9:Hid (Kp [] w w9):=HK8.out.tr hK9;have HS9:Hid (Shop w9 300 Db St2 A C 150 1 ⟨V2,M2,N6,rb6,rs6,qC4 rr,false,1,0⟩ ((emp.put (ι 1) (qE4 ⟨⟨#[]⟩,rb6,rs6,none⟩)).del (ι 1)) l2 wr5 rr):=HS8.out.more hK9;have HS2:Hid (Calls prog 18 #[.slice ob8 ql oc8,.slice pb pl pc] w9 fun e w'=>e=.returned (.bool (decide (qA6 rr.cont=qA6 r.cont)))∧Kp [] w9 w'):=zB4 _ _ _ _ _ _ w9 (HR9.out.2 _ (.head _)) (HR9.out.2 _ (.tail _ (.head _))) HAL.out;obtain⟨q1,hq1⟩:∃ q1,q1=decide (qA6 rr.cont=qA6 nw.cont):=⟨_,rfl⟩;rw[←hq1];have HQ1:=zh hq1;clear hK9 HSM HR8 HK8 HS8 hq1;go_wp2_with fail;refine (show Calls _ _ _ _ _ from HS2.out).mono ?_;rintro e w10 ⟨rfl,hK10⟩;have HR10:Hid (Bag w10 w.heap.size (.slice kb kn kcp) ys [(.slice ob8 ql oc8,qA6 rr.cont)]):=⟨(HR9.out.keep0 hK10).1,by simpa using (HR9.out.keep0 hK10).2 _ (.head _)⟩;have HK10:Hid (Kp [] w w10):=HK9.out.tr hK10;have HS10:Hid (Shop w10 300 Db St2 A C 150 1 ⟨V2,M2,N6,rb6,rs6,qC4 rr,false,1,0⟩ ((emp.put (ι 1) (qE4 ⟨⟨#[]⟩,rb6,rs6,none⟩)).del (ι 1)) l2 wr5 rr):=HS9.out.more hK10;obtain⟨q2,hq2⟩:∃ q2,q2=decide (qA6 rr.cont=qA6 r.cont):=⟨_,rfl⟩;rw[←hq2];have HB2:=jQ2 HRD.out.2.2.2.1 HRD.out.2.2.2.2.1 HQ1.out hq2;clear hK10 HS2 HR9 HK9 HS9 hq2 HQ1 HRD;rcases HB2.out with⟨rfl,rfl⟩|⟨rfl,rfl⟩|⟨rfl,rfl,hno⟩
  all_goals try exact absurd HOK.out hno
  all_goals
   clear HB2
   try clear hno
   go_wp2_with fail;refine (qU1 c 25 HCC.out.1 HCC.out.2 (by omega) (by omega) w10).mono ?_;rintro e w10' ⟨⟨k3,rfl,hk30,hk31⟩,hw⟩;rw[hw];clear hw w10';have HW:Hid (Calls prog 11 #[.pointer (some ⟨Db,0,none⟩),.int .i64 c,.int .i64 (1+k3)] w10 fun e w'=>∃ x t r v,e=.returned (.tuple #[.pointer (some ⟨x,0,none⟩),v])∧w10.heap.size≤x∧OPA w' w10.heap.size v (qA6 r.cont)∧r.cont.length≤93∧Kp [St2,A] w10 w'∧Wrt w' 300 Db St2 A C 150 1 (Sto.wrote ⟨V2,M2,N6,rb6,rs6,qC4 rr,false,1,0⟩) ((emp.put (ι 1) (qE4 ⟨⟨#[]⟩,rb6,rs6,none⟩)).del (ι 1)) l2 wr5 rr x t r 2):=by
    obtain⟨m,hm⟩:∃ m:Nat,(m:Int)=1+k3:=⟨(1+k3).toNat,by omega⟩;rw[←hm];have hrl:=HRL.out;refine (zI3 HS10.out rfl (by show (1:Int)≤_;omega) c HCC.out.1 HCC.out.2 m (by omega) (fun r' hg hz=>?_)).mono ?_
    ·have h1:=qQ7 hg;have h2:=HS10.out.bl1;omega
    ·rintro e w' ⟨x,t,r,v,e1,e0,e2,e5,_,_,e3,e4⟩;exact⟨x,t,r,v,e1,e0,e2,by omega,e3,e4⟩
   go_wp2_with fail;refine (show Calls _ _ _ _ _ from HW.out).mono ?_;rintro e w11 ⟨x2,t2,r2,v11,rfl,hx11,ho11,hr11,hK11,hW11⟩;have hs10:=HK10.out.size;have HR11:Hid (Bag w11 w.heap.size (.slice kb kn kcp) ys [(v11,qA6 r2.cont),(.slice ob8 ql oc8,qA6 rr.cont)]):=(HR10.out.keep hK11 (HS10.out.bag.less (by simp))).add ho11 hs10;have HK11:Hid (Kp [] w w11):=HK10.out.trans hK11 (by intro i hi hlt;have:=HGE.out;have:=HRL.out;simp at hi;omega);obtain⟨pb2,pc2,rfl⟩:=qJ7 ho11;obtain⟨pl2,hpl2⟩:∃ pl2,pl2=(qA6 r2.cont).length:=⟨_,rfl⟩;rw[←hpl2] at HR11 ⊢;have HX11:Hid (w.heap.size≤x2∧r2.cont.length≤93):=⟨by omega,hr11⟩;have HW11:=zh hW11;have HG11:Hid (Gl w11):=HG0.out.keep HK11.out (by simp);clear hx11 ho11 hr11 hK11 hW11 HW HR10 HS10 HK10 hpl2;go_wp2_with fail;refine (qU1 (at_.tdiv 64) 10 HTD.out.1 HTD.out.2 (by omega) (by omega) w11).mono ?_;rintro e w11' ⟨⟨k4,rfl,_,_⟩,hw⟩;rw[hw];clear hw w11';have HOFF:Hid (Calls prog 13 #[.pointer (some ⟨A,0,none⟩),.int .i64 k4] w11 fun e w'=>e=.returned (.tuple #[])∧Kp [A] w11 w'∧∃ κ',Dk κ' V2 A 150 C 0 l2 [] wr5 w'):=jJ6 (Classical.choose_spec HW11.out.shop.toShop0.dk).2 HG11.out k4;go_wp2_with fail;refine (show Calls _ _ _ _ _ from HOFF.out).mono ?_;rintro e w12 ⟨rfl,hK12,κ12,hd12⟩;have HC:Hid (Calls prog 14 #[.pointer (some ⟨x2,0,none⟩)] w12 fun e w'=>∃ o v,e=.returned v∧((v=.nilIface∧o=.ok)∨∃ F,v=.iface 180 (.pointer (some ⟨F,0,none⟩))∧o≠.ok)∧Kp [St2,x2,M2,A,C] w12 w'∧Cuts V2 A 150 C 300 N6 rr.cont r2.cont o w'):=HW11.out.cuts (by omega) (by omega) (by have:=HX11.out.2;omega) (by have:=HRL.out;show N6≤_;omega) (jT5 _ _) (by have:=HX11.out.2;have:=HRL.out;omega) hK12 hd12;have HR12:Hid (Bag w12 w.heap.size (.slice kb kn kcp) ys [(.slice pb2 pl2 pc2,qA6 r2.cont),(.slice ob8 ql oc8,qA6 rr.cont)]):=HR11.out.keep hK12 (HW11.out.shop.bag.less (by simp));have HN12:Hid (Apt w12 [St2,x2,M2,A,C] qK6):=HW11.out.bag hK12 hd12;have HK12:Hid (Kp [] w w12):=HK11.out.trans hK12 (by intro i hi hlt;have:=HRL.out;simp at hi;omega);clear hK12 hd12 HOFF HR11 HK11 HG11 HW11;go_wp2_with fail;refine (show Calls _ _ _ _ _ from HC.out).mono ?_;rintro e w13 ⟨o2,ev2,rfl,hev2,hK13,hcut2⟩;have hs12:=HK12.out.size;have HEV2:=zh hev2;have HR13:Hid (Bag w13 w.heap.size (.slice kb kn kcp) ys [(.slice pb2 pl2 pc2,qA6 r2.cont),(.slice ob8 ql oc8,qA6 rr.cont)]):=HR12.out.keep hK13 HN12.out;have HK13:Hid (Kp [] w w13):=HK12.out.trans hK13 (by intro i hi hlt;have:=HX11.out.1;have:=HGE.out;have:=HRL.out;simp at hi;omega);obtain⟨κ13,bb13,l13,ws13,wr13,hd13,hl13⟩:=hcut2.lies;have HL13:=zh hl13;have HAF:Hid (Calls prog 15 #[.pointer (some ⟨A,0,none⟩),.slice kb kn kcp] w13 (qY2 150 l13 ws13 w13)):=xI9 hd13 (by omega) 3 _ ys HR13.out.1 (by have:=HYS.out;omega);clear hev2 hK13 hcut2 hd13 hl13 HC HR12 HK12 HN12;go_wp2_with fail;refine (show Calls _ _ _ _ _ from HAF.out).mono ?_;rintro e w14 ⟨A14,C14,l14,rfl,gA14,gC14,hne14,hA14,hC14,hmx14,hK14⟩;obtain⟨N14,rb14,rs14,r3,hH14,hL14,hG14,hor14,hok14,hkc14,hn14,_⟩:=HL13.out l14 hmx14;have HOR14:Hid ((r3.cont=rr.cont∨r3.cont=r2.cont)∧(o2=.ok→r3.cont=r2.cont)):=⟨hor14,hok14⟩;have hs13:=HK13.out.size;have HR14:Hid (Bag w14 w.heap.size (.slice kb kn kcp) ys [(.slice pb2 pl2 pc2,qA6 r2.cont),(.slice ob8 ql oc8,qA6 rr.cont)]):=HR13.out.keep0 hK14;have HK14:Hid (Kp [] w w14):=HK13.out.tr hK14;have HFD:Hid (Calls prog 19 #[.pointer (some ⟨A14,0,none⟩)] w14 fun e w'=>∃ v,e=.returned (.tuple #[v,.bool true])∧OPA w' w14.heap.size v (qA6 r3.cont)∧Kp [A14,C14] w14 w'):=xV8 A14 150 C14 0 0 l14 N14 rb14 rs14 r3 w14 hA14 (by omega) (by omega) hC14 hmx14.len hH14 hL14 hG14 hkc14 (by have:=HRL.out;omega);have HN14:Hid (Apt w14 [A14,C14] qK6):=Apt.cons (Apt.one hA14 (by decide)) (Apt.one hC14 (by decide));have HGE14:Hid (w.heap.size≤A14∧w.heap.size≤C14∧r3.cont.length≤300):=⟨by omega,by omega,hkc14⟩;clear gA14 gC14 hA14 hC14 hmx14 hK14 hH14 hL14 hG14 hor14 hok14 hkc14 hn14 HAF HL13 HR13 HK13;go_wp2_with fail;refine (show Calls _ _ _ _ _ from HFD.out).mono ?_;rintro e w15 ⟨v15,rfl,ho15,hK15⟩;have hs14:=HK14.out.size;have HR15:Hid (Bag w15 w.heap.size (.slice kb kn kcp) ys [(v15,qA6 r3.cont),(.slice pb2 pl2 pc2,qA6 r2.cont),(.slice ob8 ql oc8,qA6 rr.cont)]):=(HR14.out.keep hK15 HN14.out).add ho15 hs14;have HK15:Hid (Kp [] w w15):=HK14.out.trans hK15 (by intro i hi hlt;have:=HGE14.out;simp at hi;omega);have HAL:Hid ((qA6 r3.cont).length≤1000000):=by have:=zO6 r3.cont;have:=HGE14.out;exact (by omega:(qA6 r3.cont).length≤1000000)
   have HSM:Hid (Calls prog 18 #[v15,.slice ob8 ql oc8] w15 fun e w'=>e=.returned (.bool (decide (qA6 r3.cont=qA6 rr.cont)))∧Kp [] w15 w'):=zB4 _ _ _ _ _ _ w15 (HR15.out.2 _ (.head _)) (HR15.out.2 _ (.tail _ (.tail _ (.head _)))) HAL.out;obtain⟨ob15,oc15,rfl⟩:=qJ7 ho15;obtain⟨zl,hzl⟩:∃ zl,zl=(qA6 r3.cont).length:=⟨_,rfl⟩;rw[←hzl] at HSM HR15 ⊢;clear ho15 hK15 HFD HN14 HR14 HK14 hzl;go_wp2_with fail;refine (show Calls _ _ _ _ _ from HSM.out).mono ?_;rintro e w16 ⟨rfl,hK16⟩;have HR16:Hid (Bag w16 w.heap.size (.slice kb kn kcp) ys [(.slice ob15 zl oc15,qA6 r3.cont),(.slice pb2 pl2 pc2,qA6 r2.cont),(.slice ob8 ql oc8,qA6 rr.cont)]):=HR15.out.keep0 hK16;have HK16:Hid (Kp [] w w16):=HK15.out.tr hK16;have HS2:Hid (Calls prog 18 #[.slice ob15 zl oc15,.slice pb2 pl2 pc2] w16 fun e w'=>e=.returned (.bool (decide (qA6 r3.cont=qA6 r2.cont)))∧Kp [] w16 w'):=zB4 _ _ _ _ _ _ w16 (HR16.out.2 _ (.head _)) (HR16.out.2 _ (.tail _ (.head _))) HAL.out;obtain⟨p1,hp1⟩:∃ p1,p1=decide (qA6 r3.cont=qA6 rr.cont):=⟨_,rfl⟩;rw[←hp1];have HP1:=zh hp1;clear hK16 HSM HR15 HK15 hp1;go_wp2_with fail;refine (show Calls _ _ _ _ _ from HS2.out).mono ?_;rintro e w17 ⟨rfl,hK17⟩;have HK17:Hid (Kp [] w w17):=HK16.out.tr hK17;obtain⟨p2,hp2⟩:∃ p2,p2=decide (qA6 r3.cont=qA6 r2.cont):=⟨_,rfl⟩;rw[←hp2];have HOR:Hid ((p1=true∨p2=true)∧(o2=.ok→p2=true)):=by
    refine⟨?_,fun h=>by rw[hp2,HOR14.out.2 h];simp⟩;rcases HOR14.out.1 with e|e
    ·exact .inl (by rw[HP1.out,e];simp)
    ·exact .inr (by rw[hp2,e];simp)
   clear hK17 HS2 HR16 HK16 hp2 HP1 HOR14;have HB3:Hid ((ev2=.nilIface∧p1=true∧p2=true)∨(ev2=.nilIface∧p1=false∧p2=true)∨(∃ F,ev2=.iface 180 (.pointer (some ⟨F,0,none⟩))∧p1=true∧p2=true)∨(∃ F,ev2=.iface 180 (.pointer (some ⟨F,0,none⟩))∧p1=true∧p2=false)∨(∃ F,ev2=.iface 180 (.pointer (some ⟨F,0,none⟩))∧p1=false∧p2=true)):=by
    have h:=HOR.out;rcases HEV2.out with⟨rfl,rfl⟩|⟨F,rfl,_⟩<;>cases p1<;>cases p2<;>simp at h<;>simp[Hid]
   clear HEV2 HOR;rcases HB3.out with⟨rfl,rfl,rfl⟩|⟨rfl,rfl,rfl⟩|⟨F,rfl,rfl,rfl⟩|⟨F,rfl,rfl,rfl⟩|⟨F,rfl,rfl,rfl⟩
   all_goals
    clear HB3;go_wp2;go_ret;exact⟨rfl,HK17.out⟩
end Go.Proofs.YtdohpenfkdckiabGreatDoor
namespace Go.Proofs.YtdohpenfkdckiabGreatDoor
open Go.Proofs.Tryz
open Go.ChangeShapes Go.WideShapes Go.RowKit Go.Deep
theorem zE4{n:Int}(h:(Lit.int .i64 n).wf=true):-9223372036854775808≤n∧n≤9223372036854775807:=by
 simp[Lit.wf,IntKind.min,IntKind.max,IntKind.bits,IntKind.signed] at h;omega
theorem zY8:laidOutB prog=true:=by kernel_rfl
theorem jR4:ownKnob prog.godebug=none:=by kernel_rfl
theorem jR1:prog.globalNamed "errors.errorType"=some 0:=by kernel_rfl
theorem jR5:(prog.cutTypes.find? (·.1 == "internal/reflectlite.rtype")).map (·.2)=some 196:=by kernel_rfl
theorem jR3:((List.range 345).filter fun t=>prog.rowNamed t [101,114,114,111,114])=[35]:=by kernel_rfl
theorem jR6:prog.types.size=345:=by kernel_rfl
theorem xY4{W:World}(h:laidMetH prog Rows.poisonedRow.laid W):W.cell? ⟨0,0,none⟩=some qL6:=by
 have h':laidMet prog (Rows.poisonedRow.laid.filter fun x=>x.2.handleName?.isNone) W∧handlesMet prog [("errors.errorType",Rows.laid_errors_errorType)] W:=h;obtain⟨name,u,ty,e1,e2,e3,e4,e5⟩:=h'.2 _ (List.mem_singleton.2 rfl);have en:name=[101,114,114,111,114]:=(Option.some.inj e1).symm;subst en;obtain rfl:=Option.some.inj (jR5.symm.trans e2);have hm:ty∈(List.range 345).filter fun t=>prog.rowNamed t [101,114,114,111,114]:=List.mem_filter.2 ⟨List.mem_range.2 (by rw[←jR6];exact e3),e4⟩;rw[jR3] at hm;obtain rfl:=List.mem_singleton.1 hm;have hh:typeHandle prog 35=.pointer (some ⟨5,35,none⟩):=by kernel_rfl
 rw[hh] at e5;simpa [qL6] using World.var?_cell jR1 e5 0
theorem jR7(os:Os)(H:Type)(enc:TypeId × Value→H):
  ∃ (w:World) (tape:Tape) (i:Input),w.os=os∧(w.forCall tape i).Shaped prog∧i.vars=[]∧Input.okWide prog (w.forCall tape i) .any w.heap.size 4 i∧
   ((Rows.poisonedSpec.pre enc prog f4 [] false (w.forCall tape i).memory i.args∧laidMetH prog Rows.poisonedRow.laid (w.forCall tape i).memory)∧sizedMet enc prog f4 (OpenSpec.ofChange Rows.poisonedSpec) false (w.forCall tape i).memory i.args)∧({}:Assume).holds prog (lone (Frame.enter prog 4 i.args .normal) [] (w.forCall tape i)):=
 ChangeSpec.witness_at (enc:=enc) (C:=checked) (os:=os) (X:=fun w _=>laidMetH prog Rows.poisonedRow.laid w) false ({ World.laidAll prog os (Rows.poisonedRow.laid.filter fun x=>x.2.handleName?.isNone) with heap:=(World.laidAll prog os (Rows.poisonedRow.laid.filter fun x=>x.2.handleName?.isNone)).heap.modify 0 fun o=>match o with | .cells _ t frozen=>.cells #[qL6] t frozen | o=>o }) #[.int .i64 0,.int .i64 0,.int .i64 0,.int .i64 0,.slice none 0 0] 8 rfl (by kernel_rfl) (by kernel_rfl) (by kernel_rfl) (by kernel_rfl) (by kernel_rfl) (laidMetH_of_parts (laidMet_of_run' 8 (by kernel_rfl) (by kernel_rfl)) (by kernel_rfl))
end Go.Proofs.YtdohpenfkdckiabGreatDoor
namespace Go.Proofs.YtdohpenfkdckiabGreatDoor
open Go.Proofs.Tryz
open Go Go.ChangeShapes Go.WideShapes Go.RowKit Go.Deep
theorem xO5:prog.cellsOf 3=1:=by kernel_rfl
theorem jO2{H:Type}{enc:TypeId × Value→H}{W:World}{fuel:Nat}{c0:Value}{x:DataW H × List MemPlace}(h:DataW.trod enc prog W 0 (fun _=>true) true fuel 22 [c0]=some x):
  ∃ (T:TypeId) (bs:Option Addr) (cp:Nat) (xs:List Int),c0=.slice bs xs.length cp∧Slc W T 1 (.slice bs xs.length cp) xs.length (qI7 xs)∧(xs.length:Int)≤9223372036854775807:=by
 rcases open_slice underlying22 h with⟨hc,_⟩|⟨a,len,cap,m,k,D,Pl,hc,_,hl,hmx,hmm,_,hall⟩
 ·simp only[List.cons.injEq,and_true] at hc;exact⟨0,none,0,[],hc,⟨rfl,.inl ⟨rfl,none,0,rfl,fun _=>rfl⟩⟩,by simp⟩
 ·simp only[List.cons.injEq,and_true] at hc;simp only[if_true] at hmm;rw[xO5] at hall;obtain⟨f,hfs⟩:=choose_lt (n:=len) (p:=fun i (o:Int)=>W.cell? (a.add (i*1))=some (.int .i64 o)) (fun i hi=>by
   obtain⟨cs',h1,h2⟩:=hall i (by omega);obtain⟨_,hlen,hcell⟩:=World.cells?_some h1;obtain⟨k0,e0,_,f0⟩:=DataW.trod_int underlying3 h2;subst e0;exact⟨k0,by simpa [Addr.add] using hcell 0 (by omega)⟩)
  have hl2:((List.range len).map f).length=len:=by simp
  have hmx2:(len:Int)≤9223372036854775807:=by unfold maxLen at hmx;omega
  by_cases h0:len=0
  ·subst h0;exact⟨0,some a,cap,[],by simpa using hc,⟨rfl,.inl ⟨rfl,some a,cap,rfl,fun h=>by cases h⟩⟩,by simp⟩
  ·obtain⟨b,off,spot⟩:=a;have g0:=hfs 0 (by omega);have hspot:spot=none:=by simpa [Addr.add] using World.cell?_spot (v:=.int .i64 (f 0)) g0
   subst hspot;obtain⟨cur,T,fr,hb⟩:∃ cur T fr,W.heap[b]?=some (.cells cur T fr):=by
    have h1:=g0;unfold World.cell? at h1;simp only[Addr.add] at h1;split at h1
    ·exact⟨_,_,_,by assumption⟩
    ·cases h1
   refine⟨T,some ⟨b,off,none⟩,cap,(List.range len).map f,by rw[hl2];exact hc,?_,by rw[hl2];exact hmx2⟩;refine⟨by simp[qI7],.inr ⟨b,off,cap,cur,fr,rfl,by rw[hl2];omega,by rw[hl2];exact hl,hb,fun j u hu=>?_⟩⟩;have hj:j<len:=by
    have:=(List.getElem?_eq_some_iff.1 hu).1;simpa [qI7] using this
   have e1:u=.int .i64 (f j):=by simpa [qI7,hj] using hu.symm
   have h2:=hfs j hj;rw[qM5,ξ hb,Nat.mul_one] at h2;subst e1;exact h2
section
variable {H:Type} {enc:TypeId × Value→H}
theorem jW7{P:Program}{w:World}{base:Nat}{spare:Nat→Bool}{held:Bool}{t0 t1 t2 t3 t4:TypeId}{args:Array Value}{ds:List (DataW H)}{ps:List MemPlace}(h:DataW.TrodAll enc P w base spare held [t0,t1,t2,t3,t4] args.toList ds ps):
  ∃ v0 v1 v2 v3 v4 d0 d1 d2 d3 d4 p0 p1 p2 p3 p4,args=#[v0,v1,v2,v3,v4]∧ds=[d0,d1,d2,d3,d4]∧ps=p0++p1++p2++p3++p4∧DataW.Trod enc P w base spare held t0 v0 d0 p0∧DataW.Trod enc P w base spare held t1 v1 d1 p1∧DataW.Trod enc P w base spare held t2 v2 d2 p2∧DataW.Trod enc P w base spare held t3 v3 d3 p3∧DataW.Trod enc P w base spare held t4 v4 d4 p4:=by
 obtain⟨v,vs,d,ds',p,q,hargs,rfl,rfl,hd,hrest⟩:=trodAll_cons h;obtain⟨v1,v2,v3,v4,d1,d2,d3,d4,p1,p2,p3,p4,e1,rfl,rfl,h1,h2,h3,h4⟩:=trodAll_four (args:=vs.toArray) (by simpa using hrest);exact⟨v,v1,v2,v3,v4,d,d1,d2,d3,d4,p,p1,p2,p3,p4,by cases args;simp_all,rfl,by simp,hd,h1,h2,h3,h4⟩
theorem jW8{P:Program}{w:World}{base:Nat}{spare:Nat→Bool}{held:Bool}{t0 t1 t2 t3 t4:TypeId}{v0 v1 v2 v3 v4:Value}{d0 d1 d2 d3 d4:DataW H}{p0 p1 p2 p3 p4:List MemPlace}(h0:DataW.Trod enc P w base spare held t0 v0 d0 p0)(h1:DataW.Trod enc P w base spare held t1 v1 d1 p1)(h2:DataW.Trod enc P w base spare held t2 v2 d2 p2)(h3:DataW.Trod enc P w base spare held t3 v3 d3 p3)(h4:DataW.Trod enc P w base spare held t4 v4 d4 p4):
  DataW.TrodAll enc P w base spare held [t0,t1,t2,t3,t4] [v0,v1,v2,v3,v4] [d0,d1,d2,d3,d4] (p0++(p1++(p2++(p3++p4)))):=⟨p0,_,h0,trodAll_mk4 h1 h2 h3 h4,rfl⟩
theorem jG9{a:Assume}{C:Checked}{os:Os}{f:FuncId}{fn:Func}{s:ChangeSpec}{conds:List PathCond}{apart fresh handsOn again:Bool}{X:World→Array Value→Prop}
  (hX:∀ (w w':World) (args:Array Value),w.heap=w'.heap→X w args→X w' args)
  (own:ownKnob C.prog.godebug=none) (started:os.Started) (noInit:C.prog.inits.idxOf? f=none) (hfn:C.prog.funcs[f]?=some fn)
  (witness:∃ (w:World) (tape:Tape) (i:Input),w.os=os∧(w.forCall tape i).Shaped C.prog∧i.vars=[]∧Input.okWide C.prog (w.forCall tape i) .any w.heap.size f i∧
   ((s.pre enc C.prog fn conds apart (w.forCall tape i).memory i.args∧X (w.forCall tape i).memory i.args)∧sizedMet enc C.prog fn (OpenSpec.ofChange s) apart (w.forCall tape i).memory i.args)∧a.holds C.prog (lone (Frame.enter C.prog f i.args .normal) [] (w.forCall tape i)))
  (hc:∀ (W:World) (base:Nat) (args:Array Value) (ds gs:List (DataW H)) (before:List MemPlace),
   (∀ (j:Nat) t v,fn.params[j]?=some t→args[j]?=some v→Value.okWide C.prog W .any base t v)→
   DataW.Whole enc C.prog fn.params.toList s.vars apart W args.toList ds gs before→X W args→W.ShapedOpen C.prog→
   Calls C.prog f args W fun e W'=>∃ v,e=.returned v∧s.post enc C.prog fn apart fresh handsOn again W args v W'):
  ReturnsInHanded a C os f .any (fun w args=>(s.pre enc C.prog fn conds apart w args∧X w args)∧sizedMet enc C.prog fn (OpenSpec.ofChange s) apart w args) (s.post enc C.prog fn apart fresh handsOn again):=by
 refine returnsInHanded_of_calls own started noInit witness ?_;rintro w tape i _ hsh _ ⟨_,_,_,fn',h1,_,_,_,_,hval⟩ ⟨⟨⟨ds,gs,before,hw,_⟩,hx⟩,_⟩ _;obtain rfl:fn'=fn:=Option.some.inj (h1.symm.trans hfn);refine (hc (w.forCall tape i) w.heap.size i.args ds gs before hval (DataW.Whole.of_heap (w':=w.forCall tape i) (by rfl) hw) (hX _ _ _ (by rfl) hx) hsh).mono fun e W' ⟨v,he,hp⟩=>?_;subst he;exact ChangeSpec.post_blind hp
end
theorem xX0{W:World}(h:laidMetH prog Rows.poisonedRow.laid W)(hs:W.ShapedOpen prog):Gl W:=by
 have h1:laidMet prog [("internal/strconv.uint64pow10",Lib.tabData .u64 Lib.pow10Tab)] W:=((laidMetH_iff.1 h).1.filter (fun x=>x.1 == "internal/strconv.uint64pow10"));have hg:prog.globalNamed "internal/strconv.uint64pow10"=some 1:=by kernel_rfl
 have hT:=Lib.tabIs_of_head (g:=1) (t:=314) (e:=75) (n:=20) hg (by kernel_rfl) underlying314 underlying75 (by kernel_rfl) (by kernel_rfl) h1;obtain⟨cs,hh,_,_⟩:=hs.1 1 (List.replicate 20 (.int .u64 0)).toArray 314 (of_decide_eq_true (by kernel_rfl)) (by kernel_rfl);obtain⟨cs4,hh4,hz4,hr4⟩:=hs.1 4 (List.replicate 12 (.string ⟨#[]⟩)).toArray 330 (of_decide_eq_true (by kernel_rfl)) (by kernel_rfl);obtain⟨ts,hts,_,hall⟩:=hr4 (by kernel_rfl);have hct:prog.cellTypes prog.depth 330=some (List.replicate 12 9):=by kernel_rfl
 obtain rfl:=Option.some.inj (hct.symm.trans hts);have hz:cs4.size=12:=hz4;obtain⟨u,hu,hok⟩:=hall 8 cs4[8] (by simp[hz]);have hu':u=9:=by simpa using hu.symm
 subst hu';have hw:∃ t,cs4[8]?=some (.string t):=by
  unfold Cell.ok at hok;rw[underlying9] at hok;cases hv:cs4[8]<;>rw[hv] at hok<;>simp at hok
  case string t=>exact⟨t,by rw[←hv];simp[hz]⟩
 obtain⟨t,hw⟩:=hw;have ht:W.heap[1]?=some (.cells (Lib.pow10Tab.map fun z=>Value.int .u64 z).toArray 314 (0,0)):=by
  unfold Lib.TabIs World.var? at hT;simp only[hg,Option.bind_some,hh] at hT;rw[hh,Option.some.inj hT]
 exact⟨⟨_,ht⟩,⟨cs4,_,t,hh4,hw⟩⟩
theorem jP6(os:Os)(started:os.Started)(H:Type)(enc:TypeId × Value→H):
  ReturnsInHanded {} checked os 4 .any (fun w args=>(Rows.poisonedSpec.pre enc prog f4 [] false w args∧laidMetH prog Rows.poisonedRow.laid w)∧sizedMet enc prog f4 (OpenSpec.ofChange Rows.poisonedSpec) false w args)
   (Rows.poisonedSpec.post enc prog f4 false true false false):=by
 refine jG9 (C:=checked) (X:=fun w _=>laidMetH prog Rows.poisonedRow.laid w) (fun _ _ _ hh h=>h.of_heap hh) jR4 started (by kernel_rfl) func4 (jR7 os H enc) ?_;intro W base args ds gs before hval0 hW hL hsh;have hval:∀ (j:Nat) t v,f4.params[j]?=some t→args[j]?=some v→Value.okWide prog W .any base t v:=hval0;have hW':=hW;obtain⟨p,q,hA0,hV,rfl,_,_⟩:=hW;have hA:DataW.TrodAll enc prog W 0 (fun _=>true) true f4.params.toList args.toList ds p:=hA0;rw[params4] at hA hval;obtain⟨v0,v1,v2,v3,v4,d0,d1,d2,d3,d4,p0,p1,p2,p3,p4,rfl,rfl,rfl,h0,h1,h2,h3,h4⟩:=jW7 hA;obtain⟨rfl,rfl⟩:=trodVars_none hV;clear hA0 hval0;simp only[List.append_nil] at hW';obtain⟨a,rfl,rfl,rfl,wa⟩:=open_int underlying3 (hval 0 3 v0 rfl rfl) h0;obtain⟨b,rfl,rfl,rfl,wb⟩:=open_int underlying3 (hval 1 3 v1 rfl rfl) h1;obtain⟨c,rfl,rfl,rfl,wc⟩:=open_int underlying3 (hval 2 3 v2 rfl rfl) h2;obtain⟨t,rfl,rfl,rfl,wt⟩:=open_int underlying3 (hval 3 3 v3 rfl rfl) h3;have hlt:∀ x∈p4,x.block<W.heap.size:=fun x hx=>by simpa using hW'.lt x (by simpa using hx)
 obtain⟨a0,len,cap,rfl⟩:=okWide_slice underlying22 (hval 4 22 v4 rfl rfl);have h4k:=h4;obtain⟨fuel,hf⟩:=h4;obtain⟨T,bs,cp,xs,hc,hS,hxs⟩:=jO2 (c0:=.slice a0 len cap) (by simpa [Value.cells] using hf);cases hc;have e1:Rows.poisonedSpec.fn H ([.lit (.int .i64 a),.lit (.int .i64 b),.lit (.int .i64 c),.lit (.int .i64 t),d4]++[])={ results:=[.lit (.bool true)],args:=[.lit (.int .i64 a),.lit (.int .i64 b),.lit (.int .i64 c),.lit (.int .i64 t),d4] }:=by simp[Rows.poisonedSpec]
 obtain⟨ha0,ha1⟩:=zE4 wa;obtain⟨hb0,hb1⟩:=zE4 wb;obtain⟨hc0,hc1⟩:=zE4 wc;obtain⟨ht0,ht1⟩:=zE4 wt;have hg:=xY4 hL;have h0s:0<W.heap.size:=by
  unfold World.cell? at hg
  cases hb:W.heap[0]? with
  | none=>simp[hb] at hg
  | some o=>exact ζ hb
 refine (jP7 a b c t _ _ xs ha0 ha1 hb0 hb1 hc0 hc1 ht0 ht1 W (xX0 hL hsh) h0s hg hS hxs).mono fun e W' ⟨he,hK⟩=>?_;subst he;have hb:Below W.heap.size W W':=hK.below (Nat.le_refl _) (by simp);refine⟨_,rfl,_,_,_,[],p4,[],hW',?_,?_,?_,hb.frame _,fun h=>by cases h⟩
 ·rw[e1];exact trodAll_mk1 (shut_bool underlying4 true)
 ·rw[e1];exact jW8 (shut_int underlying3 wa) (shut_int underlying3 wb) (shut_int underlying3 wc) (shut_int underlying3 wt) (Below.trod zY8 (by kernel_rfl) (of_decide_eq_true (by kernel_rfl)) h4k hb hlt)
 ·rw[e1];rfl
end Go.Proofs.YtdohpenfkdckiabGreatDoor
