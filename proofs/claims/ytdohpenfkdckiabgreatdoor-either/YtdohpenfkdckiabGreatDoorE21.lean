import Derived.Test.YtdohpenfkdckiabGreatDoorE20
import Derived.Test.YtdohpenfkdckiabGreatDoorRows
import Derived.ChangeSame
import Derived.ChangeVars
import Derived.JoinedOf
import Derived.RowKit
import Derived.LaidLaws
import Derived.LaidHandle
import Derived.Deep.Slices
import Derived.Stop.Joined
import Derived.Lay
import Derived.HandedShaped
import Derived.Lib.LaidTab
import Derived.LaidSub
set_option linter.all false
set_option maxRecDepth 100000
set_option maxHeartbeats 20000000
namespace Go.Proofs.YtdohpenfkdckiabGreatDoor
open Go.Proofs.Tryz
open Go.RowKit
def emp:DataW Unit:=.map []
theorem xN7(k:Lit):emp.del k=emp:=by simp[emp,DataW.del]
theorem xN6(n:Int)(v:DataW Unit):(emp.put (qA1 n) v).del (qA1 n)=emp:=by
 simp[emp,DataW.put,DataW.del,DataW.insert,qA1,Lit.sameKey]
section
variable {w:World} {kc db St A C N nM:Nat} {s:Sto} {D:DataW Unit} {l:List UInt8} {wr:Int} {nw:Root}
theorem Wrt.put{x:Nat}{t:Tx}{r:Root}{nr:Int}(h:Wrt w kc db St A C N nM s D l wr nw x t r nr){w':World}{p:KV}{h':HL}(hF:FineT h.shop.E w w' x t s (r.put p) h')(hp:qD0 p)(hc:t.ch≤10000000)(hr:r.cont.length≤10000):Wrt w' kc db St A C N nM s D l wr nw x { t with h:=h',ch:=t.ch+1 } (r.put p) nr∧Kp [St,x,A] w w'∧(r.put p).cont=ins p r.cont∧∃ q,h'.p=some q:=by
 obtain⟨g1,g2⟩:=qS8 (p:=p) h.live.good hp;have hl:(r.put p).cont.length≤r.cont.length+1:=by rw[g2];exact qQ7 _ _
 obtain⟨m,L,e1,e2⟩:=jL1 (p:=p) h.live.good hp;have hq:∃ q,h'.p=some q:=by
  have hrr:=hF.rr;rw[e1] at hrr;exact jM3 hrr e2
 obtain⟨a1,a2⟩:=h.turn (t':={ t with h:=h',ch:=t.ch+1 }) (r':=r.put p) (h.live.next hF g1 (by omega) (by omega)) rfl rfl rfl hF.kp;exact⟨a1,a2,g2,hq⟩
end
theorem xX2(N kc:Nat)(h100:100≤N)(h400:N≤400)(hk1:100≤kc)(hk9:kc≤900)(a:Int)(ha0:-9223372036854775808≤a)(ha1:a≤9223372036854775807)(w:World):
  Calls prog 9 #[.int .i64 N,.int .i64 a] w fun e w'=>∃ db St A C s l wr nw v,e=.returned (.tuple #[.pointer (some ⟨A,0,none⟩),.pointer (some ⟨db,0,none⟩),v])∧Shop w' kc db St A C N 1 s emp l wr nw∧OPA w' w.heap.size v (qA9 nw.cont)∧s.wr=0∧s.bg=2∧s.N≤10∧nw.cont.length≤43∧(⟨qG3,qM8⟩:KV)∈nw.cont∧w.heap.size≤A∧w.heap.size≤C∧w.heap.size≤St∧w.heap.size≤db∧w.heap.size≤s.M∧Kp [] w w'∧TwoHeads N l [] nw.cont:=by
 go_enter func9,ntmps9;go_wp2_with fail;refine (jD9 N w (by omega) (N:Int) (by omega) (by omega)).mono ?_;rintro e w1 ⟨rfl,Z,hZ,hZ0,hw1⟩;rw[jA6 Z _ hZ hZ0] at hw1;have hC1:w1.heap[w.heap.size]?=some (.cells (enc (List.replicate (N*128) 0)) 87):=by rw[hw1];exact θ _ (μ _ _)
 have hA1:w1.heap[w.heap.size+1]?=some (qQ5 N w.heap.size (.slice none 0 0) 0 0):=by
  rw[hw1];have e:=μ (w.alloc (.cells (enc (List.replicate (N*128) 0)) 87)) (qQ5 N w.heap.size (.slice none 0 0) 0 0);simpa using e
 have hK1:Kp [] w w1:=by rw[hw1];exact ((Kp.refl _ _).alloc _).alloc _
 clear hw1 hZ hZ0 Z;have HF:Hid (Calls prog 35 #[.pointer (some ⟨w.heap.size+1,0,none⟩)] w1 fun e w'=>e=.returned .nilIface∧w'.heap[w.heap.size+1]?=some (qQ5 N w.heap.size (.slice none 0 0) (0+6) (0+2))∧w'.heap[w.heap.size]?=some (.cells (enc (qO2 (List.replicate (N*128) 0) 0)) 87)∧Kp [w.heap.size+1,w.heap.size] w1 w'):=
  xR6 (w.heap.size+1) N w.heap.size 0 0 (List.replicate (N*128) 0) 0 w1 hA1 (by omega) (by omega) (by omega) (by omega) (by omega) h400 hC1 (by simp) (by omega) (Or.inl ⟨jA0 N (by omega),rfl⟩) (by omega) (by omega) (by omega)
 have HK1:=zh hK1;clear hC1 hA1 hK1;go_wp2_with fail;refine (show Calls _ _ _ _ _ from HF.out).mono ?_;rintro e w2 ⟨rfl,hA2,hC2,hK2⟩;have hfl:(qO2 (List.replicate (N*128) 0) 0).length=N*128:=by rw[xR4 _ _ (by simp;omega)];simp
 have hfm:=xR5 (List.replicate (N*128) 0) 0 (by simp;omega) (by omega) (by omega) (by omega);obtain⟨l,hl⟩:∃ l,l=qO2 (List.replicate (N*128) 0) 0:=⟨_,rfl⟩;rw[←hl] at hC2 hfl hfm;have HK2:Hid (Kp [] w w2):=HK1.out.trans hK2 (by intro i hi hlt;simp at hi;omega);have HO:Hid (Calls prog 16 #[.pointer (some ⟨w.heap.size+1,0,none⟩)] w2 fun e w'=>∃ V M St Db,e=.returned (.tuple #[.pointer (some ⟨Db,0,none⟩),.nilIface])∧w2.heap.size≤V∧w2.heap.size≤M∧w2.heap.size≤St∧w2.heap.size≤Db∧
   w'.heap[w.heap.size+1]?=some (qQ5 N w.heap.size (.slice none 0 0) (0+6+3) (0+2))∧w'.heap[V]?=some (qC7 (w.heap.size+1) N)∧w'.heap[M]?=some (.map #[] 0)∧w'.heap[St]?=some (ν 0 (qJ7 V M (0+2)))∧w'.heap[Db]?=some (.cells #[.pointer (some ⟨St,0,none⟩)] 95)∧Kp [w.heap.size+1] w2 w'):=
  jJ6 (w.heap.size+1) N w.heap.size (0+6) (0+2) l (0+2) w2 hA2 (by omega) (by omega) (by omega) h400 hC2 (Nat.le_of_eq hfl.symm) (by omega) hfm
 have HC2:Hid (w2.heap[w.heap.size]?=some (.cells (enc l) 87)∧l.length=N*128∧Formatted l (0+2)):=⟨hC2,hfl,hfm⟩;clear hA2 hC2 hK2 hfl hfm hl HF;go_wp2_with fail;refine (show Calls _ _ _ _ _ from HO.out).mono ?_;rintro e w3 ⟨V,M,St,db,rfl,hV3,hM3,hS3,hD3,hA3,hVo,hMo,hSo,hDo,hK3⟩;have hs2:=HK2.out.size;have hshop:Shop w3 kc db St (w.heap.size+1) w.heap.size N 0 (qJ7 V M (0+2)) emp l (0+2) .none:=jO0 hA3 hVo hMo hSo hDo (hK3.hp HC2.out.1) (by omega) h400 HC2.out.2.1 HC2.out.2.2 hk9 (by omega);have HS3:=zh hshop;have HK3:Hid (Kp [] w w3):=HK2.out.trans hK3 (by intro i hi hlt;simp at hi;omega);clear hA3 hVo hMo hSo hDo hK3 hshop HO HC2;go_wp2_with fail;refine (qT8 a 40 ha0 ha1 (by omega) (by omega) w3).mono ?_;rintro e w3' ⟨⟨k,rfl,hk0,hk40⟩,hw3⟩;rw[hw3];clear hw3 w3';obtain⟨m,hm⟩:∃ m:Nat,(m:Int)=3+k:=⟨(3+k).toNat,by omega⟩;have hwr3:wrap64 (3+k)=(m:Int):=by simp only[wrap64];omega
 have HW:Hid (Calls prog 11 #[.pointer (some ⟨db,0,none⟩),.int .i64 a,.int .i64 m] w3 fun e w'=>∃ x t r v,e=.returned (.tuple #[.pointer (some ⟨x,0,none⟩),v])∧w3.heap.size≤x∧OPA w' w3.heap.size v (qA9 r.cont)∧r.cont.length≤m∧t.ch≤(m:Int)∧Kp [St,w.heap.size+1] w3 w'∧Wrt w' kc db St (w.heap.size+1) w.heap.size N 0 (qJ7 V M (0+2)).wrote emp l (0+2) .none x t r (0+1)):=by
  have h:=zI1 HS3.out rfl (by show (0:Int)≤_;omega) a ha0 ha1 m (by omega) (fun r' hg hz=>by
   have h1:=qR2 hg;have hz':r'.cont.length≤0+m:=hz;have h3:((qJ7 V M (0+2)).bl:Int)=0:=rfl;rw[h3];omega)
  refine h.mono ?_;rintro e w' ⟨x,t,r,v,c1,c2,c3,c4,c5,_,c6,c7⟩;have c4':r.cont.length≤0+m:=c4;exact⟨x,t,r,v,c1,c2,c3,by omega,c5,c6,c7⟩
 clear hwr3;rw[hm] at HW;have HM:=zh hm;clear hm;go_wp2_with fail;refine (show Calls _ _ _ _ _ from HW.out).mono ?_;rintro e w4 ⟨x,t,r,v0,rfl,hx4,_,hr4,hc4,hK4,hW4⟩;have hm:=HM.out;have hp:qD0 ⟨qG3,qM8⟩:=⟨by decide,by decide,by decide⟩;have HP:Hid (Calls prog 28 #[.pointer (some ⟨x,0,none⟩),.string ⟨#[102,105,114,115,116]⟩,.string ⟨#[111,102,32,97,108,108]⟩] w4 fun e w'=>e=.returned .nilIface∧∃ h',FineT hW4.shop.E w4 w' x t (qJ7 V M (0+2)).wrote (r.put ⟨qG3,qM8⟩) h'):=by
  refine xB6 hW4.shop.E x _ N t _ r ⟨qG3,qM8⟩ w4 hW4.live hW4.wrt hp ?_;obtain⟨g1,g2⟩:=qS8 (p:=⟨qG3,qM8⟩) hW4.live.good hp;have h1:=qR2 g1;have h2:=qQ7 ⟨qG3,qM8⟩ r.cont;rw[g2] at h1;show _≤(N:Int)-2-0;omega
 have HW4:=zh hW4;have hs3:=HK3.out.size;have HK4:Hid (Kp [] w w4):=HK3.out.trans hK4 (by intro i hi hlt;simp at hi;omega);clear hK4 HW HS3;go_wp2_with fail;refine (show Calls _ _ _ _ _ from HP.out).mono ?_;rintro e w5 ⟨rfl,h',hF⟩;obtain⟨hW5,hK5,hcn,q,hq⟩:=hW4.put hF hp (by omega) (by omega);obtain⟨t5,ht5⟩:∃ t5:Tx,t5={ t with h:=h',ch:=t.ch+1 }:=⟨_,rfl⟩;rw[←ht5] at hW5;have hq5:t5.h.p=some q:=by rw[ht5];exact hq
 obtain⟨r5,hr5⟩:∃ r5,r5=r.put ⟨qG3,qM8⟩:=⟨_,rfl⟩;rw[←hr5] at hW5 hcn;have hl5:r5.cont.length≤m+1:=by rw[hcn];have:=qQ7 ⟨qG3,qM8⟩ r.cont;omega
 have hin5:(⟨qG3,qM8⟩:KV)∈r5.cont:=by rw[hcn];exact zU6 _ _
 have hpos:0<(qA9 r5.cont).length:=by rw[hcn];exact xG4 (zU6 _ _) (by kernel_rfl)
 have HALL:Hid (Calls prog 36 #[.pointer (some ⟨x,0,none⟩)] w5 fun e w'=>∃ v,e=.returned (.tuple #[v,.bool true])∧OPA w' w5.heap.size v (qA9 r5.cont)∧BadT hW5.shop.E w5 w' t5 (qJ7 V M (0+2)).wrote):=zA6 hW5.shop.E x _ N t5 _ r5 w5 hW5.live;have hs4:=HK4.out.size;have HK5:Hid (Kp [] w w5):=HK4.out.trans hK5 (by intro i hi hlt;simp at hi;omega);have HW5:=zh hW5;clear hW4 hF hK5 hcn hq ht5 hr5 HP HW4 HK4;go_wp2_with fail;refine (show Calls _ _ _ _ _ from HALL.out).mono ?_;rintro e w6 ⟨v,rfl,ho6,hb6⟩;obtain⟨hW6,hK6⟩:=HW5.out.stay hb6;have hs5:=HK5.out.size;have HK6:Hid (Kp [] w w6):=HK5.out.trans hK6 (by intro i hi hlt;simp at hi;omega);have HC:Hid (Calls prog 14 #[.pointer (some ⟨x,0,none⟩)] w6 fun e w'=>e=.returned .nilIface∧∃ s' l' nt,Shop w' kc db St (w.heap.size+1) w.heap.size N 0 s' (emp.del (qA1 t5.nr)) l' (nx (nk (nx (0+2)) r5.news)) nt∧nt.cont=r5.cont∧s'.N=(0+2)+2∧s'.bg=0+1∧s'.wr=((qJ7 V M (0+2)).wrote.left t5.nr).wr∧s'.V=V∧s'.M=M∧Kp [St,x,M,w.heap.size+1,w.heap.size] w6 w'∧TwoHeads N l' [] r5.cont):=by
  have h1:=qR2 hW6.live.good;have h2:=qS9 hW6.live.good;refine (hW6.shop.commit hW6.live hW6.st hW6.wrt (by rw[hW6.nr];omega) (by rw[hW6.nr];omega) hq5 (by omega) (by show (0+2:Int)≤_;omega) (by show _+_+0*kc+0+2≤N;omega)).mono ?_;rintro e w' ⟨c0,s',l',nt,c1,c2,c3,c4,c5,c6,c7,_,c8,c9⟩;refine⟨c0,s',l',nt,c1,c2,c3,c4,c5,c6,c7,c8,?_⟩;rcases c9.two with h|⟨_,h⟩
  ·exact h
  ·rw[←h] at hin5;cases hin5
 have HO6:Hid (OPA w6 w.heap.size v (qA9 r5.cont)):=qH4 ho6 (by omega);have HN6:Hid (∀ k∈[St,x,M,w.heap.size+1,w.heap.size],∀ c fr,w6.heap[k]?≠some (.cells c 64 fr)):=by
  show ∀ k∈[St,x,M,w.heap.size+1,w.heap.size],∀ c fr,w6.heap[k]?≠some (.cells c 64 fr);intro k hk c fr e;obtain⟨cA,hA⟩:=hW6.shop.hA;simp only[List.mem_cons,List.not_mem_nil,or_false] at hk;rcases hk with rfl|rfl|rfl|rfl|rfl
  ·rw[hW6.shop.hSt] at e;simp[ν] at e
  ·rw[hW6.live.hx] at e;simp[qA8] at e
  ·exact absurd rfl (qE7 e hW6.shop.hM)
  ·rw[hA] at e;simp[qQ5,qA2] at e
  ·rw[hW6.shop.dev.hC] at e;simp at e
 have HNR:=zh hW6.nr;obtain⟨ob,oc,rfl⟩:=qJ6 ho6;obtain⟨sl,hsl⟩:∃ sl,sl=(qA9 r5.cont).length:=⟨_,rfl⟩;rw[←hsl] at HO6 hpos ⊢;have HSL:=zh hsl;clear ho6 hb6 hW6 hK6 HALL HW5 HK5 hsl hW5;go_wp2_with fail;refine (show Calls _ _ _ _ _ from HC.out).mono ?_;rintro e w7 ⟨rfl,s',l',nt,hS7,e1,e2,e3,e4,e5,e6,hK7,hTW⟩;rw[←e1] at hTW;have HTW:=zh hTW;clear hTW;rw[xN7] at hS7;have hs6:=HK6.out.size;have hw7:s'.wr=0:=by rw[e4];show (if t5.nr=0+1 then 0 else _)=(0:Int);rw[if_pos HNR.out]
 have HO7:Hid (OPA w7 w.heap.size (.slice ob sl oc) (qA9 nt.cont)):=by rw[e1];exact OPA.keep HO6.out hK7 HN6.out
 have HK7:Hid (Kp [] w w7):=HK6.out.trans hK7 (by intro i hi hlt;simp at hi;omega);have HNOW:Hid (Calls prog 17 #[.pointer (some ⟨db,0,none⟩)] w7 fun e w'=>∃ v,e=.returned (.tuple #[v,.bool true])∧OPA w' w7.heap.size v (qA9 nt.cont)∧Shop w' kc db St (w.heap.size+1) w.heap.size N (0+1) s'.read ((emp.put (qA1 (s'.bg+1)) (qE2 ⟨⟨#[]⟩,s'.rb,s'.rs,none⟩)).del (qA1 (s'.bg+1))) l' (nx (nk (nx (0+2)) r5.news)) nt∧Kp [St,s'.M,w.heap.size+1] w7 w'):=zI0 hS7 (by show 0<4;omega) (by omega) (by omega) (by omega);have HN7:Hid (∀ k∈[St,s'.M,w.heap.size+1],∀ c fr,w7.heap[k]?≠some (.cells c 64 fr)):=by
  show ∀ k∈[St,s'.M,w.heap.size+1],∀ c fr,w7.heap[k]?≠some (.cells c 64 fr);intro k hk c fr e;obtain⟨cA,hA⟩:=hS7.hA;simp only[List.mem_cons,List.not_mem_nil,or_false] at hk;rcases hk with rfl|rfl|rfl
  ·rw[hS7.hSt] at e;simp[ν] at e
  ·exact absurd rfl (qE7 e hS7.hM)
  ·rw[hA] at e;simp[qQ5,qA2] at e
 have HNT:Hid (nt.cont.length≤43∧(qA9 nt.cont).length=sl∧(⟨qG3,qM8⟩:KV)∈nt.cont):=⟨by rw[e1];omega,by rw[e1];exact HSL.out.symm,by rw[e1];exact hin5⟩;have HS':Hid (s'.N=0+2+2∧s'.bg=0+1∧s'.wr=0∧s'.M=M):=⟨e2,e3,hw7,e6⟩;clear hS7 e1 e2 e3 e4 e5 e6 hK7 HC HO6 HN6 HK6 hw7 hq5;go_wp2_with fail;refine (show Calls _ _ _ _ _ from HNOW.out).mono ?_;rintro e w8 ⟨v8,rfl,ho8,hS8,hK8⟩;rw[xN6] at hS8;have hs7:=HK7.out.size;have HO8:Hid (OPA w8 w.heap.size (.slice ob sl oc) (qA9 nt.cont)):=OPA.keep HO7.out hK8 HN7.out;have HK8:Hid (Kp [] w w8):=HK7.out.trans hK8 (by intro i hi hlt;have:=HS'.out.2.2.2;simp at hi;omega);have hal:(qA9 nt.cont).length≤1000000:=by
  have h1:=HNT.out.1;have h2:(qA9 nt.cont).length≤nt.cont.length:=by
   unfold qA9 qG1;rw[List.length_take];have:=List.length_filter_le (inR ⟨#[]⟩ qS1) nt.cont;omega
  omega
 have HSAME:Hid (Calls prog 18 #[.slice ob sl oc,v8] w8 fun e w'=>e=.returned (.bool true)∧Kp [] w8 w'):=jA4 _ _ _ _ (qA9 nt.cont) w8 HO8.out ho8 hal;have HS8:=zh hS8;obtain⟨ob8,oc8,rfl⟩:=qJ6 ho8;rw[HNT.out.2.1] at HSAME ⊢;clear ho8 hS8 hK8 HNOW HO7 HN7 HK7;go_wp2_with fail;refine (show Calls _ _ _ _ _ from HSAME.out).mono ?_;rintro e w9 ⟨rfl,hK9⟩;have HE:Hid (Shop w9 kc db St (w.heap.size+1) w.heap.size N 1 s'.read emp l' (nx (nk (nx (0+2)) r5.news)) nt∧OPA w9 w.heap.size (.slice ob sl oc) (qA9 nt.cont)∧Kp [] w w9):=by
  have e2:=HS8.out;exact⟨e2.turn hK9 (by simp) (qH1 e2.dev hK9 (by intro k hk;cases hk)) ⟨rfl,rfl,rfl,rfl,rfl,rfl⟩ (hK9.hp e2.hSt) (e2.hM.kp hK9 (by simp)) e2.m4 e2.n1 e2.bg0 e2.kb e2.rd,OPA.keep HO8.out hK9 (by simp),HK8.out.tr hK9⟩
 have hsl0:¬(sl:Int)=0:=by omega
 clear hK9 HSAME HO8 HK8 HS8;go_wp2
 go_ret3
 obtain⟨f1,f2,f3⟩:=HE.out;obtain⟨g1,g2,g3,g4⟩:=HS'.out;exact⟨db,St,w.heap.size+1,w.heap.size,s'.read,l',_,nt,_,rfl,f1,f2,g3,by show s'.bg+1=2;omega,by show s'.N≤10;omega,HNT.out.1,HNT.out.2.2,by omega,by omega,by omega,by omega,by show w.heap.size≤s'.M;rw[g4];omega,f3,HTW.out⟩
theorem xX1(N kc:Nat)(h100:100≤N)(h400:N≤400)(hk1:100≤kc)(hk9:kc≤900)(a:Int)(ha0:-9223372036854775808≤a)(ha1:a≤9223372036854775807)(w:World):
  Calls prog 9 #[.int .i64 N,.int .i64 a] w fun e w'=>∃ db St A C s l wr nw v,e=.returned (.tuple #[.pointer (some ⟨A,0,none⟩),.pointer (some ⟨db,0,none⟩),v])∧Shop w' kc db St A C N 1 s emp l wr nw∧OPA w' w.heap.size v (qA9 nw.cont)∧s.wr=0∧s.bg=2∧s.N≤10∧nw.cont.length≤43∧(⟨qG3,qM8⟩:KV)∈nw.cont∧w.heap.size≤A∧w.heap.size≤C∧w.heap.size≤St∧w.heap.size≤db∧w.heap.size≤s.M∧Kp [] w w':=by
 refine (xX2 N kc h100 h400 hk1 hk9 a ha0 ha1 w).mono ?_;rintro e w' ⟨db,St,A,C,s,l,wr,nw,v,e0,e1,e2,e3,e4,e5,e6,e7,e8,e9,e10,e11,e12,e13,_⟩;exact⟨db,St,A,C,s,l,wr,nw,v,e0,e1,e2,e3,e4,e5,e6,e7,e8,e9,e10,e11,e12,e13⟩
theorem xA8(A n C kc:Nat)(calls writes:Int)(l:List UInt8)(N rb rs:Int)(r:Root)(w:World)(h:w.heap[A]?=some (qA2 (l.length / 128) n C (.slice none 0 0) calls writes))(h0:0≤calls)(h1:calls≤999999000)
  (h8:8≤n) (h400:n≤400) (hC:w.heap[C]?=some (.cells (enc l) 87)) (hs:n*128≤l.length) (hAC:C≠A) (hh:Heads l N rb rs) (hlie:Lie n l rb rs r) (hg:RGood r) (hc:r.cont.length≤kc) (hk:kc≤900) (hN:0≤N):
  Calls prog 16 #[.pointer (some ⟨A,0,none⟩)] w fun e w'=>∃ V M St Db,e=.returned (.tuple #[.pointer (some ⟨Db,0,none⟩),.nilIface])∧w.heap.size≤V∧w.heap.size≤M∧w.heap.size≤St∧w.heap.size≤Db∧Shop w' kc Db St A C n 0 ⟨V,M,N,rb,rs,qC3 r,false,0,0⟩ emp l writes r∧Kp [A,C] w w':=by
 have hA:=ζ h;have hCs:=ζ hC;have HO:Hid (∀ D X W,W.heap[D]?=some (.cells #[.iface 23 (.pointer (some ⟨A,0,none⟩))] 129)→W.heap[X]?=some (.cells #[.pointer none] 24)→W.heap[A]?=some (qA2 (l.length / 128) n C (.slice none 0 0) calls writes)→W.heap[C]?=some (.cells (enc l) 87)→X≠A→X≠C→
  Calls prog 71 #[.pointer (some ⟨D,0,none⟩),.pointer (some ⟨X,0,none⟩)] W fun e w'=>e=.returned (.tuple #[])∧
   (∃ V M St Db,W.heap.size≤V∧W.heap.size≤M∧W.heap.size≤St∧W.heap.size≤Db∧Devl V A n C l writes w'∧w'.heap[M]?=some (.map #[] 0)∧w'.heap[St]?=some (ν 0 ⟨V,M,N,rb,rs,qC3 r,false,0,0⟩)∧w'.heap[Db]?=some (.cells #[.pointer (some ⟨St,0,none⟩)] 95)∧w'.heap[X]?=some (.cells #[.pointer (some ⟨Db,0,none⟩)] 24))∧Kp [A,C,X] W w'):=fun D X W q1 q2 q3 q4 q5 q6=>jJ3 D X A n C calls writes l N rb rs r W q1 q2 q3 h0 h1 h8 h400 q4 hs hAC q5 q6 hh hlie hg (by omega)
 have HE:Hid (∀ W V M St Db,Devl V A n C l writes W→W.heap[M]?=some (.map #[] 0)→W.heap[St]?=some (ν 0 ⟨V,M,N,rb,rs,qC3 r,false,0,0⟩)→W.heap[Db]?=some (.cells #[.pointer (some ⟨St,0,none⟩)] 95)→Shop W kc Db St A C n 0 ⟨V,M,N,rb,rs,qC3 r,false,0,0⟩ emp l writes r):=fun W V M St Db q1 q2 q3 q4=>
  { hDb:=q4,hSt:=q3,po:=rfl,hM:=⟨#[],0,q2,⟨by simp,MapKept.stamped_empty 0,by simp⟩,Nat.le_refl _,rfl⟩,m4:=by simp[emp,Maps.size],n1:=by omega,dev:=q1,N8:=h8,N4:=h400,len:=hs,lie:=hlie,good:=hg,heads:=hh,sz:=hc,kc1:=hk,bl0:=Int.natCast_nonneg _,bl1:=by have:=qS9 hg;show ((qC3 r:Nat):Int)≤_;omega,sN0:=hN,bg0:=Int.le_refl _,kb:=fun k hk=>by simp[emp,Maps.has] at hk,rd:=fun x h hk=>by simp[emp,Maps.has] at hk }
 clear hh hlie hg hc;have hmf:=zM;go_enter func16,ntmps16
 go_wp2_with (go_at_call 42;go_in)
 obtain⟨W0,hW0,hK0,hs0⟩:∃ W0,W0=(w.alloc (.cells #[.iface 23 (.pointer (some ⟨A,0,none⟩))] 129)).alloc (.cells #[.pointer none] 24)∧Kp [] w W0∧W0.heap.size=w.heap.size+2:=⟨_,rfl,((Kp.refl _ _).alloc _).alloc _,by simp⟩;have hD0:W0.heap[w.heap.size]?=some (.cells #[.iface 23 (.pointer (some ⟨A,0,none⟩))] 129):=by rw[hW0];exact θ _ (μ _ _)
 have hX0:W0.heap[w.heap.size+1]?=some (.cells #[.pointer none] 24):=by
  rw[hW0];have e:=μ (w.alloc (.cells #[.iface 23 (.pointer (some ⟨A,0,none⟩))] 129)) (.cells #[.pointer none] 24);simpa using e
 rw[←hW0];clear hW0;have hA0:=hK0.hp h;have hC0:=hK0.hp hC;refine (qV8 71 _ _ _ (fun w'=>(∃ V M St Db,W0.heap.size+2≤V∧W0.heap.size+2≤M∧W0.heap.size+2≤St∧W0.heap.size+2≤Db∧Devl V A n C l writes w'∧w'.heap[M]?=some (.map #[] 0)∧w'.heap[St]?=some (ν 0 ⟨V,M,N,rb,rs,qC3 r,false,0,0⟩)∧w'.heap[Db]?=some (.cells #[.pointer (some ⟨St,0,none⟩)] 95)∧w'.heap[w.heap.size+1]?=some (.cells #[.pointer (some ⟨Db,0,none⟩)] 24))∧Kp [A,C] w w') (fun W=>zQ7 _ W) ?_).mono ?_
 ·refine (HO.out w.heap.size (w.heap.size+1) _ (θ _ (θ _ hD0)) (θ _ (θ _ hX0)) (θ _ (θ _ hA0)) (θ _ (θ _ hC0)) (by omega) (by omega)).mono ?_;rintro e w1 ⟨rfl,⟨V,M,St,Db,hV,hM,hSt,hDb,r⟩,hK1⟩;refine⟨rfl,⟨⟨V,M,St,Db,by simpa using hV,by simpa using hM,by simpa using hSt,by simpa using hDb,r⟩,(((hK0.mono (S':=[A,C]) (by simp)).alloc _).alloc _).trans hK1 (by intro i hi hlt;simp at hi ⊢;omega)⟩,hK1.heap ?_ (by simp;omega)⟩;have e:=μ (W0.alloc (.cells #[.string ⟨#[79,112,101,110]⟩] 9)) (.cells #[.nilIface] 35);simpa using e
 rintro e w2 ⟨rfl,w1,⟨⟨V,M,St,Db,hV,hM,hSt,hDb,r1,rm,r2,r3,r4⟩,hK1⟩,rfl⟩;have x0:=ξ r4 0;simp at x0;go_wp2
 go_ret2
 obtain⟨ca,hAd⟩:=r1.hA;exact⟨V,M,St,Db,rfl,by omega,by omega,by omega,by omega,HE.out _ V M St Db ⟨(qA6 (by omega) _ _).trans r1.hV,⟨_,(qA6 (by omega) _ _).trans hAd⟩,(qA6 (by omega) _ _).trans r1.hC⟩ ((qA6 (by omega) _ _).trans rm) ((qA6 (by omega) _ _).trans r2) ((qA6 (by omega) _ _).trans r3),hK1.setCell (Or.inr (by simp;omega)) _⟩
variable {κ:Nat}
section
variable {w:World} {kc db St A C N nM:Nat} {s:Sto} {D:DataW Unit} {l:List UInt8} {wr:Int} {nw:Root}
theorem Shop.more(hS:Shop w kc db St A C N nM s D l wr nw){w':World}(hK:Kp [] w w'):Shop w' kc db St A C N nM s D l wr nw:=
 hS.turn hK (by simp) (qH1 hS.dev hK (by intro k hk;cases hk)) ⟨rfl,rfl,rfl,rfl,rfl,rfl⟩ (hK.hp hS.hSt) (hS.hM.kp hK (by simp)) hS.m4 hS.n1 hS.bg0 hS.kb hS.rd
end
theorem xR8(A n C:Nat)(calls writes:Int)(l:List UInt8)(N rb rs:Int)(r:Root)(w:World)(h:w.heap[A]?=some (qA2 (l.length / 128) n C (.slice none 0 0) calls writes))(h0:0≤calls)(h1:calls≤999999000)
  (h8:8≤n) (h400:n≤400) (hC:w.heap[C]?=some (.cells (enc l) 87)) (hs:n*128≤l.length) (hAC:C≠A) (hh:Heads l N rb rs) (hlie:Lie n l rb rs r) (hg:RGood r) (hc:r.cont.length≤300) (hN:0≤N):
  Calls prog 19 #[.pointer (some ⟨A,0,none⟩)] w fun e w'=>∃ v,e=.returned (.tuple #[v,.bool true])∧OPA w' w.heap.size v (qA9 r.cont)∧(∃ c,w'.heap[A]?=some (qA2 (l.length / 128) n C (.slice none 0 0) c writes))∧w'.heap[C]?=some (.cells (enc l) 87)∧Kp [A,C] w w':=by
 have HO:Hid (Calls prog 16 #[.pointer (some ⟨A,0,none⟩)] w fun e w'=>∃ V M St Db,e=.returned (.tuple #[.pointer (some ⟨Db,0,none⟩),.nilIface])∧w.heap.size≤V∧w.heap.size≤M∧w.heap.size≤St∧w.heap.size≤Db∧Shop w' 300 Db St A C n 0 ⟨V,M,N,rb,rs,qC3 r,false,0,0⟩ emp l writes r∧Kp [A,C] w w'):=xA8 A n C 300 calls writes l N rb rs r w h h0 h1 h8 h400 hC hs hAC hh hlie hg hc (by omega) hN;have hAs:=ζ h;have hCs:=ζ hC;clear h hC hh hlie hg;go_enter func19,ntmps19;go_wp2_with fail;refine (show Calls _ _ _ _ _ from HO.out).mono ?_;rintro e w1 ⟨V,M,St,Db,rfl,hV,hM,hSt,hDb,hS1,hK1⟩;have HN:Hid (Calls prog 17 #[.pointer (some ⟨Db,0,none⟩)] w1 fun e w'=>∃ v,e=.returned (.tuple #[v,.bool true])∧OPA w' w1.heap.size v (qA9 r.cont)∧(∃ c,w'.heap[A]?=some (qA2 (l.length / 128) n C (.slice none 0 0) c writes))∧w'.heap[C]?=some (.cells (enc l) 87)∧Kp [St,M,A] w1 w'):=by
  refine (zI0 hS1 (by show 0<4;omega) (by omega) (by show (0:Int)≤_;omega) (by show (0:Int)≤0;omega)).mono ?_;rintro e w' ⟨v,e1,e2,e3,e4⟩;exact⟨v,e1,e2,e3.hA,e3.dev.hC,e4⟩
 have HK1:=zh hK1;have hs1:=hK1.size;clear hS1 hK1 HO;go_wp2_with fail;refine (show Calls _ _ _ _ _ from HN.out).mono ?_;rintro e w2 ⟨v,rfl,ho,hA2,hC2,hK2⟩;have HE:Hid (OPA w2 w.heap.size v (qA9 r.cont)∧(∃ c,w2.heap[A]?=some (qA2 (l.length / 128) n C (.slice none 0 0) c writes))∧w2.heap[C]?=some (.cells (enc l) 87)∧Kp [A,C] w w2):=⟨qH4 ho (by omega),hA2,hC2,HK1.out.trans hK2 (by intro i hi hlt;simp at hi ⊢;omega)⟩;clear ho hA2 hC2 hK2 HN HK1;go_wp2
 go_ret2
 exact⟨v,rfl,HE.out⟩
theorem xM1(St:Nat)(s:Sto)(h:HL)(w:World)(hSt:w.heap[St]?=some (ν 1 s))
  (heq:∀ W:World,Sem.run prog (Op.equalIn 10000 83 (τ s.V h) (τ s.V ⟨⟨#[]⟩,s.rb,s.rs,none⟩)) W=.ok true W):
  Calls prog 41 #[.pointer (some ⟨St,0,none⟩),τ s.V h] w fun e w'=>e=.returned (.tuple #[])∧Kp [] w w':=by
 have HS:=zh hSt;clear hSt;rw[τ,show τ s.V ⟨⟨#[]⟩,s.rb,s.rs,none⟩=.agg #[.pointer (some ⟨s.V,0,none⟩),.string ⟨#[]⟩,.int .i64 s.rb,.int .u64 s.rs,.pointer none] from rfl] at heq;rw[τ];go_enter func41,ntmps41;go_wp2_with fail;obtain⟨w0,hw0,hT0,hK0,hs0'⟩:=qE5 w (.cells #[.pointer (some ⟨s.V,0,none⟩),.string h.key,.int .i64 h.b,.int .u64 h.s,.pointer h.ptr] 83);rw[←hw0];clear hw0;refine (qX2 St 1 s w0 (hK0.hp HS.out)).mono ?_;rintro e w1 ⟨rfl,hK1⟩;rw[show τ s.V ⟨⟨#[]⟩,s.rb,s.rs,none⟩=.agg #[.pointer (some ⟨s.V,0,none⟩),.string ⟨#[]⟩,.int .i64 s.rb,.int .u64 s.rs,.pointer none] from rfl];have hT1:=hK1.hp hT0;have hT1s:=ζ hT1;have t:=ξ hT1;have HK1:Hid (Kp [] w w1):=hK0.tr hK1;clear hK0 hK1 hT0 hT1;go_wp2;refine bodyPost_ret (results_none results41 _ _ _) rfl ?_;exact⟨rfl,HK1.out.alloc _⟩
section
variable {w:World} {kc db St A C N nM:Nat} {s:Sto} {D:DataW Unit} {l:List UInt8} {wr:Int} {nw:Root}
theorem LiveT.lie{E':SEnv}{x:Nat}{t:Tx}{r:Root}{hN:N≤1000}{hs:N*128≤l.length}{hAC:C≠A}{hVA:s.V≠A}(hL:LiveT (EL s.V A N C l wr hN hs hAC hVA) w x A N t s r)(hp:t.h.p=none):Lie N l t.h.b t.h.s r:=by
 have hr:=hL.rr
 cases r with
 | none=>rw[show t.h=_ from hr];exact⟨rfl,rfl⟩
 | «at» n L=>
  have h2:=hr.2
  cases hx:L.ref with
  | none=>
   rw[hx] at h2;obtain⟨_,_,q,e,_⟩:=h2;rw[hp] at e;cases e
  | some x=>
   rw[hx] at h2;obtain⟨e1,e2,_,e4⟩:=h2;refine⟨x.1,e1,?_,?_⟩
   ·rw[hx,e2]
   ·rw[e2];exact e4
end
section
variable {κ:Kd} {w w0:World} {kc db St A C N nM base:Nat} {s:Sto} {D:DataW Unit} {l:List UInt8} {wr:Int} {nw:Root}
theorem Heads.mixed{N:Nat}{l l2:List UInt8}{n rb rs:Int}(h:Heads l n rb rs)(hN:2≤N)(hm:Mixed N l [] l2):Heads l2 n rb rs:=h.move fun k hk=>hm.oth k (by omega) (by simp)
theorem Lie.mixed{N:Nat}{l l2:List UInt8}{rb rs:Int}{r:Root}(h:Lie N l rb rs r)(hm:Mixed N l [] l2):Lie N l2 rb rs r:=h.move fun k hk=>hm.oth k (h.lt k hk) (by simp)
def Cuts(V A N C kc:Nat)(n:Int)(a b:List KV)(o:Res)(w:World):Prop:=
 ∃ κ' bb l1 ws1 wr',Dk κ' V A N C bb l1 ws1 wr' w∧(∀ l2,Mixed N l1 ws1 l2→qR6 N kc l2 n a b)∧(o=.ok→∀ l2,Mixed N l1 ws1 l2→qR6 N kc l2 n b b)
theorem Shop.cuts(hS:Shop w0 kc db St A C N nM s D l wr nw){x:Nat}{t:Tx}{r:Root}(hL:LiveT hS.E w0 x A N t s r)(hKA:Kp [A] w0 w)(hd:Dk κ s.V A N C base l [] wr w)(hst:t.St=St)(hwr:t.wrt=true)(h0:0≤t.nr)(h1:t.nr≤1000000000)(hrk:r.cont.length≤kc)(hN9:s.N≤999999999)
  (hfit:qC3 r+r.news+Maps.size D*kc+qC3 nw+2≤N):
  Calls prog 14 #[.pointer (some ⟨x,0,none⟩)] w fun e w'=>∃ o v,e=.returned v∧qO6 w' v o∧Kp [St,x,s.M,A,C] w w'∧Cuts s.V A N C kc s.N nw.cont r.cont o w':=by
 have htd:=hS.hM.tidy qN5;have hsd:=Maps.size_del (k:=qA1 t.nr) htd;have hle:Maps.size (D.del (qA1 t.nr))≤Maps.size D:=by omega
 have hdl:∀ k,Maps.has (D.del (qA1 t.nr)) k=true→Maps.has D k=true∧∀ zd,(D.del (qA1 t.nr)).atKey k zd=D.atKey k zd:=fun k hk=>by
  by_cases e:k=qA1 t.nr
  ·rw[e,Maps.has_del_same] at hk;cases hk
  ·rw[Maps.has_del_other e] at hk;exact⟨hk,fun zd=>Maps.atKey_del_other e zd⟩
 have hN8:=hS.N8;have hgo:(∀ W:World,Sem.run prog (Op.equalIn 10000 83 (τ s.V t.h) (τ s.V ⟨⟨#[]⟩,s.rb,s.rs,none⟩)) W=.ok false W)→Calls prog 14 #[.pointer (some ⟨x,0,none⟩)] w fun e w'=>∃ o v,e=.returned v∧qO6 w' v o∧Kp [St,x,s.M,A,C] w w'∧Cuts s.V A N C kc s.N nw.cont r.cont o w':=fun heq=>by
  refine (xC8 hS x t r hL hKA hd hst hwr h0 h1 heq hrk hN9 hdl (by have:=hS.m4;omega) (by have:=Nat.mul_le_mul_right kc hle;omega)).mono ?_;rintro e w' ⟨o,v,rfl,hv,hx,hK,hE⟩;refine⟨o,v,rfl,hv,hK,?_⟩
  cases o with
  | no k=>exact hE.elim
  | io=>
   obtain⟨_,_,l1,ws1,b,k,e1,_,e2⟩:=hE;exact⟨_,b,l1,ws1,_,e1,e2,fun h=>by cases h⟩
  | ok=>
   obtain⟨s',l',nt,b,_,e2,e3,e4,e5,e6,e7,e8,_⟩:=hE;have hh:∀ a l2,Mixed N l' [] l2→qR6 N kc l2 s.N a r.cont:=fun a l2 hm=>⟨_,_,_,nt,e3.mixed (by omega) hm,e4.mixed hm,e5,.inr e6,by rw[e6];exact hrk,by omega,by omega⟩;exact⟨_,b,l',[],_,e2,hh _,fun _=>hh _⟩
 cases hp:t.h.p with
 | some q=>exact hgo (fun W=>xD8 s.V q t.h s.rb s.rs hp hL.key W)
 | none=>
  by_cases he:t.h.b=s.rb∧t.h.s=s.rs
  ·have heq:∀ W:World,Sem.run prog (Op.equalIn 10000 83 (τ s.V t.h) (τ s.V ⟨⟨#[]⟩,s.rb,s.rs,none⟩)) W=.ok true W:=fun W=>by rw[xD9 s.V t.h s.rb s.rs hp hL.key W];simp[he]
   have hlie:Lie N l s.rb s.rs r:=by
    have h:=LiveT.lie (E':=hS.E) hL hp;rw[he.1,he.2] at h;exact h
   have hc:=(Lie.one hS.N1 hS.lie hlie).1;subst hst;obtain⟨cA,hA⟩:=hS.hA;have hMS:s.M≠t.St:=(qE7 hS.hSt hS.hM).symm;have hxM:x≠s.M:=qE7 hL.hx hS.hM;have hxw:=hKA.heap hL.hx (by simpa using qC2 hL.hx hA (by decide));have hStw:=hKA.heap hS.hSt (by simpa using qC2 hS.hSt hA (by decide));have hMw:=hS.hM.kp hKA (by simpa using (qE7 hA hS.hM).symm);have hoff:qV5 w [t.St,x,s.M]:=fun k hk c ty fr e=>by
    simp only[List.mem_cons,List.not_mem_nil,or_false] at hk;rcases hk with rfl|rfl|rfl
    ·rw[hStw] at e;cases e;decide
    ·rw[hxw] at e;cases e;decide
    ·exact absurd rfl (qE7 e hMw)
   refine (jP6 x nM s.V t s D [] (fun W w1=>Kp [] W w1) w hxw hL.over hStw hS.po hMw h0 h1 hMS hL.xS hxM hMw.lt hL.on hwr (by simp) ?_).mono ?_
   ·intro W hK hx' hS' hM';refine (xM1 t.St (s.left t.nr) t.h W hS' heq).mono ?_;rintro e w1 ⟨rfl,hK1⟩;exact⟨rfl,⟨_,hK1.hp hS'⟩,hK1,hK1.mono (by simp)⟩
   ·rintro e w' ⟨rfl,hKw,W,w1,B,s',hK,hx',hS',hM',hR,_,hs1,hs2,hB0,hB1,hKB⟩;have hoB:qV5 w1 [t.St,B]:=fun k hk c ty fr e=>by
     simp only[List.mem_cons,List.not_mem_nil,or_false] at hk;rcases hk with rfl|rfl
     ·rw[hs1] at e;cases e;decide
     ·rw[hB1] at e;cases e;decide
    have hh:∀ a l2,Mixed N l [] l2→qR6 N kc l2 s.N a r.cont:=fun a l2 hm=>⟨_,_,_,nw,hS.heads.mixed (by omega) hm,hS.lie.mixed hm,hS.good,.inr hc,hS.sz,by omega,by omega⟩;exact⟨.ok,_,rfl,rfl,hKw.mono (by intro i hi _;simp at hi ⊢;omega),_,_,l,[],_,((hd.keep hK hoff).keep0 hR).keep hKB hoB,hh _,fun _=>hh _⟩
  ·exact hgo (fun W=>by rw[xD9 s.V t.h s.rb s.rs hp hL.key W];simp[he])
end
theorem zB0(ba bb:Nat)(va vb:Value)(ps qs:List KV)(w:World)(ha:OPA w ba va ps)(hb:OPA w bb vb qs)(hn:ps.length≤1000000):
  Calls prog 18 #[va,vb] w fun e w'=>e=.returned (.bool (decide (ps=qs)))∧Kp [] w w':=by
 have sa:=qF6 ha;have sb:=qF6 hb;obtain⟨abs,acp,rfl⟩:=qJ6 ha;obtain⟨bbs,bcp,rfl⟩:=qJ6 hb;by_cases hll:ps.length=qs.length
 ·obtain⟨ln,hln⟩:∃ ln,ln=ps.length:=⟨_,rfl⟩;have HA:Hid (Slc w 64 2 (.slice abs ln acp) ps.length (qB0 ps)):=by rw[hln];exact sa
  have HB:Hid (Slc w 64 2 (.slice bbs ln bcp) qs.length (qB0 qs)):=by rw[hln,hll];exact sb
  have HLN:Hid (ln=ps.length∧ln=qs.length):=⟨hln,hln.trans hll⟩;rw[←hll,←hln];rw[←hln] at hn;clear ha hb sa sb hln hll;go_enter func18,ntmps18;go_wp2_with fail
  go_loopw [5] (fun i wr=>∃ (j:Nat),j≤ln∧i=.int .i64 j∧Hid (ps.take j=qs.take j)∧Hid (Kp [] w wr)) (fun i _=>ln-(intOf i).toNat)
  case atStart=>exact⟨0,Nat.zero_le _,rfl,rfl,Kp.refl _ _⟩
  case round=>
   obtain⟨j,hj,rfl,HT,HK⟩:=hrel;by_cases hlt:j<ln
   ·have hjb:(j:Int)<(ln:Int):=by omega
    have hjp:j<ps.length:=by have:=HLN.out;omega
    have hjq:j<qs.length:=by have:=HLN.out;omega
    obtain⟨ga,oa,ca,cua,fra,e1,e2,e3,e4⟩:=(HA.out.keep0 HK.out).pairT (by omega);obtain⟨gb,ob,cb,cub,frb,f1,f2,f3,f4⟩:=(HB.out.keep0 HK.out).pairT (by omega);simp only[Value.slice.injEq] at e1 f1;obtain⟨rfl,_,rfl⟩:=e1;obtain⟨rfl,_,rfl⟩:=f1;have a0:=ξ e3 (oa+j*2);rw[(e4 j hjp).1] at a0;have a1:=ξ e3 (oa+j*2+1);rw[(e4 j hjp).2] at a1;have b0:=ξ f3 (ob+j*2);rw[(f4 j hjq).1] at b0;have b1:=ξ f3 (ob+j*2+1);rw[(f4 j hjq).2] at b1;have hga:=ζ e3;have hgb:=ζ f3;have HNX:Hid (ps[j]=qs[j]→ps.take (j+1)=qs.take (j+1)):=fun h=>by rw[List.take_succ_eq_append_getElem hjp,List.take_succ_eq_append_getElem hjq,HT.out,h]
    have HNE:Hid (ps[j]≠qs[j]→ps≠qs):=fun h e=>h (by subst e;rfl);generalize ps[j]=x at a0 a1 HNX HNE;generalize qs[j]=y at b0 b1 HNX HNE;clear e3 f3 e4 f4;by_cases hxy:x=y
    ·subst hxy;have HT2:=Hid.mk' (HNX.out rfl);clear HNX HNE;go_wp2_with fail
     go_quiet (fail)
     go_wp2;exact⟨⟨j+1,by omega,by go_num,HT2,HK.out.trans ((Kp.refl [] _).drewN _) (by simp)⟩,by simp[intOf];omega⟩
    ·have HF:Hid (decide (ps=qs)=false):=decide_eq_false (HNE.out hxy);have hkv:(x.k.toList == y.k.toList)=false∨((x.k.toList == y.k.toList)=true∧(x.v.toList == y.v.toList)=false):=by
      by_cases e:x.k=y.k
      ·refine .inr ⟨by rw[qU7];simpa using e,?_⟩;rw[qU7];have:x.v≠y.v:=fun e2=>hxy (by cases x;cases y;simp only at e e2;rw[e,e2]);simpa using this
      ·exact .inl (by rw[qU7];simpa using e)
     clear HNX HNE hxy;rcases hkv with h1|⟨h1,h2⟩
     all_goals
      go_wp2_with fail
      go_quiet (fail)
      go_wp2;go_ret;exact⟨by rw[HF.out];rfl,HK.out.trans ((Kp.refl [] _).drewN _) (by simp)⟩
   ·have hjb:¬(j:Int)<(ln:Int):=by omega
    have HF:Hid (decide (ps=qs)=true):=by
     refine decide_eq_true ?_;have h:=HT.out;rw[List.take_of_length_le (by have:=HLN.out;omega),List.take_of_length_le (by have:=HLN.out;omega)] at h;exact h
    go_wp2;go_ret;exact⟨by rw[HF.out];rfl,HK.out⟩
 ·have hf:decide (ps=qs)=false:=decide_eq_false (fun e=>hll (by rw[e]));have HF:=zh hf;obtain⟨l1,hl1⟩:∃ l1,l1=ps.length:=⟨_,rfl⟩;obtain⟨l2,hl2⟩:∃ l2,l2=qs.length:=⟨_,rfl⟩;rw[←hl1,←hl2] at hll;rw[←hl1,←hl2];have hne:¬(l1:Int)=(l2:Int):=by omega
  clear ha hb sa sb hl1 hl2 hll hf;go_enter func18,ntmps18;go_wp2;go_ret;exact⟨by rw[HF.out];rfl,Kp.refl _ _⟩
theorem Dk.tells{κ κ':Kd}{V A N C base:Nat}{l:List UInt8}{ws:List (Nat × List UInt8)}{wr:Int}{w w':World}(h:Dk κ V A N C base l ws wr w)(hg:Gl w)(hK:Kp [A] w w'){v:Value}{calls:Int}(h0:w.heap[A]?=some (qC5 κ N C v calls wr))(h1:w'.heap[A]?=some (qC5 κ' N C v calls wr)):Dk κ' V A N C base l ws wr w':=by
 obtain⟨v0,c0,g1,g2,g3⟩:=h.hA;have e:=h0.symm.trans g1;simp[qC5] at e;obtain⟨rfl,rfl⟩:=e;exact⟨hK.heap h.hV (by simpa using h.VA),⟨v,calls,h1,zB8 g2 g1 hK,g3⟩,hK.heap h.hC (by simpa using h.AC),.inr (hg.keep hK (fun k hk c t fr e hm=>by rw[List.mem_singleton.1 hk,g1] at e;cases e;revert hm;decide)),Nat.le_trans h.low hK.size,h.fit,h.wl,h.len,h.N1⟩
theorem xA2{κ:Kd}{V A N C base:Nat}{l:List UInt8}{ws:List (Nat × List UInt8)}{wr:Int}{w:World}(h:Dk κ V A N C base l ws wr w)(hg:Gl w)(n:Int):
  Calls prog 13 #[.pointer (some ⟨A,0,none⟩),.int .i64 n] w fun e w'=>e=.returned (.tuple #[])∧Kp [A] w w'∧∃ κ',Dk κ' V A N C base l ws wr w':=by
 obtain⟨v,calls,hA,_⟩:=h.hA;have HD:Hid (Dk κ V A N C base l ws wr w∧Gl w∧w.heap[A]?=some (qC5 κ N C v calls wr)):=⟨h,hg,hA⟩;have c2:=ξ hA 2;have c5:=ξ hA 5;simp at c2 c5;have f5:=ω hA 5;clear h hg hA;go_enter func13,ntmps13;go_wp2
 go_end0
 obtain⟨h,hg,hA⟩:=HD.out;have hK:Kp [A] w (w.setCell ⟨A,5,none⟩ (.int .i64 (wrap64 (calls+n)))):=(Kp.refl _ _).sc _;exact⟨rfl,hK,⟨κ.cap,κ.told,wrap64 (calls+n),κ.fr,κ.to⟩,h.tells hg hK hA (φ hA 5 _)⟩
theorem jO1(n:Int)(v:DataW Unit):Maps.size ((emp.put (qA1 n) v).del (qA1 n))=0:=by
 have hem:Maps.Tidy emp:=⟨[],rfl,List.Pairwise.nil⟩;have h1:=Maps.size_put (k:=qA1 n) hem v;rw[if_neg (by simp[emp,Maps.has])] at h1;have ht:Maps.Tidy (emp.put (qA1 n) v):=by
  first | exact Maps.Tidy.put hem _ _ | exact hem.put (qA1 n) v | exact⟨[(qA1 n,v)],rfl,List.pairwise_singleton _ _⟩
 have h2:=Maps.size_del (k:=qA1 n) ht;rw[if_pos (Maps.has_put_same hem.isMap (show WideAt.IsKeyLit (qA1 _) from trivial) v)] at h2;have h3:Maps.size emp=0:=by simp[emp,Maps.size]
 omega
theorem Cuts.lies{V A N C kc:Nat}{n:Int}{a b:List KV}{o:Res}{w:World}(h:Cuts V A N C kc n a b o w):∃ κ' bb l1 ws1 wr',Dk κ' V A N C bb l1 ws1 wr' w∧∀ l2,Mixed N l1 ws1 l2→∃ N' rb' rs' rr,Heads l2 N' rb' rs'∧Lie N l2 rb' rs' rr∧RGood rr∧(rr.cont=a∨rr.cont=b)∧(o=.ok→rr.cont=b)∧rr.cont.length≤kc∧n≤N'∧N'≤n+2:=by
 obtain⟨κ',bb,l1,ws1,wr',h1,h2,h3⟩:=h;refine⟨κ',bb,l1,ws1,wr',h1,fun l2 hm=>?_⟩
 cases o with
 | ok=>
  obtain⟨N',rb',rs',rr,e1,e2,e3,e4,e5⟩:=h3 rfl l2 hm;have e4:rr.cont=b:=by simpa using e4
  exact⟨N',rb',rs',rr,e1,e2,e3,.inr e4,fun _=>e4,e5⟩
 | no k=>
  obtain⟨N',rb',rs',rr,e1,e2,e3,e4,e5⟩:=h2 l2 hm;exact⟨N',rb',rs',rr,e1,e2,e3,e4,fun h=>(by cases h),e5⟩
 | io=>
  obtain⟨N',rb',rs',rr,e1,e2,e3,e4,e5⟩:=h2 l2 hm;exact⟨N',rb',rs',rr,e1,e2,e3,e4,fun h=>(by cases h),e5⟩
theorem zO6(ps:List KV):(qA9 ps).length≤ps.length:=by
 unfold qA9 qG1;rw[List.length_take];have:=List.length_filter_le (inR ⟨#[]⟩ qS1) ps;omega
def qO1:List TypeId:=[64,3]
def Bag(W:World)(b:Nat)(kv:Value)(ys:List Int)(xs:List (Value × List KV)):Prop:=Slc W 3 1 kv ys.length (qI5 ys)∧∀ x∈xs,OPA W b x.1 x.2
theorem Bag.keep{W W':World}{b:Nat}{kv:Value}{ys:List Int}{xs:List (Value × List KV)}{S:List Nat}(h:Bag W b kv ys xs)(hK:Kp S W W')(hS:Apt W S qO1):Bag W' b kv ys xs:=
 ⟨h.1.keep hK (hS.sub (by simp[qO1])),fun x hx=>OPA.keep (h.2 x hx) hK (fun k hk c fr e=>hS k hk c _ fr e (by simp[qO1]))⟩
theorem Bag.keep0{W W':World}{b:Nat}{kv:Value}{ys:List Int}{xs:List (Value × List KV)}(h:Bag W b kv ys xs)(hK:Kp [] W W'):Bag W' b kv ys xs:=h.keep hK (Apt.nil _ _)
theorem Bag.add{W:World}{b b':Nat}{kv v:Value}{ys:List Int}{xs:List (Value × List KV)}{ps:List KV}(h:Bag W b kv ys xs)(ho:OPA W b' v ps)(hb:b≤b'):Bag W b kv ys ((v,ps)::xs):=
 ⟨h.1,fun x hx=>by rcases List.mem_cons.1 hx with rfl | hx;exact qH4 ho hb;exact h.2 x hx⟩
section
variable {w:World} {kc db St A C N nM:Nat} {s:Sto} {D:DataW Unit} {l:List UInt8} {wr:Int} {nw:Root}
theorem Shop.bag(hS:Shop w kc db St A C N nM s D l wr nw):Apt w [St,s.M,A,C] qO1:=by
 intro k hk c t fr e;obtain⟨cA,hA⟩:=hS.hA;simp only[List.mem_cons,List.not_mem_nil,or_false] at hk;rcases hk with rfl|rfl|rfl|rfl
 ·rw[hS.hSt] at e;cases e;decide
 ·exact absurd rfl (qE7 e hS.hM)
 ·rw[hA] at e;cases e;decide
 ·rw[hS.dev.hC] at e;cases e;decide
theorem Apt.less{w:World}{S S':List Nat}{Ts:List TypeId}(h:Apt w S Ts)(hs:∀ k∈S',k∈S):Apt w S' Ts:=fun k hk=>h k (hs k hk)
theorem Wrt.cuts{x:Nat}{t:Tx}{r:Root}{nr:Int}(hW:Wrt w kc db St A C N nM s D l wr nw x t r nr)(h0:0≤nr)(h1:nr≤1000000000)(hrk:r.cont.length≤kc)(hN9:s.N≤999999999)(hD:Maps.size D=0)(hfit:r.cont.length+1+(nw.cont.length+1) / 2+2≤N){κ:Kd}{W:World}(hK:Kp [A] w W)(hd:Dk κ s.V A N C 0 l [] wr W):
  Calls prog 14 #[.pointer (some ⟨x,0,none⟩)] W fun e w'=>∃ o v,e=.returned v∧((v=.nilIface∧o=.ok)∨∃ F,v=.iface 180 (.pointer (some ⟨F,0,none⟩))∧o≠.ok)∧Kp [St,x,s.M,A,C] W w'∧Cuts s.V A N C kc s.N nw.cont r.cont o w':=by
 have e1:=qR2 hW.live.good;have e2:=qS9 hW.live.good;have e3:=qS9 hW.shop.good;refine (hW.shop.cuts hW.live hK hd hW.st hW.wrt (by rw[hW.nr];exact h0) (by rw[hW.nr];exact h1) hrk hN9 (by rw[hD];omega)).mono ?_;rintro e w' ⟨o,v,rfl,hv,hK,hC⟩;refine⟨o,v,rfl,?_,hK,hC⟩
 cases o with
 | ok=>exact .inl ⟨hv,rfl⟩
 | no k=>obtain⟨F,call,rfl,_⟩:=hv;exact .inr ⟨F,rfl,by simp⟩
 | io=>obtain⟨F,call,p,rfl,_⟩:=hv;exact .inr ⟨F,rfl,by simp⟩
theorem Wrt.bag{x:Nat}{t:Tx}{r:Root}{nr:Int}(hW:Wrt w kc db St A C N nM s D l wr nw x t r nr){κ:Kd}{W:World}(hK:Kp [A] w W)(hd:Dk κ s.V A N C 0 l [] wr W):Apt W [St,x,s.M,A,C] qO1:=by
 obtain⟨cA,hA⟩:=hW.shop.hA;have hx:=hK.heap hW.live.hx (by simpa using qC2 hW.live.hx hA (by decide));have hSt:=hK.heap hW.shop.hSt (by simpa using qC2 hW.shop.hSt hA (by decide));have hM:=hW.shop.hM.kp hK (by simpa using (qE7 hA hW.shop.hM).symm);obtain⟨v,c,hA',_⟩:=hd.hA;intro k hk c t fr e;simp only[List.mem_cons,List.not_mem_nil,or_false] at hk;rcases hk with rfl|rfl|rfl|rfl|rfl
 ·rw[hSt] at e;cases e;decide
 ·rw[hx] at e;cases e;decide
 ·exact absurd rfl (qE7 e hM)
 ·rw[hA'] at e;cases e;decide
 ·rw[hd.hC] at e;cases e;decide
end
theorem xN4{T:TypeId}(a b c at_:Int)(bs:Option Addr)(cp:Nat)(xs:List Int)(ha0:-9223372036854775808≤a)(ha1:a≤9223372036854775807)(hb0:-9223372036854775808≤b)(hb1:b≤9223372036854775807)(hc0:-9223372036854775808≤c)(hc1:c≤9223372036854775807)(ht0:-9223372036854775808≤at_)(ht1:at_≤9223372036854775807)(w:World)(hg:Gl w)(hs:Slc w T 1 (.slice bs xs.length cp) xs.length (qI5 xs))(hn:(xs.length:Int)≤9223372036854775807):
  Calls prog 3 #[.int .i64 a,.int .i64 b,.int .i64 c,.int .i64 at_,.slice bs xs.length cp] w fun e w'=>e=.returned (.bool true)∧Kp [] w w':=by
 have HSL:Hid (Slc w T 1 (.slice bs xs.length cp) xs.length (qI5 xs)∧(xs.length:Int)≤9223372036854775807∧Gl w):=⟨hs,hn,hg⟩;have HTD:Hid (-9223372036854775808≤at_.tdiv 64∧at_.tdiv 64≤9223372036854775807):=by
  show -9223372036854775808≤at_.tdiv 64∧at_.tdiv 64≤9223372036854775807;rcases Int.le_total 0 at_ with h|h
  ·rw[Int.tdiv_eq_ediv_of_nonneg h];omega
  ·have h2:at_.tdiv 64=-((-at_) / 64):=by rw[←Int.tdiv_eq_ediv_of_nonneg (by omega),Int.neg_tdiv,Int.neg_neg]
   omega
 have HCC:Hid (-9223372036854775808≤c∧c≤9223372036854775807):=⟨hc0,hc1⟩;obtain⟨xl,hxl⟩:∃ xl,xl=xs.length:=⟨_,rfl⟩;have HXL:=zh hxl;rw[←hxl];clear hs hn hxl hg hc0 hc1;have HB:Hid (Calls prog 9 #[.int .i64 150,.int .i64 a] w fun e w'=>∃ db St A C s l wr nw v,e=.returned (.tuple #[.pointer (some ⟨A,0,none⟩),.pointer (some ⟨db,0,none⟩),v])∧Shop w' 300 db St A C 150 1 s emp l wr nw∧OPA w' w.heap.size v (qA9 nw.cont)∧s.wr=0∧s.bg=2∧s.N≤10∧nw.cont.length≤43∧(⟨qG3,qM8⟩:KV)∈nw.cont∧w.heap.size≤A∧w.heap.size≤C∧w.heap.size≤St∧w.heap.size≤db∧w.heap.size≤s.M∧Kp [] w w'):=xX1 150 300 (by omega) (by omega) (by omega) (by omega) a ha0 ha1 w;clear ha0 ha1;go_enter func3,ntmps3;go_wp2_with fail;refine (show Calls _ _ _ _ _ from HB.out).mono ?_;rintro e w1 ⟨db,St,A,C,s,l,wr,nw,v,rfl,hS1,ho1,hwr,hbg,hsN,hnw,_,gA,gC,gSt,gdb,gM,hK1⟩;have HS1:=zh hS1;have HO1:=zh ho1;obtain⟨ob,oc,rfl⟩:=qJ6 ho1;obtain⟨sl,hsl⟩:∃ sl,sl=(qA9 nw.cont).length:=⟨_,rfl⟩;rw[←hsl] at HO1 ⊢;have HK1:=zh hK1;have HF:Hid (Calls prog 10 #[.slice bs xl cp] w1 (zN7 w1)):=by
  have h:=xO9 bs cp xs w1 (HSL.out.1.keep0 HK1.out) HSL.out.2.1;rw[←HXL.out] at h;exact h
 clear hS1 ho1 hK1 HB hsl;go_wp2_with fail;refine (show Calls _ _ _ _ _ from HF.out).mono ?_;rintro e w2 ⟨kv,ys,rfl,hys,hrow,hK2⟩;have HS2:Hid (Shop w2 300 db St A C 150 1 s emp l wr nw):=HS1.out.more hK2;have hs1:=HK1.out.size;have HK2:Hid (Kp [] w w2):=HK1.out.tr hK2;have HR2:Hid (Bag w2 w.heap.size kv ys [(.slice ob sl oc,qA9 nw.cont)]):=⟨qF6 hrow,by simpa using OPA.keep HO1.out hK2 (by simp)⟩;obtain⟨kb,kcp,rfl⟩:=qL7 (qF6 hrow);obtain⟨kn,hkn⟩:∃ kn,kn=ys.length:=⟨_,rfl⟩;rw[←hkn] at HR2 ⊢;have HYS:=zh hys;clear hrow hK2 HS1 HO1 HK1 HF hkn hys;go_wp2_with fail;refine (qT8 b 25 hb0 hb1 (by omega) (by omega) w2).mono ?_;rintro e w2' ⟨⟨k,rfl,hk0,hk40⟩,hw⟩;rw[hw];clear hw w2';obtain⟨m,hm⟩:∃ m:Nat,(m:Int)=1+k:=⟨(1+k).toNat,by omega⟩;have HW:Hid (Calls prog 11 #[.pointer (some ⟨db,0,none⟩),.int .i64 b,.int .i64 (1+k)] w2 fun e w'=>∃ x t r v,e=.returned (.tuple #[.pointer (some ⟨x,0,none⟩),v])∧w2.heap.size≤x∧OPA w' w2.heap.size v (qA9 r.cont)∧r.cont.length≤68∧Kp [St,A] w2 w'∧Wrt w' 300 db St A C 150 1 s.wrote emp l wr nw x t r (s.bg+1)):=by
  rw[←hm];refine (zI1 HS2.out hwr (by omega) b hb0 hb1 m (by omega) (fun r' hg hz=>?_)).mono ?_
  ·have h1:=qR2 hg;have h2:=HS2.out.bl1;omega
  ·rintro e w' ⟨x,t,r,v,e1,e0,e2,e5,_,_,e3,e4⟩;exact⟨x,t,r,v,e1,e0,e2,by omega,e3,e4⟩
 clear hm hb0 hb1;go_wp2_with fail;refine (show Calls _ _ _ _ _ from HW.out).mono ?_;rintro e w3 ⟨x,t,r,v3,rfl,hx3,ho3,hr3,hK3,hW3⟩;have hs2:=HK2.out.size;have HR3:Hid (Bag w3 w.heap.size (.slice kb kn kcp) ys [(v3,qA9 r.cont),(.slice ob sl oc,qA9 nw.cont)]):=(HR2.out.keep hK3 (HS2.out.bag.less (by simp))).add ho3 hs2;have HK3:Hid (Kp [] w w3):=HK2.out.trans hK3 (by intro i hi hlt;simp at hi;omega);obtain⟨pb,pc,rfl⟩:=qJ6 ho3;obtain⟨pl,hpl⟩:∃ pl,pl=(qA9 r.cont).length:=⟨_,rfl⟩;rw[←hpl] at HR3 ⊢;have HX3:Hid (w.heap.size≤x∧r.cont.length≤68):=⟨by omega,hr3⟩;have HW3:=zh hW3;have HG3:Hid (Gl w3):=HSL.out.2.2.keep HK3.out (by simp);clear hx3 ho3 hr3 hK3 hW3 HW HR2 HS2 HK2 hpl;go_wp2_with fail;refine (qT8 at_ 30 ht0 ht1 (by omega) (by omega) w3).mono ?_;rintro e w3' ⟨⟨k2,rfl,_,_⟩,hw⟩;rw[hw];clear hw w3';have HOFF:Hid (Calls prog 13 #[.pointer (some ⟨A,0,none⟩),.int .i64 k2] w3 fun e w'=>e=.returned (.tuple #[])∧Kp [A] w3 w'∧∃ κ',Dk κ' s.V A 150 C 0 l [] wr w'):=xA2 HW3.out.shop.toShop0.dk HG3.out k2;go_wp2_with fail;refine (show Calls _ _ _ _ _ from HOFF.out).mono ?_;rintro e w4 ⟨rfl,hK4,κ4,hd4⟩;have HC:Hid (Calls prog 14 #[.pointer (some ⟨x,0,none⟩)] w4 fun e w'=>∃ o v,e=.returned v∧((v=.nilIface∧o=.ok)∨∃ F,v=.iface 180 (.pointer (some ⟨F,0,none⟩))∧o≠.ok)∧Kp [St,x,s.M,A,C] w4 w'∧Cuts s.V A 150 C 300 s.N nw.cont r.cont o w'):=HW3.out.cuts (by omega) (by omega) (by have:=HX3.out.2;omega) (by show s.N≤_;omega) (by simp[emp,Maps.size]) (by have:=HX3.out.2;omega) hK4 hd4;have HR4:Hid (Bag w4 w.heap.size (.slice kb kn kcp) ys [(.slice pb pl pc,qA9 r.cont),(.slice ob sl oc,qA9 nw.cont)]):=HR3.out.keep hK4 (HW3.out.shop.bag.less (by simp));have HN4:Hid (Apt w4 [St,x,s.M,A,C] qO1):=HW3.out.bag hK4 hd4;have HK4:Hid (Kp [] w w4):=HK3.out.trans hK4 (by intro i hi hlt;simp at hi;omega);have HSN:Hid (0≤s.N):=HW3.out.shop.sN0;clear hK4 hd4 HOFF HR3 HK3 HG3 HW3;go_wp2_with fail;refine (show Calls _ _ _ _ _ from HC.out).mono ?_;rintro e w5 ⟨o,ev,rfl,hev,hK5,hcut⟩;have hs4:=HK4.out.size;have HEV:=zh hev;have HR5:Hid (Bag w5 w.heap.size (.slice kb kn kcp) ys [(.slice pb pl pc,qA9 r.cont),(.slice ob sl oc,qA9 nw.cont)]):=HR4.out.keep hK5 HN4.out;have HK5:Hid (Kp [] w w5):=HK4.out.trans hK5 (by intro i hi hlt;have:=HX3.out.1;simp at hi;omega);obtain⟨κ5,bb,l1,ws1,wr5,hd5,hl5⟩:=hcut.lies;have HL5:=zh hl5;have HAF:Hid (Calls prog 15 #[.pointer (some ⟨A,0,none⟩),.slice kb kn kcp] w5 (qV1 150 l1 ws1 w5)):=zO5 hd5 (by omega) 3 _ ys HR5.out.1 (by have:=HYS.out;omega);clear hev hK5 hcut hd5 hl5 HC HR4 HK4 HN4;go_wp2_with fail;refine (show Calls _ _ _ _ _ from HAF.out).mono ?_;rintro e w6 ⟨A6,C6,l2,rfl,gA6,gC6,hne6,hA6,hC6,hmx6,hK6⟩;obtain⟨N6,rb6,rs6,rr,hH6,hL6,hG6,hor6,hok6,hkc6,hn6,hn6'⟩:=HL5.out l2 hmx6;have HOR6:Hid ((rr.cont=nw.cont∨rr.cont=r.cont)∧(o=.ok→rr.cont=r.cont)):=⟨hor6,hok6⟩;have hs5:=HK5.out.size;have HR6:Hid (Bag w6 w.heap.size (.slice kb kn kcp) ys [(.slice pb pl pc,qA9 r.cont),(.slice ob sl oc,qA9 nw.cont)]):=HR5.out.keep0 hK6;have HK6:Hid (Kp [] w w6):=HK5.out.tr hK6;have HOP:Hid (Calls prog 16 #[.pointer (some ⟨A6,0,none⟩)] w6 fun e w'=>∃ V M St Db,e=.returned (.tuple #[.pointer (some ⟨Db,0,none⟩),.nilIface])∧w6.heap.size≤V∧w6.heap.size≤M∧w6.heap.size≤St∧w6.heap.size≤Db∧Shop w' 300 Db St A6 C6 150 0 ⟨V,M,N6,rb6,rs6,qC3 rr,false,0,0⟩ emp l2 0 rr∧Kp [A6,C6] w6 w'):=xA8 A6 150 C6 300 0 0 l2 N6 rb6 rs6 rr w6 hA6 (by omega) (by omega) (by omega) (by omega) hC6 hmx6.len hne6 hH6 hL6 hG6 hkc6 (by omega) (by have:=HSN.out;omega);have HN6:Hid (Apt w6 [A6,C6] qO1):=Apt.cons (Apt.one hA6 (by decide)) (Apt.one hC6 (by decide));have HRL:Hid (rr.cont.length≤68∧N6≤12∧w.heap.size≤A6∧w.heap.size≤C6∧0≤N6):=⟨by have:=HX3.out.2;rcases hor6 with e | e<;>rw[e]<;>omega,by omega,by omega,by omega,by have:=HSN.out;omega⟩;clear hA6 hC6 hmx6 hK6 hH6 hL6 hG6 hor6 hok6 hkc6 hn6 hn6' HAF HL5 HR5 HK5;go_wp2_with fail;refine (show Calls _ _ _ _ _ from HOP.out).mono ?_;rintro e w7 ⟨V2,M2,St2,Db,rfl,gV,gM2,gSt2,gDb2,hS7,hK7⟩;have hs6:=HK6.out.size;have HR7:Hid (Bag w7 w.heap.size (.slice kb kn kcp) ys [(.slice pb pl pc,qA9 r.cont),(.slice ob sl oc,qA9 nw.cont)]):=HR6.out.keep hK7 HN6.out;have HK7:Hid (Kp [] w w7):=HK6.out.trans hK7 (by intro i hi hlt;have:=HRL.out;simp at hi;omega);have HNOW:Hid (Calls prog 17 #[.pointer (some ⟨Db,0,none⟩)] w7 fun e w'=>∃ v,e=.returned (.tuple #[v,.bool true])∧OPA w' w7.heap.size v (qA9 rr.cont)∧Shop w' 300 Db St2 A6 C6 150 1 ⟨V2,M2,N6,rb6,rs6,qC3 rr,false,1,0⟩ ((emp.put (qA1 1) (qE2 ⟨⟨#[]⟩,rb6,rs6,none⟩)).del (qA1 1)) l2 0 rr∧Kp [St2,M2,A6] w7 w'):=
  zI0 hS7 (by simp[emp,Maps.size]) (by omega) (by show (0:Int)≤_;omega) (by show (0:Int)≤0;omega)
 have HN7:Hid (Apt w7 [St2,M2,A6] qO1):=hS7.bag.less (by simp);have HGE:Hid (w.heap.size≤St2∧w.heap.size≤M2):=⟨by omega,by omega⟩;clear gV gM2 gSt2 gDb2 hS7 hK7 HOP HN6 HR6 HK6 gA6 gC6;go_wp2_with fail;refine (show Calls _ _ _ _ _ from HNOW.out).mono ?_;rintro e w8 ⟨v8,rfl,ho8,hS8,hK8⟩;have hs7:=HK7.out.size;have HR8:Hid (Bag w8 w.heap.size (.slice kb kn kcp) ys [(v8,qA9 rr.cont),(.slice pb pl pc,qA9 r.cont),(.slice ob sl oc,qA9 nw.cont)]):=(HR7.out.keep hK8 HN7.out).add ho8 hs7;have HK8:Hid (Kp [] w w8):=HK7.out.trans hK8 (by intro i hi hlt;have:=HGE.out;have:=HRL.out;simp at hi;omega);have HS8:=zh hS8;have HAL:Hid ((qA9 rr.cont).length≤1000000):=by have:=zO6 rr.cont;have:=HRL.out;exact (by omega:(qA9 rr.cont).length≤1000000)
 have HSM:Hid (Calls prog 18 #[v8,.slice ob sl oc] w8 fun e w'=>e=.returned (.bool (decide (qA9 rr.cont=qA9 nw.cont)))∧Kp [] w8 w'):=zB0 _ _ _ _ _ _ w8 (HR8.out.2 _ (.head _)) (HR8.out.2 _ (.tail _ (.tail _ (.head _)))) HAL.out;obtain⟨ob8,oc8,rfl⟩:=qJ6 ho8;obtain⟨ql,hql⟩:∃ ql,ql=(qA9 rr.cont).length:=⟨_,rfl⟩;rw[←hql] at HSM HR8 ⊢;clear ho8 hK8 hS8 HNOW HN7 HR7 HK7 hql;go_wp2_with fail;refine (show Calls _ _ _ _ _ from HSM.out).mono ?_;rintro e w9 ⟨rfl,hK9⟩;have HR9:Hid (Bag w9 w.heap.size (.slice kb kn kcp) ys [(.slice ob8 ql oc8,qA9 rr.cont),(.slice pb pl pc,qA9 r.cont),(.slice ob sl oc,qA9 nw.cont)]):=HR8.out.keep0 hK9;have HK9:Hid (Kp [] w w9):=HK8.out.tr hK9;have HS9:Hid (Shop w9 300 Db St2 A6 C6 150 1 ⟨V2,M2,N6,rb6,rs6,qC3 rr,false,1,0⟩ ((emp.put (qA1 1) (qE2 ⟨⟨#[]⟩,rb6,rs6,none⟩)).del (qA1 1)) l2 0 rr):=HS8.out.more hK9;have HS2:Hid (Calls prog 18 #[.slice ob8 ql oc8,.slice pb pl pc] w9 fun e w'=>e=.returned (.bool (decide (qA9 rr.cont=qA9 r.cont)))∧Kp [] w9 w'):=zB0 _ _ _ _ _ _ w9 (HR9.out.2 _ (.head _)) (HR9.out.2 _ (.tail _ (.head _))) HAL.out;obtain⟨q1,hq1⟩:∃ q1,q1=decide (qA9 rr.cont=qA9 nw.cont):=⟨_,rfl⟩;rw[←hq1];have HQ1:=zh hq1;clear hK9 HSM HR8 HK8 HS8 hq1;go_wp2_with fail;refine (show Calls _ _ _ _ _ from HS2.out).mono ?_;rintro e w10 ⟨rfl,hK10⟩;have HR10:Hid (Bag w10 w.heap.size (.slice kb kn kcp) ys [(.slice ob8 ql oc8,qA9 rr.cont)]):=⟨(HR9.out.keep0 hK10).1,by simpa using (HR9.out.keep0 hK10).2 _ (.head _)⟩;have HK10:Hid (Kp [] w w10):=HK9.out.tr hK10;have HS10:Hid (Shop w10 300 Db St2 A6 C6 150 1 ⟨V2,M2,N6,rb6,rs6,qC3 rr,false,1,0⟩ ((emp.put (qA1 1) (qE2 ⟨⟨#[]⟩,rb6,rs6,none⟩)).del (qA1 1)) l2 0 rr):=HS9.out.more hK10;obtain⟨q2,hq2⟩:∃ q2,q2=decide (qA9 rr.cont=qA9 r.cont):=⟨_,rfl⟩;rw[←hq2];have HOR:Hid ((q1=true∨q2=true)∧(o=.ok→q2=true)):=by
  refine⟨?_,fun h=>by rw[hq2,HOR6.out.2 h];simp⟩;rcases HOR6.out.1 with e|e
  ·exact .inl (by rw[HQ1.out,e];simp)
  ·exact .inr (by rw[hq2,e];simp)
 have HG0:=zh HSL.out.2.2;clear hK10 HS2 HR9 HK9 HS9 hq2 HQ1 HOR6 HSL HXL;have HB2:Hid ((ev=.nilIface∧q1=true∧q2=true)∨(ev=.nilIface∧q1=false∧q2=true)∨(∃ F,ev=.iface 180 (.pointer (some ⟨F,0,none⟩))∧q1=true∧q2=true)∨(∃ F,ev=.iface 180 (.pointer (some ⟨F,0,none⟩))∧q1=true∧q2=false)∨(∃ F,ev=.iface 180 (.pointer (some ⟨F,0,none⟩))∧q1=false∧q2=true)):=by
  have h:=HOR.out;rcases HEV.out with⟨rfl,rfl⟩|⟨F,rfl,_⟩<;>cases q1<;>cases q2<;>simp at h<;>simp[Hid]
 clear HEV HOR;rcases HB2.out with⟨rfl,rfl,rfl⟩|⟨rfl,rfl,rfl⟩|⟨F,rfl,rfl,rfl⟩|⟨F,rfl,rfl,rfl⟩|⟨F,rfl,rfl,rfl⟩
 all_goals
  clear HB2;go_wp2_with fail;refine (qT8 c 25 HCC.out.1 HCC.out.2 (by omega) (by omega) w10).mono ?_;rintro e w10' ⟨⟨k3,rfl,hk30,hk31⟩,hw⟩;rw[hw];clear hw w10';have HW:Hid (Calls prog 11 #[.pointer (some ⟨Db,0,none⟩),.int .i64 c,.int .i64 (1+k3)] w10 fun e w'=>∃ x t r v,e=.returned (.tuple #[.pointer (some ⟨x,0,none⟩),v])∧w10.heap.size≤x∧OPA w' w10.heap.size v (qA9 r.cont)∧r.cont.length≤93∧Kp [St2,A6] w10 w'∧Wrt w' 300 Db St2 A6 C6 150 1 (Sto.wrote ⟨V2,M2,N6,rb6,rs6,qC3 rr,false,1,0⟩) ((emp.put (qA1 1) (qE2 ⟨⟨#[]⟩,rb6,rs6,none⟩)).del (qA1 1)) l2 0 rr x t r 2):=by
   obtain⟨m,hm⟩:∃ m:Nat,(m:Int)=1+k3:=⟨(1+k3).toNat,by omega⟩;rw[←hm];have hrl:=HRL.out;refine (zI1 HS10.out rfl (by show (1:Int)≤_;omega) c HCC.out.1 HCC.out.2 m (by omega) (fun r' hg hz=>?_)).mono ?_
   ·have h1:=qR2 hg;have h2:=HS10.out.bl1;omega
   ·rintro e w' ⟨x,t,r,v,e1,e0,e2,e5,_,_,e3,e4⟩;exact⟨x,t,r,v,e1,e0,e2,by omega,e3,e4⟩
  go_wp2_with fail;refine (show Calls _ _ _ _ _ from HW.out).mono ?_;rintro e w11 ⟨x2,t2,r2,v11,rfl,hx11,ho11,hr11,hK11,hW11⟩;have hs10:=HK10.out.size;have HR11:Hid (Bag w11 w.heap.size (.slice kb kn kcp) ys [(v11,qA9 r2.cont),(.slice ob8 ql oc8,qA9 rr.cont)]):=(HR10.out.keep hK11 (HS10.out.bag.less (by simp))).add ho11 hs10;have HK11:Hid (Kp [] w w11):=HK10.out.trans hK11 (by intro i hi hlt;have:=HGE.out;have:=HRL.out;simp at hi;omega);obtain⟨pb2,pc2,rfl⟩:=qJ6 ho11;obtain⟨pl2,hpl2⟩:∃ pl2,pl2=(qA9 r2.cont).length:=⟨_,rfl⟩;rw[←hpl2] at HR11 ⊢;have HX11:Hid (w.heap.size≤x2∧r2.cont.length≤93):=⟨by omega,hr11⟩;have HW11:=zh hW11;have HG11:Hid (Gl w11):=HG0.out.keep HK11.out (by simp);clear hx11 ho11 hr11 hK11 hW11 HW HR10 HS10 HK10 hpl2;go_wp2_with fail;refine (qT8 (at_.tdiv 64) 30 HTD.out.1 HTD.out.2 (by omega) (by omega) w11).mono ?_;rintro e w11' ⟨⟨k4,rfl,_,_⟩,hw⟩;rw[hw];clear hw w11';have HOFF:Hid (Calls prog 13 #[.pointer (some ⟨A6,0,none⟩),.int .i64 k4] w11 fun e w'=>e=.returned (.tuple #[])∧Kp [A6] w11 w'∧∃ κ',Dk κ' V2 A6 150 C6 0 l2 [] 0 w'):=xA2 HW11.out.shop.toShop0.dk HG11.out k4;go_wp2_with fail;refine (show Calls _ _ _ _ _ from HOFF.out).mono ?_;rintro e w12 ⟨rfl,hK12,κ12,hd12⟩;have HC:Hid (Calls prog 14 #[.pointer (some ⟨x2,0,none⟩)] w12 fun e w'=>∃ o v,e=.returned v∧((v=.nilIface∧o=.ok)∨∃ F,v=.iface 180 (.pointer (some ⟨F,0,none⟩))∧o≠.ok)∧Kp [St2,x2,M2,A6,C6] w12 w'∧Cuts V2 A6 150 C6 300 N6 rr.cont r2.cont o w'):=HW11.out.cuts (by omega) (by omega) (by have:=HX11.out.2;omega) (by have:=HRL.out;show N6≤_;omega) (jO1 _ _) (by have:=HX11.out.2;have:=HRL.out;omega) hK12 hd12;have HR12:Hid (Bag w12 w.heap.size (.slice kb kn kcp) ys [(.slice pb2 pl2 pc2,qA9 r2.cont),(.slice ob8 ql oc8,qA9 rr.cont)]):=HR11.out.keep hK12 (HW11.out.shop.bag.less (by simp));have HN12:Hid (Apt w12 [St2,x2,M2,A6,C6] qO1):=HW11.out.bag hK12 hd12;have HK12:Hid (Kp [] w w12):=HK11.out.trans hK12 (by intro i hi hlt;have:=HRL.out;simp at hi;omega);clear hK12 hd12 HOFF HR11 HK11 HG11 HW11;go_wp2_with fail;refine (show Calls _ _ _ _ _ from HC.out).mono ?_;rintro e w13 ⟨o2,ev2,rfl,hev2,hK13,hcut2⟩;have hs12:=HK12.out.size;have HEV2:=zh hev2;have HR13:Hid (Bag w13 w.heap.size (.slice kb kn kcp) ys [(.slice pb2 pl2 pc2,qA9 r2.cont),(.slice ob8 ql oc8,qA9 rr.cont)]):=HR12.out.keep hK13 HN12.out;have HK13:Hid (Kp [] w w13):=HK12.out.trans hK13 (by intro i hi hlt;have:=HX11.out.1;have:=HGE.out;have:=HRL.out;simp at hi;omega);obtain⟨κ13,bb13,l13,ws13,wr13,hd13,hl13⟩:=hcut2.lies;have HL13:=zh hl13;have HAF:Hid (Calls prog 15 #[.pointer (some ⟨A6,0,none⟩),.slice kb kn kcp] w13 (qV1 150 l13 ws13 w13)):=zO5 hd13 (by omega) 3 _ ys HR13.out.1 (by have:=HYS.out;omega);clear hev2 hK13 hcut2 hd13 hl13 HC HR12 HK12 HN12;go_wp2_with fail;refine (show Calls _ _ _ _ _ from HAF.out).mono ?_;rintro e w14 ⟨A14,C14,l14,rfl,gA14,gC14,hne14,hA14,hC14,hmx14,hK14⟩;obtain⟨N14,rb14,rs14,r3,hH14,hL14,hG14,hor14,hok14,hkc14,hn14,_⟩:=HL13.out l14 hmx14;have HOR14:Hid ((r3.cont=rr.cont∨r3.cont=r2.cont)∧(o2=.ok→r3.cont=r2.cont)):=⟨hor14,hok14⟩;have hs13:=HK13.out.size;have HR14:Hid (Bag w14 w.heap.size (.slice kb kn kcp) ys [(.slice pb2 pl2 pc2,qA9 r2.cont),(.slice ob8 ql oc8,qA9 rr.cont)]):=HR13.out.keep0 hK14;have HK14:Hid (Kp [] w w14):=HK13.out.tr hK14;have HFD:Hid (Calls prog 19 #[.pointer (some ⟨A14,0,none⟩)] w14 fun e w'=>∃ v,e=.returned (.tuple #[v,.bool true])∧OPA w' w14.heap.size v (qA9 r3.cont)∧(∃ c,w'.heap[A14]?=some (qA2 (l14.length / 128) 150 C14 (.slice none 0 0) c 0))∧w'.heap[C14]?=some (.cells (enc l14) 87)∧Kp [A14,C14] w14 w'):=xR8 A14 150 C14 0 0 l14 N14 rb14 rs14 r3 w14 hA14 (by omega) (by omega) (by omega) (by omega) hC14 hmx14.len hne14 hH14 hL14 hG14 hkc14 (by have:=HRL.out;omega);have HN14:Hid (Apt w14 [A14,C14] qO1):=Apt.cons (Apt.one hA14 (by decide)) (Apt.one hC14 (by decide));have HGE14:Hid (w.heap.size≤A14∧w.heap.size≤C14∧r3.cont.length≤300):=⟨by omega,by omega,hkc14⟩;clear gA14 gC14 hA14 hC14 hmx14 hK14 hH14 hL14 hG14 hor14 hok14 hkc14 hn14 HAF HL13 HR13 HK13;go_wp2_with fail;refine (show Calls _ _ _ _ _ from HFD.out).mono ?_;rintro e w15 ⟨v15,rfl,ho15,_,_,hK15⟩;have hs14:=HK14.out.size;have HR15:Hid (Bag w15 w.heap.size (.slice kb kn kcp) ys [(v15,qA9 r3.cont),(.slice pb2 pl2 pc2,qA9 r2.cont),(.slice ob8 ql oc8,qA9 rr.cont)]):=(HR14.out.keep hK15 HN14.out).add ho15 hs14;have HK15:Hid (Kp [] w w15):=HK14.out.trans hK15 (by intro i hi hlt;have:=HGE14.out;simp at hi;omega);have HAL:Hid ((qA9 r3.cont).length≤1000000):=by have:=zO6 r3.cont;have:=HGE14.out;exact (by omega:(qA9 r3.cont).length≤1000000)
  have HSM:Hid (Calls prog 18 #[v15,.slice ob8 ql oc8] w15 fun e w'=>e=.returned (.bool (decide (qA9 r3.cont=qA9 rr.cont)))∧Kp [] w15 w'):=zB0 _ _ _ _ _ _ w15 (HR15.out.2 _ (.head _)) (HR15.out.2 _ (.tail _ (.tail _ (.head _)))) HAL.out;obtain⟨ob15,oc15,rfl⟩:=qJ6 ho15;obtain⟨zl,hzl⟩:∃ zl,zl=(qA9 r3.cont).length:=⟨_,rfl⟩;rw[←hzl] at HSM HR15 ⊢;clear ho15 hK15 HFD HN14 HR14 HK14 hzl;go_wp2_with fail;refine (show Calls _ _ _ _ _ from HSM.out).mono ?_;rintro e w16 ⟨rfl,hK16⟩;have HR16:Hid (Bag w16 w.heap.size (.slice kb kn kcp) ys [(.slice ob15 zl oc15,qA9 r3.cont),(.slice pb2 pl2 pc2,qA9 r2.cont),(.slice ob8 ql oc8,qA9 rr.cont)]):=HR15.out.keep0 hK16;have HK16:Hid (Kp [] w w16):=HK15.out.tr hK16;have HS2:Hid (Calls prog 18 #[.slice ob15 zl oc15,.slice pb2 pl2 pc2] w16 fun e w'=>e=.returned (.bool (decide (qA9 r3.cont=qA9 r2.cont)))∧Kp [] w16 w'):=zB0 _ _ _ _ _ _ w16 (HR16.out.2 _ (.head _)) (HR16.out.2 _ (.tail _ (.head _))) HAL.out;obtain⟨p1,hp1⟩:∃ p1,p1=decide (qA9 r3.cont=qA9 rr.cont):=⟨_,rfl⟩;rw[←hp1];have HP1:=zh hp1;clear hK16 HSM HR15 HK15 hp1;go_wp2_with fail;refine (show Calls _ _ _ _ _ from HS2.out).mono ?_;rintro e w17 ⟨rfl,hK17⟩;have HK17:Hid (Kp [] w w17):=HK16.out.tr hK17;obtain⟨p2,hp2⟩:∃ p2,p2=decide (qA9 r3.cont=qA9 r2.cont):=⟨_,rfl⟩;rw[←hp2];have HOR:Hid ((p1=true∨p2=true)∧(o2=.ok→p2=true)):=by
   refine⟨?_,fun h=>by rw[hp2,HOR14.out.2 h];simp⟩;rcases HOR14.out.1 with e|e
   ·exact .inl (by rw[HP1.out,e];simp)
   ·exact .inr (by rw[hp2,e];simp)
  clear hK17 HS2 HR16 HK16 hp2 HP1 HOR14;have HB3:Hid ((ev2=.nilIface∧p1=true∧p2=true)∨(ev2=.nilIface∧p1=false∧p2=true)∨(∃ F,ev2=.iface 180 (.pointer (some ⟨F,0,none⟩))∧p1=true∧p2=true)∨(∃ F,ev2=.iface 180 (.pointer (some ⟨F,0,none⟩))∧p1=true∧p2=false)∨(∃ F,ev2=.iface 180 (.pointer (some ⟨F,0,none⟩))∧p1=false∧p2=true)):=by
   have h:=HOR.out;rcases HEV2.out with⟨rfl,rfl⟩|⟨F,rfl,_⟩<;>cases p1<;>cases p2<;>simp at h<;>simp[Hid]
  clear HEV2 HOR;rcases HB3.out with⟨rfl,rfl,rfl⟩|⟨rfl,rfl,rfl⟩|⟨F,rfl,rfl,rfl⟩|⟨F,rfl,rfl,rfl⟩|⟨F,rfl,rfl,rfl⟩
  all_goals
   clear HB3;go_wp2;go_ret;exact⟨rfl,HK17.out⟩
end Go.Proofs.YtdohpenfkdckiabGreatDoor
namespace Go.Proofs.YtdohpenfkdckiabGreatDoor
open Go.Proofs.Tryz
open Go.ChangeShapes Go.WideShapes Go.RowKit Go.Deep
theorem zD9{n:Int}(h:(Lit.int .i64 n).wf=true):-9223372036854775808≤n∧n≤9223372036854775807:=by
 simp[Lit.wf,IntKind.min,IntKind.max,IntKind.bits,IntKind.signed] at h;omega
theorem zW2:laidOutB prog=true:=by kernel_rfl
theorem jM1:ownKnob prog.godebug=none:=by kernel_rfl
theorem jM2(os:Os)(H:Type)(enc:TypeId × Value→H):
  ∃ (w:World) (tape:Tape) (i:Input),w.os=os∧(w.forCall tape i).Shaped prog∧i.vars=[]∧Input.okWide prog (w.forCall tape i) .any w.heap.size 3 i∧
   ((Rows.eitherSpec.pre enc prog f3 [] false (w.forCall tape i).memory i.args∧laidMetH prog Rows.eitherRow.laid (w.forCall tape i).memory)∧sizedMet enc prog f3 (OpenSpec.ofChange Rows.eitherSpec) false (w.forCall tape i).memory i.args)∧({}:Assume).holds prog (lone (Frame.enter prog 3 i.args .normal) [] (w.forCall tape i)):=
 ChangeSpec.witness_at (enc:=enc) (C:=checked) (os:=os) (X:=fun w _=>laidMetH prog Rows.eitherRow.laid w) false (World.laidAll prog os (Rows.eitherRow.laid.filter fun x=>x.2.handleName?.isNone)) #[.int .i64 0,.int .i64 0,.int .i64 0,.int .i64 0,.slice none 0 0] 8 rfl (by kernel_rfl) (by kernel_rfl) (by kernel_rfl) (by kernel_rfl) (by kernel_rfl) (laidMetH_of_parts (laidMet_of_run' 8 (by kernel_rfl) (by kernel_rfl)) (by kernel_rfl))
end Go.Proofs.YtdohpenfkdckiabGreatDoor
namespace Go.Proofs.YtdohpenfkdckiabGreatDoor
open Go.Proofs.Tryz
open Go Go.ChangeShapes Go.WideShapes Go.RowKit Go.Deep
theorem xK1:prog.cellsOf 3=1:=by kernel_rfl
theorem jJ5{H:Type}{enc:TypeId × Value→H}{W:World}{fuel:Nat}{c0:Value}{x:DataW H × List MemPlace}(h:DataW.trod enc prog W 0 (fun _=>true) true fuel 22 [c0]=some x):
  ∃ (T:TypeId) (bs:Option Addr) (cp:Nat) (xs:List Int),c0=.slice bs xs.length cp∧Slc W T 1 (.slice bs xs.length cp) xs.length (qI5 xs)∧(xs.length:Int)≤9223372036854775807:=by
 rcases open_slice underlying22 h with⟨hc,_⟩|⟨a,len,cap,m,k,D,Pl,hc,_,hl,hmx,hmm,_,hall⟩
 ·simp only[List.cons.injEq,and_true] at hc;exact⟨0,none,0,[],hc,⟨rfl,.inl ⟨rfl,none,0,rfl,fun _=>rfl⟩⟩,by simp⟩
 ·simp only[List.cons.injEq,and_true] at hc;simp only[if_true] at hmm;rw[xK1] at hall;obtain⟨f,hfs⟩:=choose_lt (n:=len) (p:=fun i (o:Int)=>W.cell? (a.add (i*1))=some (.int .i64 o)) (fun i hi=>by
   obtain⟨cs',h1,h2⟩:=hall i (by omega);obtain⟨_,hlen,hcell⟩:=World.cells?_some h1;obtain⟨k0,e0,_,f0⟩:=DataW.trod_int underlying3 h2;subst e0;exact⟨k0,by simpa [Addr.add] using hcell 0 (by omega)⟩)
  have hl2:((List.range len).map f).length=len:=by simp
  have hmx2:(len:Int)≤9223372036854775807:=by unfold maxLen at hmx;omega
  by_cases h0:len=0
  ·subst h0;exact⟨0,some a,cap,[],by simpa using hc,⟨rfl,.inl ⟨rfl,some a,cap,rfl,fun h=>by cases h⟩⟩,by simp⟩
  ·obtain⟨b,off,spot⟩:=a;have g0:=hfs 0 (by omega);have hspot:spot=none:=by simpa [Addr.add] using World.cell?_spot (v:=.int .i64 (f 0)) g0
   subst hspot;obtain⟨cur,T,fr,hb⟩:∃ cur T fr,W.heap[b]?=some (.cells cur T fr):=by
    have h1:=g0;unfold World.cell? at h1;simp only[Addr.add] at h1;split at h1
    ·exact⟨_,_,_,by assumption⟩
    ·cases h1
   refine⟨T,some ⟨b,off,none⟩,cap,(List.range len).map f,by rw[hl2];exact hc,?_,by rw[hl2];exact hmx2⟩;refine⟨by simp[qI5],.inr ⟨b,off,cap,cur,fr,rfl,by rw[hl2];omega,by rw[hl2];exact hl,hb,fun j u hu=>?_⟩⟩;have hj:j<len:=by
    have:=(List.getElem?_eq_some_iff.1 hu).1;simpa [qI5] using this
   have e1:u=.int .i64 (f j):=by simpa [qI5,hj] using hu.symm
   have h2:=hfs j hj;rw[qM1,ξ hb,Nat.mul_one] at h2;subst e1;exact h2
section
variable {H:Type} {enc:TypeId × Value→H}
theorem jR1{P:Program}{w:World}{base:Nat}{spare:Nat→Bool}{held:Bool}{t0 t1 t2 t3 t4:TypeId}{args:Array Value}{ds:List (DataW H)}{ps:List MemPlace}(h:DataW.TrodAll enc P w base spare held [t0,t1,t2,t3,t4] args.toList ds ps):
  ∃ v0 v1 v2 v3 v4 d0 d1 d2 d3 d4 p0 p1 p2 p3 p4,args=#[v0,v1,v2,v3,v4]∧ds=[d0,d1,d2,d3,d4]∧ps=p0++p1++p2++p3++p4∧DataW.Trod enc P w base spare held t0 v0 d0 p0∧DataW.Trod enc P w base spare held t1 v1 d1 p1∧DataW.Trod enc P w base spare held t2 v2 d2 p2∧DataW.Trod enc P w base spare held t3 v3 d3 p3∧DataW.Trod enc P w base spare held t4 v4 d4 p4:=by
 obtain⟨v,vs,d,ds',p,q,hargs,rfl,rfl,hd,hrest⟩:=trodAll_cons h;obtain⟨v1,v2,v3,v4,d1,d2,d3,d4,p1,p2,p3,p4,e1,rfl,rfl,h1,h2,h3,h4⟩:=trodAll_four (args:=vs.toArray) (by simpa using hrest);exact⟨v,v1,v2,v3,v4,d,d1,d2,d3,d4,p,p1,p2,p3,p4,by cases args;simp_all,rfl,by simp,hd,h1,h2,h3,h4⟩
theorem jR2{P:Program}{w:World}{base:Nat}{spare:Nat→Bool}{held:Bool}{t0 t1 t2 t3 t4:TypeId}{v0 v1 v2 v3 v4:Value}{d0 d1 d2 d3 d4:DataW H}{p0 p1 p2 p3 p4:List MemPlace}(h0:DataW.Trod enc P w base spare held t0 v0 d0 p0)(h1:DataW.Trod enc P w base spare held t1 v1 d1 p1)(h2:DataW.Trod enc P w base spare held t2 v2 d2 p2)(h3:DataW.Trod enc P w base spare held t3 v3 d3 p3)(h4:DataW.Trod enc P w base spare held t4 v4 d4 p4):
  DataW.TrodAll enc P w base spare held [t0,t1,t2,t3,t4] [v0,v1,v2,v3,v4] [d0,d1,d2,d3,d4] (p0++(p1++(p2++(p3++p4)))):=⟨p0,_,h0,trodAll_mk4 h1 h2 h3 h4,rfl⟩
theorem jC5{a:Assume}{C:Checked}{os:Os}{f:FuncId}{fn:Func}{s:ChangeSpec}{conds:List PathCond}{apart fresh handsOn again:Bool}{X:World→Array Value→Prop}
  (hX:∀ (w w':World) (args:Array Value),w.heap=w'.heap→X w args→X w' args)
  (own:ownKnob C.prog.godebug=none) (started:os.Started) (noInit:C.prog.inits.idxOf? f=none) (hfn:C.prog.funcs[f]?=some fn)
  (witness:∃ (w:World) (tape:Tape) (i:Input),w.os=os∧(w.forCall tape i).Shaped C.prog∧i.vars=[]∧Input.okWide C.prog (w.forCall tape i) .any w.heap.size f i∧
   ((s.pre enc C.prog fn conds apart (w.forCall tape i).memory i.args∧X (w.forCall tape i).memory i.args)∧sizedMet enc C.prog fn (OpenSpec.ofChange s) apart (w.forCall tape i).memory i.args)∧a.holds C.prog (lone (Frame.enter C.prog f i.args .normal) [] (w.forCall tape i)))
  (hc:∀ (W:World) (base:Nat) (args:Array Value) (ds gs:List (DataW H)) (before:List MemPlace),
   (∀ (j:Nat) t v,fn.params[j]?=some t→args[j]?=some v→Value.okWide C.prog W .any base t v)→
   DataW.Whole enc C.prog fn.params.toList s.vars apart W args.toList ds gs before→X W args→W.ShapedOpen C.prog→
   Calls C.prog f args W fun e W'=>∃ v,e=.returned v∧s.post enc C.prog fn apart fresh handsOn again W args v W'):
  ReturnsInHanded a C os f .any (fun w args=>(s.pre enc C.prog fn conds apart w args∧X w args)∧sizedMet enc C.prog fn (OpenSpec.ofChange s) apart w args) (s.post enc C.prog fn apart fresh handsOn again):=by
 refine returnsInHanded_of_calls own started noInit witness ?_;rintro w tape i _ hsh _ ⟨_,_,_,fn',h1,_,_,_,_,hval⟩ ⟨⟨⟨ds,gs,before,hw,_⟩,hx⟩,_⟩ _;obtain rfl:fn'=fn:=Option.some.inj (h1.symm.trans hfn);refine (hc (w.forCall tape i) w.heap.size i.args ds gs before hval (DataW.Whole.of_heap (w':=w.forCall tape i) (by rfl) hw) (hX _ _ _ (by rfl) hx) hsh).mono fun e W' ⟨v,he,hp⟩=>?_;subst he;exact ChangeSpec.post_blind hp
end
theorem xS9{W:World}(h:laidMetH prog Rows.eitherRow.laid W)(hs:W.ShapedOpen prog):Gl W:=by
 have h1:laidMet prog [("internal/strconv.uint64pow10",Lib.tabData .u64 Lib.pow10Tab)] W:=((laidMetH_iff.1 h).1.filter (fun x=>x.1 == "internal/strconv.uint64pow10"));have hg:prog.globalNamed "internal/strconv.uint64pow10"=some 1:=by kernel_rfl
 have hT:=Lib.tabIs_of_head (g:=1) (t:=314) (e:=75) (n:=20) hg (by kernel_rfl) underlying314 underlying75 (by kernel_rfl) (by kernel_rfl) h1;obtain⟨cs,hh,_,_⟩:=hs.1 1 (List.replicate 20 (.int .u64 0)).toArray 314 (of_decide_eq_true (by kernel_rfl)) (by kernel_rfl);obtain⟨cs4,hh4,hz4,hr4⟩:=hs.1 4 (List.replicate 12 (.string ⟨#[]⟩)).toArray 330 (of_decide_eq_true (by kernel_rfl)) (by kernel_rfl);obtain⟨ts,hts,_,hall⟩:=hr4 (by kernel_rfl);have hct:prog.cellTypes prog.depth 330=some (List.replicate 12 9):=by kernel_rfl
 obtain rfl:=Option.some.inj (hct.symm.trans hts);have hz:cs4.size=12:=hz4;obtain⟨u,hu,hok⟩:=hall 8 cs4[8] (by simp[hz]);have hu':u=9:=by simpa using hu.symm
 subst hu';have hw:∃ t,cs4[8]?=some (.string t):=by
  unfold Cell.ok at hok;rw[underlying9] at hok;cases hv:cs4[8]<;>rw[hv] at hok<;>simp at hok
  case string t=>exact⟨t,by rw[←hv];simp[hz]⟩
 obtain⟨t,hw⟩:=hw;have ht:W.heap[1]?=some (.cells (Lib.pow10Tab.map fun z=>Value.int .u64 z).toArray 314 (0,0)):=by
  unfold Lib.TabIs World.var? at hT;simp only[hg,Option.bind_some,hh] at hT;rw[hh,Option.some.inj hT]
 exact⟨⟨_,ht⟩,⟨cs4,_,t,hh4,hw⟩⟩
theorem xN3(os:Os)(started:os.Started)(H:Type)(enc:TypeId × Value→H):
  ReturnsInHanded {} checked os 3 .any (fun w args=>(Rows.eitherSpec.pre enc prog f3 [] false w args∧laidMetH prog Rows.eitherRow.laid w)∧sizedMet enc prog f3 (OpenSpec.ofChange Rows.eitherSpec) false w args)
   (Rows.eitherSpec.post enc prog f3 false true false false):=by
 refine jC5 (C:=checked) (X:=fun w _=>laidMetH prog Rows.eitherRow.laid w) (fun _ _ _ hh h=>h.of_heap hh) jM1 started (by kernel_rfl) func3 (jM2 os H enc) ?_;intro W base args ds gs before hval0 hW hL hsh;have hval:∀ (j:Nat) t v,f3.params[j]?=some t→args[j]?=some v→Value.okWide prog W .any base t v:=hval0;have hW':=hW;obtain⟨p,q,hA0,hV,rfl,_,_⟩:=hW;have hA:DataW.TrodAll enc prog W 0 (fun _=>true) true f3.params.toList args.toList ds p:=hA0;rw[params3] at hA hval;obtain⟨v0,v1,v2,v3,v4,d0,d1,d2,d3,d4,p0,p1,p2,p3,p4,rfl,rfl,rfl,h0,h1,h2,h3,h4⟩:=jR1 hA;obtain⟨rfl,rfl⟩:=trodVars_none hV;clear hA0 hval0;simp only[List.append_nil] at hW';obtain⟨a,rfl,rfl,rfl,wa⟩:=open_int underlying3 (hval 0 3 v0 rfl rfl) h0;obtain⟨b,rfl,rfl,rfl,wb⟩:=open_int underlying3 (hval 1 3 v1 rfl rfl) h1;obtain⟨c,rfl,rfl,rfl,wc⟩:=open_int underlying3 (hval 2 3 v2 rfl rfl) h2;obtain⟨t,rfl,rfl,rfl,wt⟩:=open_int underlying3 (hval 3 3 v3 rfl rfl) h3;have hlt:∀ x∈p4,x.block<W.heap.size:=fun x hx=>by simpa using hW'.lt x (by simpa using hx)
 obtain⟨a0,len,cap,rfl⟩:=okWide_slice underlying22 (hval 4 22 v4 rfl rfl);have h4k:=h4;obtain⟨fuel,hf⟩:=h4;obtain⟨T,bs,cp,xs,hc,hS,hxs⟩:=jJ5 (c0:=.slice a0 len cap) (by simpa [Value.cells] using hf);cases hc;have e1:Rows.eitherSpec.fn H ([.lit (.int .i64 a),.lit (.int .i64 b),.lit (.int .i64 c),.lit (.int .i64 t),d4]++[])={ results:=[.lit (.bool true)],args:=[.lit (.int .i64 a),.lit (.int .i64 b),.lit (.int .i64 c),.lit (.int .i64 t),d4] }:=by simp[Rows.eitherSpec]
 obtain⟨ha0,ha1⟩:=zD9 wa;obtain⟨hb0,hb1⟩:=zD9 wb;obtain⟨hc0,hc1⟩:=zD9 wc;obtain⟨ht0,ht1⟩:=zD9 wt;refine (xN4 a b c t _ _ xs ha0 ha1 hb0 hb1 hc0 hc1 ht0 ht1 W (xS9 hL hsh) hS hxs).mono fun e W' ⟨he,hK⟩=>?_;subst he;have hb:Below W.heap.size W W':=hK.below (Nat.le_refl _) (by simp);refine⟨_,rfl,_,_,_,[],p4,[],hW',?_,?_,?_,hb.frame _,fun h=>by cases h⟩
 ·rw[e1];exact trodAll_mk1 (shut_bool underlying4 true)
 ·rw[e1];exact jR2 (shut_int underlying3 wa) (shut_int underlying3 wb) (shut_int underlying3 wc) (shut_int underlying3 wt) (Below.trod zW2 (by kernel_rfl) (of_decide_eq_true (by kernel_rfl)) h4k hb hlt)
 ·rw[e1];rfl
end Go.Proofs.YtdohpenfkdckiabGreatDoor
