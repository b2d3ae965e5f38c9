import Derived.Test.YtdohpenfkdckiabGreatDoorB16
import Derived.Test.YtdohpenfkdckiabGreatDoorF07
import Derived.Test.YtdohpenfkdckiabGreatDoorRows
import Derived.ChangeSame
import Derived.ChangeVars
import Derived.JoinedOf
import Derived.RowKit
import Derived.LaidLaws
import Derived.LaidHandle
import Derived.Deep.Slices
import Derived.Stop.Joined
import Derived.Lay
set_option linter.all false
set_option maxRecDepth 100000
set_option maxHeartbeats 20000000
namespace Go.Proofs.YtdohpenfkdckiabGreatDoor
open Go.Proofs.Tryz
open Go.RowKit
theorem xU7(k:Lit):emp.del k=emp:=by simp[emp,DataW.del]
section
variable {w:World} {kc db St A C N nM:Nat} {s:Sto} {D:DataW Unit} {l:List UInt8} {wr:Int} {nw:Root}
theorem Wrt.put{x:Nat}{t:Tx}{r:Root}{nr:Int}(h:Wrt w kc db St A C N nM s D l wr nw x t r nr){w':World}{p:KV}{h':HL}(hF:FineT h.shop.E w w' x t s (r.put p) h')(hp:qC3 p)(hc:t.ch≤10000000)(hr:r.cont.length≤10000):Wrt w' kc db St A C N nM s D l wr nw x { t with h:=h',ch:=t.ch+1 } (r.put p) nr∧Kp [St,x,A] w w'∧(r.put p).cont=ins p r.cont∧∃ q,h'.p=some q:=by
 obtain⟨g1,g2⟩:=qO9 (p:=p) h.live.good hp;have hl:(r.put p).cont.length≤r.cont.length+1:=by rw[g2];exact qN5 _ _
 obtain⟨m,L,e1,e2⟩:=jN9 (p:=p) h.live.good hp;have hq:∃ q,h'.p=some q:=by
  have hrr:=hF.rr;rw[e1] at hrr;exact jO5 hrr e2
 obtain⟨a1,a2⟩:=h.turn (t':={ t with h:=h',ch:=t.ch+1 }) (r':=r.put p) (h.live.next hF g1 (by omega) (by omega)) rfl rfl rfl hF.kp;exact⟨a1,a2,g2,hq⟩
end
theorem xL0(N kc:Nat)(h100:100≤N)(h400:N≤400)(hk1:100≤kc)(hk9:kc≤900)(a:Int)(ha0:-9223372036854775808≤a)(ha1:a≤9223372036854775807)(w:World):
  Calls prog 9 #[.int .i64 N,.int .i64 a] w fun e w'=>∃ db St A C s l wr nw v,e=.returned (.tuple #[.pointer (some ⟨A,0,none⟩),.pointer (some ⟨db,0,none⟩),v])∧Shop w' kc db St A C N 1 s emp l wr nw∧OPA w' w.heap.size v (qB5 nw.cont)∧s.wr=0∧s.bg=2∧s.N≤10∧nw.cont.length≤43∧(⟨qG7,qN3⟩:KV)∈nw.cont∧w.heap.size≤A∧w.heap.size≤C∧w.heap.size≤St∧w.heap.size≤db∧w.heap.size≤s.M∧Kp [] w w'∧TwoHeads N l [] nw.cont:=by
 go_enter func9,ntmps9;go_wp2_with fail;refine (zZ7 N w (by omega) (N:Int) (by omega) (by omega)).mono ?_;rintro e w1 ⟨rfl,Z,hZ,hZ0,hw1⟩;rw[xL2 Z _ hZ hZ0] at hw1;have hC1:w1.heap[w.heap.size]?=some (.cells (enc (List.replicate (N*128) 0)) 87):=by rw[hw1];exact θ _ (μ _ _)
 have hA1:w1.heap[w.heap.size+1]?=some (qM7 N w.heap.size (.slice none 0 0) 0 0):=by
  rw[hw1];have e:=μ (w.alloc (.cells (enc (List.replicate (N*128) 0)) 87)) (qM7 N w.heap.size (.slice none 0 0) 0 0);simpa using e
 have hK1:Kp [] w w1:=by rw[hw1];exact ((Kp.refl _ _).alloc _).alloc _
 clear hw1 hZ hZ0 Z;have HF:Hid (Calls prog 35 #[.pointer (some ⟨w.heap.size+1,0,none⟩)] w1 fun e w'=>e=.returned .nilIface∧w'.heap[w.heap.size+1]?=some (qM7 N w.heap.size (.slice none 0 0) (0+6) (0+2))∧w'.heap[w.heap.size]?=some (.cells (enc (qO5 (List.replicate (N*128) 0) 0)) 87)∧Kp [w.heap.size+1,w.heap.size] w1 w'):=
  xY8 (w.heap.size+1) N w.heap.size 0 0 (List.replicate (N*128) 0) 0 w1 hA1 (by omega) (by omega) (by omega) (by omega) (by omega) h400 hC1 (by simp) (by omega) (Or.inl ⟨jG0 N (by omega),rfl⟩) (by omega) (by omega) (by omega)
 have HK1:=zh hK1;clear hC1 hA1 hK1;go_wp2_with fail;refine (show Calls _ _ _ _ _ from HF.out).mono ?_;rintro e w2 ⟨rfl,hA2,hC2,hK2⟩;have hfl:(qO5 (List.replicate (N*128) 0) 0).length=N*128:=by rw[xY6 _ _ (by simp;omega)];simp
 have hfm:=xY7 (List.replicate (N*128) 0) 0 (by simp;omega) (by omega) (by omega) (by omega);obtain⟨l,hl⟩:∃ l,l=qO5 (List.replicate (N*128) 0) 0:=⟨_,rfl⟩;rw[←hl] at hC2 hfl hfm;have HK2:Hid (Kp [] w w2):=HK1.out.trans hK2 (by intro i hi hlt;simp at hi;omega);have HO:Hid (Calls prog 16 #[.pointer (some ⟨w.heap.size+1,0,none⟩)] w2 fun e w'=>∃ V M St Db,e=.returned (.tuple #[.pointer (some ⟨Db,0,none⟩),.nilIface])∧w2.heap.size≤V∧w2.heap.size≤M∧w2.heap.size≤St∧w2.heap.size≤Db∧
   w'.heap[w.heap.size+1]?=some (qM7 N w.heap.size (.slice none 0 0) (0+6+3) (0+2))∧w'.heap[V]?=some (qB8 (w.heap.size+1) N)∧w'.heap[M]?=some (.map #[] 0)∧w'.heap[St]?=some (τ 0 (qJ4 V M (0+2)))∧w'.heap[Db]?=some (.cells #[.pointer (some ⟨St,0,none⟩)] 95)∧Kp [w.heap.size+1] w2 w'):=
  jL9 (w.heap.size+1) N w.heap.size (0+6) (0+2) l (0+2) w2 hA2 (by omega) (by omega) (by omega) h400 hC2 (Nat.le_of_eq hfl.symm) (by omega) hfm
 have HC2:Hid (w2.heap[w.heap.size]?=some (.cells (enc l) 87)∧l.length=N*128∧Formatted l (0+2)):=⟨hC2,hfl,hfm⟩;clear hA2 hC2 hK2 hfl hfm hl HF;go_wp2_with fail;refine (show Calls _ _ _ _ _ from HO.out).mono ?_;rintro e w3 ⟨V,M,St,db,rfl,hV3,hM3,hS3,hD3,hA3,hVo,hMo,hSo,hDo,hK3⟩;have hs2:=HK2.out.size;have hshop:Shop w3 kc db St (w.heap.size+1) w.heap.size N 0 (qJ4 V M (0+2)) emp l (0+2) .none:=jP4 hA3 hVo hMo hSo hDo (hK3.hp HC2.out.1) (by omega) h400 HC2.out.2.1 HC2.out.2.2 hk9 (by omega);have HS3:=zh hshop;have HK3:Hid (Kp [] w w3):=HK2.out.trans hK3 (by intro i hi hlt;simp at hi;omega);clear hA3 hVo hMo hSo hDo hK3 hshop HO HC2;go_wp2_with fail;refine (zF4 a 40 ha0 ha1 (by omega) (by omega) w3).mono ?_;rintro e w3' ⟨⟨k,rfl,hk0,hk40⟩,hw3⟩;rw[hw3];clear hw3 w3';obtain⟨m,hm⟩:∃ m:Nat,(m:Int)=3+k:=⟨(3+k).toNat,by omega⟩;have hwr3:wrap64 (3+k)=(m:Int):=by simp only[wrap64];omega
 have HW:Hid (Calls prog 11 #[.pointer (some ⟨db,0,none⟩),.int .i64 a,.int .i64 m] w3 fun e w'=>∃ x t r v,e=.returned (.tuple #[.pointer (some ⟨x,0,none⟩),v])∧w3.heap.size≤x∧OPA w' w3.heap.size v (qB5 r.cont)∧r.cont.length≤m∧t.ch≤(m:Int)∧Kp [St,w.heap.size+1] w3 w'∧Wrt w' kc db St (w.heap.size+1) w.heap.size N 0 (qJ4 V M (0+2)).wrote emp l (0+2) .none x t r (0+1)):=by
  have h:=zW1 HS3.out rfl (by show (0:Int)≤_;omega) a ha0 ha1 m (by omega) (fun r' hg hz=>by
   have h1:=qT9 hg;have hz':r'.cont.length≤0+m:=hz;have h3:((qJ4 V M (0+2)).bl:Int)=0:=rfl;rw[h3];omega)
  refine h.mono ?_;rintro e w' ⟨x,t,r,v,c1,c2,c3,c4,c5,_,c6,c7⟩;have c4':r.cont.length≤0+m:=c4;exact⟨x,t,r,v,c1,c2,c3,by omega,c5,c6,c7⟩
 clear hwr3;rw[hm] at HW;have HM:=zh hm;clear hm;go_wp2_with fail;refine (show Calls _ _ _ _ _ from HW.out).mono ?_;rintro e w4 ⟨x,t,r,v0,rfl,hx4,_,hr4,hc4,hK4,hW4⟩;have hm:=HM.out;have hp:qC3 ⟨qG7,qN3⟩:=⟨by decide,by decide,by decide⟩;have HP:Hid (Calls prog 28 #[.pointer (some ⟨x,0,none⟩),.string ⟨#[102,105,114,115,116]⟩,.string ⟨#[111,102,32,97,108,108]⟩] w4 fun e w'=>e=.returned .nilIface∧∃ h',FineT hW4.shop.E w4 w' x t (qJ4 V M (0+2)).wrote (r.put ⟨qG7,qN3⟩) h'):=by
  refine zN6 hW4.shop.E x _ N t _ r ⟨qG7,qN3⟩ w4 hW4.live hW4.wrt hp ?_;obtain⟨g1,g2⟩:=qO9 (p:=⟨qG7,qN3⟩) hW4.live.good hp;have h1:=qT9 g1;have h2:=qN5 ⟨qG7,qN3⟩ r.cont;rw[g2] at h1;show _≤(N:Int)-2-0;omega
 have HW4:=zh hW4;have hs3:=HK3.out.size;have HK4:Hid (Kp [] w w4):=HK3.out.trans hK4 (by intro i hi hlt;simp at hi;omega);clear hK4 HW HS3;go_wp2_with fail;refine (show Calls _ _ _ _ _ from HP.out).mono ?_;rintro e w5 ⟨rfl,h',hF⟩;obtain⟨hW5,hK5,hcn,q,hq⟩:=hW4.put hF hp (by omega) (by omega);obtain⟨t5,ht5⟩:∃ t5:Tx,t5={ t with h:=h',ch:=t.ch+1 }:=⟨_,rfl⟩;rw[←ht5] at hW5;have hq5:t5.h.p=some q:=by rw[ht5];exact hq
 obtain⟨r5,hr5⟩:∃ r5,r5=r.put ⟨qG7,qN3⟩:=⟨_,rfl⟩;rw[←hr5] at hW5 hcn;have hl5:r5.cont.length≤m+1:=by rw[hcn];have:=qN5 ⟨qG7,qN3⟩ r.cont;omega
 have hin5:(⟨qG7,qN3⟩:KV)∈r5.cont:=by rw[hcn];exact zN3 _ _
 have hpos:0<(qB5 r5.cont).length:=by rw[hcn];exact xM7 (zN3 _ _) (by kernel_rfl)
 have HALL:Hid (Calls prog 36 #[.pointer (some ⟨x,0,none⟩)] w5 fun e w'=>∃ v,e=.returned (.tuple #[v,.bool true])∧OPA w' w5.heap.size v (qB5 r5.cont)∧BadT hW5.shop.E w5 w' t5 (qJ4 V M (0+2)).wrote):=zC2 hW5.shop.E x _ N t5 _ r5 w5 hW5.live;have hs4:=HK4.out.size;have HK5:Hid (Kp [] w w5):=HK4.out.trans hK5 (by intro i hi hlt;simp at hi;omega);have HW5:=zh hW5;clear hW4 hF hK5 hcn hq ht5 hr5 HP HW4 HK4;go_wp2_with fail;refine (show Calls _ _ _ _ _ from HALL.out).mono ?_;rintro e w6 ⟨v,rfl,ho6,hb6⟩;obtain⟨hW6,hK6⟩:=HW5.out.stay hb6;have hs5:=HK5.out.size;have HK6:Hid (Kp [] w w6):=HK5.out.trans hK6 (by intro i hi hlt;simp at hi;omega);have HC:Hid (Calls prog 14 #[.pointer (some ⟨x,0,none⟩)] w6 fun e w'=>e=.returned .nilIface∧∃ s' l' nt,Shop w' kc db St (w.heap.size+1) w.heap.size N 0 s' (emp.del (qA4 t5.nr)) l' (nx (nk (nx (0+2)) r5.news)) nt∧nt.cont=r5.cont∧s'.N=(0+2)+2∧s'.bg=0+1∧s'.wr=((qJ4 V M (0+2)).wrote.left t5.nr).wr∧s'.V=V∧s'.M=M∧Kp [St,x,M,w.heap.size+1,w.heap.size] w6 w'∧TwoHeads N l' [] r5.cont):=by
  have h1:=qT9 hW6.live.good;have h2:=qT3 hW6.live.good;refine (hW6.shop.commit hW6.live hW6.st hW6.wrt (by rw[hW6.nr];omega) (by rw[hW6.nr];omega) hq5 (by omega) (by show (0+2:Int)≤_;omega) (by show _+_+0*kc+0+2≤N;omega)).mono ?_;rintro e w' ⟨c0,s',l',nt,c1,c2,c3,c4,c5,c6,c7,_,c8,c9⟩;refine⟨c0,s',l',nt,c1,c2,c3,c4,c5,c6,c7,c8,?_⟩;rcases c9.two with h|⟨_,h⟩
  ·exact h
  ·rw[←h] at hin5;cases hin5
 have HO6:Hid (OPA w6 w.heap.size v (qB5 r5.cont)):=qI7 ho6 (by omega);have HN6:Hid (∀ k∈[St,x,M,w.heap.size+1,w.heap.size],∀ c fr,w6.heap[k]?≠some (.cells c 64 fr)):=by
  show ∀ k∈[St,x,M,w.heap.size+1,w.heap.size],∀ c fr,w6.heap[k]?≠some (.cells c 64 fr);intro k hk c fr e;obtain⟨cA,hA⟩:=hW6.shop.hA;simp only[List.mem_cons,List.not_mem_nil,or_false] at hk;rcases hk with rfl|rfl|rfl|rfl|rfl
  ·rw[hW6.shop.hSt] at e;simp[τ] at e
  ·rw[hW6.live.hx] at e;simp[qA6] at e
  ·exact absurd rfl (qE6 e hW6.shop.hM)
  ·rw[hA] at e;simp[qM7,χ] at e
  ·rw[hW6.shop.dev.hC] at e;simp at e
 have HNR:=zh hW6.nr;obtain⟨ob,oc,rfl⟩:=qL0 ho6;obtain⟨sl,hsl⟩:∃ sl,sl=(qB5 r5.cont).length:=⟨_,rfl⟩;rw[←hsl] at HO6 hpos ⊢;have HSL:=zh hsl;clear ho6 hb6 hW6 hK6 HALL HW5 HK5 hsl hW5;go_wp2_with fail;refine (show Calls _ _ _ _ _ from HC.out).mono ?_;rintro e w7 ⟨rfl,s',l',nt,hS7,e1,e2,e3,e4,e5,e6,hK7,hTW⟩;rw[←e1] at hTW;have HTW:=zh hTW;clear hTW;rw[xU7] at hS7;have hs6:=HK6.out.size;have hw7:s'.wr=0:=by rw[e4];show (if t5.nr=0+1 then 0 else _)=(0:Int);rw[if_pos HNR.out]
 have HO7:Hid (OPA w7 w.heap.size (.slice ob sl oc) (qB5 nt.cont)):=by rw[e1];exact OPA.keep HO6.out hK7 HN6.out
 have HK7:Hid (Kp [] w w7):=HK6.out.trans hK7 (by intro i hi hlt;simp at hi;omega);have HNOW:Hid (Calls prog 17 #[.pointer (some ⟨db,0,none⟩)] w7 fun e w'=>∃ v,e=.returned (.tuple #[v,.bool true])∧OPA w' w7.heap.size v (qB5 nt.cont)∧Shop w' kc db St (w.heap.size+1) w.heap.size N (0+1) s'.read ((emp.put (qA4 (s'.bg+1)) (qF1 ⟨⟨#[]⟩,s'.rb,s'.rs,none⟩)).del (qA4 (s'.bg+1))) l' (nx (nk (nx (0+2)) r5.news)) nt∧Kp [St,s'.M,w.heap.size+1] w7 w'):=jG3 hS7 (by show 0<4;omega) (by omega) (by omega) (by omega);have HN7:Hid (∀ k∈[St,s'.M,w.heap.size+1],∀ c fr,w7.heap[k]?≠some (.cells c 64 fr)):=by
  show ∀ k∈[St,s'.M,w.heap.size+1],∀ c fr,w7.heap[k]?≠some (.cells c 64 fr);intro k hk c fr e;obtain⟨cA,hA⟩:=hS7.hA;simp only[List.mem_cons,List.not_mem_nil,or_false] at hk;rcases hk with rfl|rfl|rfl
  ·rw[hS7.hSt] at e;simp[τ] at e
  ·exact absurd rfl (qE6 e hS7.hM)
  ·rw[hA] at e;simp[qM7,χ] at e
 have HNT:Hid (nt.cont.length≤43∧(qB5 nt.cont).length=sl∧(⟨qG7,qN3⟩:KV)∈nt.cont):=⟨by rw[e1];omega,by rw[e1];exact HSL.out.symm,by rw[e1];exact hin5⟩;have HS':Hid (s'.N=0+2+2∧s'.bg=0+1∧s'.wr=0∧s'.M=M):=⟨e2,e3,hw7,e6⟩;clear hS7 e1 e2 e3 e4 e5 e6 hK7 HC HO6 HN6 HK6 hw7 hq5;go_wp2_with fail;refine (show Calls _ _ _ _ _ from HNOW.out).mono ?_;rintro e w8 ⟨v8,rfl,ho8,hS8,hK8⟩;rw[xJ8] at hS8;have hs7:=HK7.out.size;have HO8:Hid (OPA w8 w.heap.size (.slice ob sl oc) (qB5 nt.cont)):=OPA.keep HO7.out hK8 HN7.out;have HK8:Hid (Kp [] w w8):=HK7.out.trans hK8 (by intro i hi hlt;have:=HS'.out.2.2.2;simp at hi;omega);have hal:(qB5 nt.cont).length≤1000000:=by
  have h1:=HNT.out.1;have h2:(qB5 nt.cont).length≤nt.cont.length:=by
   unfold qB5 qG1;rw[List.length_take];have:=List.length_filter_le (inR ⟨#[]⟩ qS2) nt.cont;omega
  omega
 have HSAME:Hid (Calls prog 18 #[.slice ob sl oc,v8] w8 fun e w'=>e=.returned (.bool true)∧Kp [] w8 w'):=jG4 _ _ _ _ (qB5 nt.cont) w8 HO8.out ho8 hal;have HS8:=zh hS8;obtain⟨ob8,oc8,rfl⟩:=qL0 ho8;rw[HNT.out.2.1] at HSAME ⊢;clear ho8 hS8 hK8 HNOW HO7 HN7 HK7;go_wp2_with fail;refine (show Calls _ _ _ _ _ from HSAME.out).mono ?_;rintro e w9 ⟨rfl,hK9⟩;have HE:Hid (Shop w9 kc db St (w.heap.size+1) w.heap.size N 1 s'.read emp l' (nx (nk (nx (0+2)) r5.news)) nt∧OPA w9 w.heap.size (.slice ob sl oc) (qB5 nt.cont)∧Kp [] w w9):=by
  have e2:=HS8.out;exact⟨e2.turn hK9 (by simp) (qD4 e2.dev hK9 (by intro k hk;cases hk)) ⟨rfl,rfl,rfl,rfl,rfl,rfl⟩ (hK9.hp e2.hSt) (e2.hM.kp hK9 (by simp)) e2.m4 e2.n1 e2.bg0 e2.kb e2.rd,OPA.keep HO8.out hK9 (by simp),HK8.out.tr hK9⟩
 have hsl0:¬(sl:Int)=0:=by omega
 clear hK9 HSAME HO8 HK8 HS8;go_wp2
 go_ret3
 obtain⟨f1,f2,f3⟩:=HE.out;obtain⟨g1,g2,g3,g4⟩:=HS'.out;exact⟨db,St,w.heap.size+1,w.heap.size,s'.read,l',_,nt,_,rfl,f1,f2,g3,by show s'.bg+1=2;omega,by show s'.N≤10;omega,HNT.out.1,HNT.out.2.2,by omega,by omega,by omega,by omega,by show w.heap.size≤s'.M;rw[g4];omega,f3,HTW.out⟩
variable {κ:Nat}
section
variable {w:World} {kc db St A C N nM:Nat} {s:Sto} {D:DataW Unit} {l:List UInt8} {wr:Int} {nw:Root}
theorem Shop.nopair(hS:Shop w kc db St A C N nM s D l wr nw):∀ k∈[St,s.M,A,C],∀ c fr,w.heap[k]?≠some (.cells c 64 fr):=by
 intro k hk c fr e;obtain⟨cA,hA⟩:=hS.hA;simp only[List.mem_cons,List.not_mem_nil,or_false] at hk;rcases hk with rfl|rfl|rfl|rfl
 ·rw[hS.hSt] at e;simp[τ] at e
 ·exact absurd rfl (qE6 e hS.hM)
 ·rw[hA] at e;simp[χ] at e
 ·rw[hS.dev.hC] at e;simp at e
end
theorem qV5(x:List UInt8)(a b:Nat)(h:a+b≤24):(x.drop a).take b=((x.take 24).drop a).take b:=by rw[List.drop_take,List.take_take,Nat.min_eq_left (by omega)]
theorem xG6(N rb rs:Int):(toB (qE5 N rb rs)).take 24=toB (qH6 N rb rs):=by
 have h:(toB (qH6 N rb rs)).length=24:=by rw[qI5,zL5]
 rw[qE5,qH4,List.take_append_of_le_length (by omega),List.take_of_length_le (by omega)]
theorem xG5(N rb rs:Int):(toB (qE5 N rb rs)).drop 24=toB (qB0 8 (fnv (qH6 N rb rs))):=by
 have h:(toB (qH6 N rb rs)).length=24:=by rw[qI5,zL5]
 rw[qE5,qH4,List.drop_append_of_le_length (by omega),List.drop_of_length_le (by omega),List.nil_append]
theorem xG3(N rb rs:Int):∀ x∈qH6 N rb rs,0≤x∧x<256:=fun x hx=>xG4 N rb rs x (by rw[qE5];exact List.mem_append_left _ hx)
theorem xI7{l l':List UInt8}{i:Nat}{N rb rs N' rb' rs':Int}(h:ι l i=qC0 N rb rs)(ho:HeadOk i N rb rs)(h1:One (ι l i) (ι l' i))(hv:qJ0 l' i N' rb' rs'):N'=N∧rb'=rb∧rs'=rs:=by
 obtain⟨v1,v2,v3,v4,v5⟩:=hv;have e32:(ι l i).take 32=toB (qE5 N rb rs):=by rw[h,xK8]
 have a24:(ι l i).take 24=toB (qH6 N rb rs):=by rw[←xG6,←e32,List.take_take];rfl
 have b24:(ι l' i).take 24=toB (qH6 N' rb' rs'):=by rw[←xG6,v5,List.take_take];rfl
 have key:(ι l i).take 24=(ι l' i).take 24:=by
  rcases (h1.take 32).cut 24 with e|e
  ·rw[List.take_take,List.take_take] at e;exact e
  ·rw[e32,←v5,xG5,xG5] at e;have e2:=qT5 (qJ1 8 _) (qJ1 8 _) e;have e3:=congrArg qE4 e2;have p8:(256:Int) ^ 8=18446744073709551616:=by decide
   rw[qL4 8 _ (by decide) (qQ5 _) (by rw[p8];exact qX2 _),qL4 8 _ (by decide) (qQ5 _) (by rw[p8];exact qX2 _)] at e3;refine (h1.take 24).sum ?_;rw[a24,b24,qK2 _ (xG3 _ _ _),qK2 _ (xG3 _ _ _)];exact e3
 refine⟨?_,?_,?_⟩
 ·rw[←v1,qV5 _ 8 8 (by decide),←key,←qV5 _ 8 8 (by decide),h,xK6 N rb rs ho.n0 ho.n1]
 ·rw[←v2,qV5 _ 6 2 (by decide),←key,←qV5 _ 6 2 (by decide),h,xK5 N rb rs ho.b0 ho.b1]
 ·rw[←v3,qV5 _ 16 8 (by decide),←key,←qV5 _ 16 8 (by decide),h,xK7 N rb rs ho.s0 ho.s1]
theorem zC9{N:Nat}{l:List UInt8}:∀ {n b:Nat} {s:Int} {t:Tn n},Laid N l n b s t→s=fnv (qD2 (ι l b))
 | 0,b,s,t,h=>by
  obtain⟨_,_,h3,h4,h5,h6,h7⟩:=h;rw[h4,qK2 _ (qH0 0 _ [] (by omega) (by omega) (by simp;omega) h5 (by simp))];exact h3
 | n+1,b,s,t,h=>by
  obtain⟨_,_,h3,hs,h4,h5,h6,h7,h8,h9⟩:=h;rw[h6,qK2 _ (qH0 _ [] hs (by omega) (by omega) (by simp;omega) (by simp) h7)];exact h5
theorem zW2{N:Nat}{l l':List UInt8}(hN:N≤1000)(h1:∀ k,k<N→One (ι l k) (ι l' k)):∀ (n b n0:Nat) (s:Int) (t:Tn n) (t0:Tn n0),Laid N l n0 b s t0→Laid N l' n b s t→Laid N l n b s t
 | 0,b,n0,s,t,t0,h0,h=>by
  have e:ι l b=ι l' b:=(h1 b h.at.2.1).sum (by rw[←zC9 h0,←zC9 h]);obtain⟨g1,g2,g3,g4,g5⟩:=h;exact⟨g1,g2,g3,by rw[e];exact g4,g5⟩
 | n+1,b,n0,s,t,t0,h0,h=>by
  have e:ι l b=ι l' b:=(h1 b h.at.2.1).sum (by rw[←zC9 h0,←zC9 h]);obtain⟨g1,g2,g3,hs,g4,g5,g6,g7,g8,g9⟩:=h;obtain⟨ps0,hs0,f1,f2⟩:=zI3 hN h0;have eb:=qT5 f2 (qH0 ((n+1:Nat):Int) [] hs (by omega) (by omega) (by simp;omega) (by simp) g7) (by rw[←f1,e,g6]);obtain⟨elv,_⟩:=qV0 eb;obtain rfl:n0=n+1:=by omega
  obtain⟨k1,k2,k3,hs',k4,k5,k6,k7,k8,k9⟩:=h0;have eb2:=qT5 (qH0 ((n+1:Nat):Int) [] hs' (by omega) (by omega) (by simp;omega) (by simp) k7) (qH0 ((n+1:Nat):Int) [] hs (by omega) (by omega) (by simp;omega) (by simp) g7) (by rw[←k6,e,g6]);obtain⟨_,hl,r,r',e2⟩:=qV0 eb2;simp only[List.flatMap_nil,List.nil_append] at e2;have ehs:=zJ5 hs' hs _ _ (fun p hp=>Laid.links k4 k7 hN p hp) (fun p hp=>Laid.links g4 g7 hN p hp) (by simpa using hl) e2;subst ehs;refine⟨g1,g2,g3,hs',⟨g4.1,fun i a1 a2=>?_⟩,g5,by rw[e];exact g6,g7,g8,g9⟩;have r1:=g4.2 i a1 a2;have a3:i<(η t0).length:=by rw[←k4.1];exact a1
  have r2:=k4.2 i a1 a3;obtain⟨q1,m1⟩:=r1;obtain⟨q2,m2⟩:=r2;refine⟨q1,?_⟩
  cases x1:(η t)[i].ref with
  | none=>rw[x1] at m1;obtain⟨_,_,q,_,hf⟩:=m1;exact hf.elim
  | some y1=>
   cases x2:(η t0)[i].ref with
   | none=>rw[x2] at m2;obtain⟨_,_,q,_,hf⟩:=m2;exact hf.elim
   | some y2=>
    rw[x1] at m1;rw[x2] at m2;obtain⟨b1,s1,p1,L1⟩:=m1;obtain⟨b2,s2,_,L2⟩:=m2;have eb:y1.1=y2.1:=by omega
    have es:y1.2=y2.2:=by rw[←s1,s2]
    rw[←eb,←es] at L2;exact⟨b1,s1,p1,zW2 hN h1 n y1.1 n y1.2 _ _ L2 L1⟩
theorem zY5{N:Nat}{l l':List UInt8}{rb rs:Int}{r r0:Root}(hN:N≤1000)(h1:∀ k,k<N→One (ι l k) (ι l' k))(h0:Lie N l rb rs r0)(h:Lie N l' rb rs r):r.cont=r0.cont:=by
 cases r with
 | none=>
  obtain⟨rfl,rfl⟩:=h
  cases r0 with
  | none=>rfl
  | «at» n L=>
   obtain⟨b,e,_,h3⟩:=h0;have:=h3.at;omega
 | «at» n L=>
  obtain⟨b,e,h2,h3⟩:=h
  cases r0 with
  | none=>
   obtain⟨rfl,rfl⟩:=h0;have:=h3.at;omega
  | «at» n0 L0=>
   obtain⟨b0,e0,h20,h30⟩:=h0;obtain rfl:b=b0:=by omega
   have h4:=zW2 hN h1 n b n0 rs L.sub L0.sub h30 h3;obtain rfl:n=n0:=qU6 hN h4 h30;have h5:=(zC8 hN n b rs rs L.sub L0.sub h4 h30).2;show cont n L.sub=cont n L0.sub;rw[h5]
theorem xT6(St:Nat)(s:Sto)(h:HL)(w:World)(hSt:w.heap[St]?=some (τ 1 s))
  (heq:∀ W:World,Sem.run prog (Op.equalIn 10000 83 (φ s.V h) (φ s.V ⟨⟨#[]⟩,s.rb,s.rs,none⟩)) W=.ok true W):
  Calls prog 41 #[.pointer (some ⟨St,0,none⟩),φ s.V h] w fun e w'=>e=.returned (.tuple #[])∧Kp [] w w':=by
 have HS:=zh hSt;clear hSt;rw[φ,show φ s.V ⟨⟨#[]⟩,s.rb,s.rs,none⟩=.agg #[.pointer (some ⟨s.V,0,none⟩),.string ⟨#[]⟩,.int .i64 s.rb,.int .u64 s.rs,.pointer none] from rfl] at heq;rw[φ];go_enter func41,ntmps41;go_wp2_with fail;obtain⟨w0,hw0,hT0,hK0,hs0'⟩:=qE8 w (.cells #[.pointer (some ⟨s.V,0,none⟩),.string h.key,.int .i64 h.b,.int .u64 h.s,.pointer h.ptr] 83);rw[←hw0];clear hw0;refine (qY2 St 1 s w0 (hK0.hp HS.out)).mono ?_;rintro e w1 ⟨rfl,hK1⟩;rw[show φ s.V ⟨⟨#[]⟩,s.rb,s.rs,none⟩=.agg #[.pointer (some ⟨s.V,0,none⟩),.string ⟨#[]⟩,.int .i64 s.rb,.int .u64 s.rs,.pointer none] from rfl];have hT1:=hK1.hp hT0;have hT1s:=ζ hT1;have t:=ξ hT1;have HK1:Hid (Kp [] w w1):=hK0.tr hK1;clear hK0 hK1 hT0 hT1;go_wp2;refine bodyPost_ret (results_none results41 _ _ _) rfl ?_;exact⟨rfl,HK1.out.alloc _⟩
section
variable {w:World} {kc db St A C N nM:Nat} {s:Sto} {D:DataW Unit} {l:List UInt8} {wr:Int} {nw:Root}
theorem LiveT.lie{E':SEnv}{x:Nat}{t:Tx}{r:Root}{hN:N≤1000}{hs:N*128≤l.length}{hAC:C≠A}{hVA:s.V≠A}(hL:LiveT (EL s.V A N C l wr hN hs hAC hVA) w x A N t s r)(hp:t.h.p=none):Lie N l t.h.b t.h.s r:=by
 have hr:=hL.rr
 cases r with
 | none=>rw[show t.h=_ from hr];exact⟨rfl,rfl⟩
 | «at» n L=>
  have h2:=hr.2
  cases hx:L.ref with
  | none=>
   rw[hx] at h2;obtain⟨_,_,q,e,_⟩:=h2;rw[hp] at e;cases e
  | some x=>
   rw[hx] at h2;obtain⟨e1,e2,_,e4⟩:=h2;refine⟨x.1,e1,?_,?_⟩
   ·rw[hx,e2]
   ·rw[e2];exact e4
theorem Shop.commits(hS:Shop w kc db St A C N nM s D l wr nw){x:Nat}{t:Tx}{r:Root}(hL:LiveT hS.E w x A N t s r)(hst:t.St=St)(hwr:t.wrt=true)(h0:0≤t.nr)(h1:t.nr≤1000000000)(hrk:r.cont.length≤kc)(hN9:s.N≤999999999)
  (hfit:qB9 r+r.news+Maps.size D*kc+qB9 nw+2≤N):
  Calls prog 14 #[.pointer (some ⟨x,0,none⟩)] w fun e w'=>e=.returned .nilIface∧∃ s' l' wr' nt,Shop w' kc db St A C N nM s' (D.del (qA4 t.nr)) l' wr' nt∧nt.cont=r.cont∧s'.N≤s.N+2∧s'.bg=s.bg∧s'.wr=(s.left t.nr).wr∧s'.V=s.V∧s'.M=s.M∧w'.heap[x]?=some (qA6 t.ended)∧Kp [St,x,s.M,A,C] w w'∧Thn N (D.del (qA4 t.nr)) l l' nw r:=by
 have htd:=hS.hM.tidy qM9;have hsd:=Maps.size_del (k:=qA4 t.nr) htd;have hle:Maps.size (D.del (qA4 t.nr))≤Maps.size D:=by omega
 have hdl:∀ k,Maps.has (D.del (qA4 t.nr)) k=true→Maps.has D k=true∧∀ zd,(D.del (qA4 t.nr)).atKey k zd=D.atKey k zd:=fun k hk=>by
  by_cases e:k=qA4 t.nr
  ·rw[e,Maps.has_del_same] at hk;cases hk
  ·rw[Maps.has_del_other e] at hk;exact⟨hk,fun zd=>Maps.atKey_del_other e zd⟩
 have hgo:(∀ W:World,Sem.run prog (Op.equalIn 10000 83 (φ s.V t.h) (φ s.V ⟨⟨#[]⟩,s.rb,s.rs,none⟩)) W=.ok false W)→Calls prog 14 #[.pointer (some ⟨x,0,none⟩)] w fun e w'=>e=.returned .nilIface∧∃ s' l' wr' nt,Shop w' kc db St A C N nM s' (D.del (qA4 t.nr)) l' wr' nt∧nt.cont=r.cont∧s'.N≤s.N+2∧s'.bg=s.bg∧s'.wr=(s.left t.nr).wr∧s'.V=s.V∧s'.M=s.M∧w'.heap[x]?=some (qA6 t.ended)∧Kp [St,x,s.M,A,C] w w'∧Thn N (D.del (qA4 t.nr)) l l' nw r:=fun heq=>by
  refine (xG8 hS x t r hL hst hwr h0 h1 heq hrk hN9 hdl (by have:=hS.m4;omega) (by have:=Nat.mul_le_mul_right kc hle;omega)).mono ?_;rintro e w' ⟨e0,s',l',nt,c1,c2,c3,c4⟩;exact⟨e0,s',l',_,nt,c1,c2,by omega,c4⟩
 cases hp:t.h.p with
 | some q=>exact hgo (fun W=>xI1 s.V q t.h s.rb s.rs hp hL.key W)
 | none=>
  by_cases he:t.h.b=s.rb∧t.h.s=s.rs
  ·have heq:∀ W:World,Sem.run prog (Op.equalIn 10000 83 (φ s.V t.h) (φ s.V ⟨⟨#[]⟩,s.rb,s.rs,none⟩)) W=.ok true W:=fun W=>by rw[xI2 s.V t.h s.rb s.rs hp hL.key W];simp[he]
   have hlie:Lie N l s.rb s.rs r:=by
    have h:=LiveT.lie (E':=hS.E) hL hp;rw[he.1,he.2] at h;exact h
   subst hst;obtain⟨cA,hA⟩:=hS.hA;have hMS:s.M≠t.St:=(qE6 hS.hSt hS.hM).symm;have hxM:x≠s.M:=qE6 hL.hx hS.hM;have hoff:OffD w [t.St,x,s.M]:=(OffD.one hL.hSt (by decide)).cons ((OffD.one hL.hx (by decide)).cons (fun k hk c ty fr e=>by rw[List.mem_singleton.1 hk] at e;exact absurd rfl (qE6 e hS.hM)));obtain⟨n1,n2,n3,n4⟩:=hS.neDb;refine (xH6 x nM s.V t s D [] (fun W w1=>Kp [] W w1) w hL.hx hL.over hS.hSt hS.po hS.hM h0 h1 hMS hL.xS hxM hS.hM.lt hL.on hwr (by simp) ?_).mono ?_
   ·intro W hK hx' hS' hM';refine (xT6 t.St (s.left t.nr) t.h W hS' heq).mono ?_;rintro e w1 ⟨rfl,hK1⟩;exact⟨rfl,⟨_,hK1.hp hS'⟩,hK1,hK1.mono (by simp)⟩
   ·rintro e w' ⟨rfl,hKw,W,w1,B,s',hK,hx',hS',hM',hR,_,hs1,hs2,hB0,hB1,hKB⟩;have hse:s'=s.left t.nr:=by
     rw[hR.hp hS'] at hs1;exact (xH2 (Option.some.inj hs1)).symm
    rw[hse] at hs2 hs1;have hxs:=ζ hL.hx;have hMs:=hS.hM.lt;refine⟨rfl,s.left t.nr,l,wr,nw,?_,(Lie.one hS.N1 hS.lie hlie).1,by show s.N≤s.N+2;omega,rfl,rfl,rfl,rfl,hKB.heap (hR.hp hx') (by simp[hL.xS];omega),hKw.mono (by intro i hi _;simp at hi ⊢;omega),⟨fun _ _ _ _ _ _ h=>h,.inr ⟨rfl,(Lie.one hS.N1 hS.lie hlie).1⟩⟩⟩;refine hS.turn hKw (by simp[n1,n4];exact qB7 hS.hDb hL.hx (by decide)) (qD4 (qD4 (qD4 hS.dev hK hoff) hR (by intro k hk;cases hk)) hKB (qT8 hs1 hB1)) ⟨rfl,rfl,rfl,rfl,rfl,rfl⟩ hs2 ((hM'.kp hR (by simp)).kp hKB (by simp[hMS];omega)) (by have:=hS.m4;omega) hS.n1 hS.bg0 (fun k hk=>hS.kb k (hdl k hk).1) (fun y h g1 g2 g3=>?_);obtain⟨f1,f2⟩:=hdl _ g1;exact hS.rd y h f1 (fun zd=>(f2 zd).symm.trans (g2 zd)) g3
  ·exact hgo (fun W=>by rw[xI2 s.V t.h s.rb s.rs hp hL.key W];simp[he])
end
theorem zW0(ba bb:Nat)(va vb:Value)(ps qs:List KV)(w:World)(ha:OPA w ba va ps)(hb:OPA w bb vb qs)(hn:ps.length≤1000000):
  Calls prog 18 #[va,vb] w fun e w'=>e=.returned (.bool (decide (ps=qs)))∧Kp [] w w':=by
 have sa:=qG3 ha;have sb:=qG3 hb;obtain⟨abs,acp,rfl⟩:=qL0 ha;obtain⟨bbs,bcp,rfl⟩:=qL0 hb;by_cases hll:ps.length=qs.length
 ·obtain⟨ln,hln⟩:∃ ln,ln=ps.length:=⟨_,rfl⟩;have HA:Hid (Slc w 64 2 (.slice abs ln acp) ps.length (qA9 ps)):=by rw[hln];exact sa
  have HB:Hid (Slc w 64 2 (.slice bbs ln bcp) qs.length (qA9 qs)):=by rw[hln,hll];exact sb
  have HLN:Hid (ln=ps.length∧ln=qs.length):=⟨hln,hln.trans hll⟩;rw[←hll,←hln];rw[←hln] at hn;clear ha hb sa sb hln hll;go_enter func18,ntmps18;go_wp2_with fail
  go_loopw [5] (fun i wr=>∃ (j:Nat),j≤ln∧i=.int .i64 j∧Hid (ps.take j=qs.take j)∧Hid (Kp [] w wr)) (fun i _=>ln-(intOf i).toNat)
  case atStart=>exact⟨0,Nat.zero_le _,rfl,rfl,Kp.refl _ _⟩
  case round=>
   obtain⟨j,hj,rfl,HT,HK⟩:=hrel;by_cases hlt:j<ln
   ·have hjb:(j:Int)<(ln:Int):=by omega
    have hjp:j<ps.length:=by have:=HLN.out;omega
    have hjq:j<qs.length:=by have:=HLN.out;omega
    obtain⟨ga,oa,ca,cua,fra,e1,e2,e3,e4⟩:=(HA.out.keep0 HK.out).pairT (by omega);obtain⟨gb,ob,cb,cub,frb,f1,f2,f3,f4⟩:=(HB.out.keep0 HK.out).pairT (by omega);simp only[Value.slice.injEq] at e1 f1;obtain⟨rfl,_,rfl⟩:=e1;obtain⟨rfl,_,rfl⟩:=f1;have a0:=ξ e3 (oa+j*2);rw[(e4 j hjp).1] at a0;have a1:=ξ e3 (oa+j*2+1);rw[(e4 j hjp).2] at a1;have b0:=ξ f3 (ob+j*2);rw[(f4 j hjq).1] at b0;have b1:=ξ f3 (ob+j*2+1);rw[(f4 j hjq).2] at b1;have hga:=ζ e3;have hgb:=ζ f3;have HNX:Hid (ps[j]=qs[j]→ps.take (j+1)=qs.take (j+1)):=fun h=>by rw[List.take_succ_eq_append_getElem hjp,List.take_succ_eq_append_getElem hjq,HT.out,h]
    have HNE:Hid (ps[j]≠qs[j]→ps≠qs):=fun h e=>h (by subst e;rfl);generalize ps[j]=x at a0 a1 HNX HNE;generalize qs[j]=y at b0 b1 HNX HNE;clear e3 f3 e4 f4;by_cases hxy:x=y
    ·subst hxy;have HT2:=Hid.mk' (HNX.out rfl);clear HNX HNE;go_wp2_with fail
     go_quiet (fail)
     go_wp2;exact⟨⟨j+1,by omega,by go_num,HT2,HK.out.trans ((Kp.refl [] _).drewN _) (by simp)⟩,by simp[intOf];omega⟩
    ·have HF:Hid (decide (ps=qs)=false):=decide_eq_false (HNE.out hxy);have hkv:(x.k.toList == y.k.toList)=false∨((x.k.toList == y.k.toList)=true∧(x.v.toList == y.v.toList)=false):=by
      by_cases e:x.k=y.k
      ·refine .inr ⟨by rw[qS3];simpa using e,?_⟩;rw[qS3];have:x.v≠y.v:=fun e2=>hxy (by cases x;cases y;simp only at e e2;rw[e,e2]);simpa using this
      ·exact .inl (by rw[qS3];simpa using e)
     clear HNX HNE hxy;rcases hkv with h1|⟨h1,h2⟩
     all_goals
      go_wp2_with fail
      go_quiet (fail)
      go_wp2;go_ret;exact⟨by rw[HF.out];rfl,HK.out.trans ((Kp.refl [] _).drewN _) (by simp)⟩
   ·have hjb:¬(j:Int)<(ln:Int):=by omega
    have HF:Hid (decide (ps=qs)=true):=by
     refine decide_eq_true ?_;have h:=HT.out;rw[List.take_of_length_le (by have:=HLN.out;omega),List.take_of_length_le (by have:=HLN.out;omega)] at h;exact h
    go_wp2;go_ret;exact⟨by rw[HF.out];rfl,HK.out⟩
 ·have hf:decide (ps=qs)=false:=decide_eq_false (fun e=>hll (by rw[e]));have HF:=zh hf;obtain⟨l1,hl1⟩:∃ l1,l1=ps.length:=⟨_,rfl⟩;obtain⟨l2,hl2⟩:∃ l2,l2=qs.length:=⟨_,rfl⟩;rw[←hl1,←hl2] at hll;rw[←hl1,←hl2];have hne:¬(l1:Int)=(l2:Int):=by omega
  clear ha hb sa sb hl1 hl2 hll hf;go_enter func18,ntmps18;go_wp2;go_ret;exact⟨by rw[HF.out];rfl,Kp.refl _ _⟩
theorem zP0(ps:List KV):(qB5 ps).length≤ps.length:=by
 unfold qB5 qG1;rw[List.length_take];have:=List.length_filter_le (inR ⟨#[]⟩ qS2) ps;omega
theorem zU3{N:Nat}{l l':List UInt8}{a b:List KV}(h:TwoHeads N l a b)(hN:N≤1000)(h2:2≤N)(h1:∀ k,k<N→One (ι l k) (ι l' k)){M rb rs:Int}{r:Root}(hv:qJ0 l' 0 M rb rs∨qJ0 l' 1 M rb rs)(hl:Lie N l' rb rs r):r.cont=a∨r.cont=b:=by
 obtain⟨N0,rb0,rs0,N1,rb1,rs1,r0,r1,e0,e1,o0,o1,l0,g0,l1,g1,hc⟩:=h;rcases hv with hv|hv
 ·obtain⟨_,e2,e3⟩:=xI7 e0 o0 (h1 0 (by omega)) hv;rw[e2,e3] at hl;have e:=zY5 hN h1 l0 hl;rcases hc with⟨c1,c2⟩|⟨c1,c2⟩
  ·exact .inl (e.trans c1)
  ·exact .inr (e.trans c1)
 ·obtain⟨_,e2,e3⟩:=xI7 e1 o1 (h1 1 (by omega)) hv;rw[e2,e3] at hl;have e:=zY5 hN h1 l1 hl;rcases hc with⟨c1,c2⟩|⟨c1,c2⟩
  ·exact .inr (e.trans c2)
  ·exact .inl (e.trans c2)
theorem xX4(a b bit:Int)(ha0:-9223372036854775808≤a)(ha1:a≤9223372036854775807)(hb0:-9223372036854775808≤b)(hb1:b≤9223372036854775807)(hc0:-9223372036854775808≤bit)(hc1:bit≤9223372036854775807)(w:World)(h0s:0<w.heap.size)(hg:w.cell? ⟨0,0,none⟩=some qL8):
  Calls prog 7 #[.int .i64 a,.int .i64 b,.int .i64 bit] w fun e w'=>e=.returned (.bool true)∧Kp [] w w':=by
 have HG:Hid (0<w.heap.size∧w.cell? ⟨0,0,none⟩=some qL8):=⟨h0s,hg⟩;have HBT:Hid (-9223372036854775808≤bit∧bit≤9223372036854775807):=⟨hc0,hc1⟩;have HB:Hid (Calls prog 9 #[.int .i64 100,.int .i64 a] w fun e w'=>∃ db St A C s l wr nw v,e=.returned (.tuple #[.pointer (some ⟨A,0,none⟩),.pointer (some ⟨db,0,none⟩),v])∧Shop w' 300 db St A C 100 1 s emp l wr nw∧OPA w' w.heap.size v (qB5 nw.cont)∧s.wr=0∧s.bg=2∧s.N≤10∧nw.cont.length≤43∧(⟨qG7,qN3⟩:KV)∈nw.cont∧w.heap.size≤A∧w.heap.size≤C∧w.heap.size≤St∧w.heap.size≤db∧w.heap.size≤s.M∧Kp [] w w'∧TwoHeads 100 l [] nw.cont):=xL0 100 300 (by omega) (by omega) (by omega) (by omega) a ha0 ha1 w;clear h0s hg hc0 hc1;go_enter func7,ntmps7;go_wp2_with fail;refine (show Calls _ _ _ _ _ from HB.out).mono ?_;rintro e w1 ⟨db,St,A,C,s,l,wr,nw,v,rfl,hS1,ho1,hwr,hbg,hsN,hnw,_,gA,gC,gSt,gdb,gM,hK1,hTW⟩;have HS1:=zh hS1;obtain⟨ob,oc,rfl⟩:=qL0 ho1;obtain⟨sl,hsl⟩:∃ sl,sl=(qB5 nw.cont).length:=⟨_,rfl⟩;rw[←hsl] at ho1 ⊢;have HL:=zh hsl;have HO1:=zh ho1;have HK1:=zh hK1;have HTW:=zh hTW;clear hS1 ho1 hK1 HB hsl hTW;go_wp2_with fail;refine (zF4 b 20 hb0 hb1 (by omega) (by omega) w1).mono ?_;rintro e w1' ⟨⟨k,rfl,hk0,hk40⟩,hw⟩;rw[hw];clear hw w1';obtain⟨m,hm⟩:∃ m:Nat,(m:Int)=1+k:=⟨(1+k).toNat,by omega⟩;have HW:Hid (Calls prog 11 #[.pointer (some ⟨db,0,none⟩),.int .i64 b,.int .i64 (1+k)] w1 fun e w'=>∃ x t r v,e=.returned (.tuple #[.pointer (some ⟨x,0,none⟩),v])∧w1.heap.size≤x∧OPA w' w1.heap.size v (qB5 r.cont)∧r.cont.length≤63∧Kp [St,A] w1 w'∧Wrt w' 300 db St A C 100 1 s.wrote emp l wr nw x t r (s.bg+1)):=by
  rw[←hm];refine (zW1 HS1.out hwr (by omega) b hb0 hb1 m (by omega) (fun r' hg hz=>?_)).mono ?_
  ·have h1:=qT9 hg;have h2:=HS1.out.bl1;omega
  ·rintro e w' ⟨x,t,r,v,e1,e0,e2,e5,_,_,e3,e4⟩;exact⟨x,t,r,v,e1,e0,e2,by omega,e3,e4⟩
 clear hm;go_wp2_with fail;refine (show Calls _ _ _ _ _ from HW.out).mono ?_;rintro e w2 ⟨x,t,r,v2,rfl,hx2,ho2,hr2,hK2,hW2⟩;have hs1:=HK1.out.size;have HO2:Hid (OPA w2 w.heap.size (.slice ob sl oc) (qB5 nw.cont)):=OPA.keep HO1.out hK2 (fun k hk=>HS1.out.nopair k (by simp at hk ⊢;rcases hk with h | h<;>simp[h]));have HK2:Hid (Kp [] w w2):=HK1.out.trans hK2 (by intro i hi hlt;simp at hi;omega);have HP2:Hid (OPA w2 w.heap.size v2 (qB5 r.cont)):=qI7 ho2 (by omega);obtain⟨pb,pc,rfl⟩:=qL0 ho2;obtain⟨pl,hpl⟩:∃ pl,pl=(qB5 r.cont).length:=⟨_,rfl⟩;rw[←hpl] at HP2 ⊢;have HPL:=zh hpl;have HC:Hid (Calls prog 14 #[.pointer (some ⟨x,0,none⟩)] w2 fun e w'=>e=.returned .nilIface∧∃ l' wr' c,w'.heap[A]?=some (χ (l'.length / 128) 100 C (.slice none 0 0) c wr')∧w'.heap[C]?=some (.cells (enc l') 87)∧100*128≤l'.length∧(TwoHeads 100 l' [] nw.cont∨TwoHeads 100 l' nw.cont r.cont)∧Kp [St,x,s.M,A,C] w2 w'):=by
  have h1:=qT9 hW2.live.good;have h2:=qT3 hW2.live.good;have h3:=qT3 hW2.shop.good;have h4:Maps.size emp=0:=by simp[emp,Maps.size]
  refine (hW2.shop.commits hW2.live hW2.st hW2.wrt (by rw[hW2.nr];omega) (by rw[hW2.nr];omega) (by omega) (by show s.N≤_;omega) (by rw[h4];omega)).mono ?_;rintro e w' ⟨c0,s',l',wr',nt,c1,c2,c3,c4,c5,c6,c7,c8,c9,c10⟩;obtain⟨c,hA⟩:=c1.hA;refine⟨c0,l',wr',c,hA,c1.dev.hC,c1.len,?_,c9⟩;rcases c10.two with h|⟨h,_⟩
  ·exact .inr h
  ·rw[h];exact .inl HTW.out
 have HN2:Hid (∀ k∈[St,x,s.M,A,C],∀ c fr,w2.heap[k]?≠some (.cells c 64 fr)):=by
  show ∀ k∈[St,x,s.M,A,C],∀ c fr,w2.heap[k]?≠some (.cells c 64 fr);intro k hk c fr e;have hnp:=hW2.shop.nopair;simp only[List.mem_cons,List.not_mem_nil,or_false] at hk;rcases hk with rfl|rfl|rfl|rfl|rfl
  ·exact hnp _ (by simp) c fr e
  ·rw[hW2.live.hx] at e;simp[qA6] at e
  ·exact hnp s.M (by simp[Sto.wrote]) c fr e
  ·exact hnp _ (by simp) c fr e
  ·exact hnp _ (by simp) c fr e
 have HX2:=zh hx2;clear hK2 hW2 HW HO1 ho2 hpl hx2;go_wp2_with fail;refine (show Calls _ _ _ _ _ from HC.out).mono ?_;rintro e w3 ⟨rfl,l',wr',c3,hA3,hC3,hl3,hT3,hK3⟩;have hs2:=HK2.out.size;have HO3:Hid (OPA w3 w.heap.size (.slice ob sl oc) (qB5 nw.cont)):=OPA.keep HO2.out hK3 HN2.out;have HP3:Hid (OPA w3 w.heap.size (.slice pb pl pc) (qB5 r.cont)):=OPA.keep HP2.out hK3 HN2.out;have HK3:Hid (Kp [] w w3):=HK2.out.trans hK3 (by intro i hi hlt;have:=HX2.out;simp at hi;omega);have HT3:=zh hT3;have HTU:Hid (Calls prog 31 #[.pointer (some ⟨A,0,none⟩),.int .i64 bit] w3 fun e w'=>∃ A' C' l2,e=.returned (.pointer (some ⟨A',0,none⟩))∧w3.heap.size≤A'∧w3.heap.size≤C'∧C'≠A'∧w'.heap[A']?=some (χ (l2.length / 128) 100 C' (.slice none 0 0) 0 0)∧w'.heap[C']?=some (.cells (enc l2) 87)∧100*128≤l2.length∧(∀ k,k<100→One (ι l' k) (ι l2 k))∧Kp [] w3 w'):=jR7 A 100 C c3 wr' bit l' w3 hA3 (by omega) (by omega) hC3 hl3 HBT.out.1 HBT.out.2;clear hK3 hA3 hC3 hl3 hT3 HC HO2 HP2 HN2 HK2 HS1 HTW;go_wp2_with fail;refine (show Calls _ _ _ _ _ from HTU.out).mono ?_;rintro e w4 ⟨A4,C4,l2,rfl,gA4,gC4,hne4,hA4,hC4,hl4,h14,hK4⟩;have hs3:=HK3.out.size;have HO4:Hid (OPA w4 w.heap.size (.slice ob sl oc) (qB5 nw.cont)):=OPA.keep HO3.out hK4 (by simp);have HP4:Hid (OPA w4 w.heap.size (.slice pb pl pc) (qB5 r.cont)):=OPA.keep HP3.out hK4 (by simp);have HK4:Hid (Kp [] w w4):=HK3.out.tr hK4;have HOP:Hid (Calls prog 16 #[.pointer (some ⟨A4,0,none⟩)] w4 fun e w'=>((∃ V M St Db N rb rs r,e=.returned (.tuple #[.pointer (some ⟨Db,0,none⟩),.nilIface])∧Made0 w4 w' A4 100 C4 l2 0 V M St Db N rb rs r)∨
   ∃ F call,e=.returned (.tuple #[.pointer none,.iface 180 (.pointer (some ⟨F,0,none⟩))])∧w4.heap.size≤F∧w'.heap[F]?=some (.cells #[.string call,.iface 46 (.int .i64 9)] 183)∧∃ c,w'.heap[A4]?=some (χ (l2.length / 128) 100 C4 (.slice none 0 0) c 0))∧Kp [A4,C4] w4 w'):=xL4 A4 100 C4 0 0 l2 w4 hA4 (by omega) (by omega) (by omega) (by omega) hC4 hl4 hne4
 have HN4:Hid (∀ k∈[A4,C4],∀ c fr,w4.heap[k]?≠some (.cells c 64 fr)):=by
  show ∀ k∈[A4,C4],∀ c fr,w4.heap[k]?≠some (.cells c 64 fr);intro k hk c fr e;simp only[List.mem_cons,List.not_mem_nil,or_false] at hk;rcases hk with rfl|rfl
  ·rw[hA4] at e;simp[χ] at e
  ·rw[hC4] at e;simp at e
 have HD4:Hid (100*128≤l2.length∧(∀ k,k<100→One (ι l' k) (ι l2 k))):=⟨hl4,h14⟩;clear hA4 hC4 hK4 hl4 h14 HTU HO3 HP3 HK3;go_wp2_with fail;refine (show Calls _ _ _ _ _ from HOP.out).mono ?_;rintro e w5 ⟨hres,hK5⟩;have hs4:=HK4.out.size;have HO5:Hid (OPA w5 w.heap.size (.slice ob sl oc) (qB5 nw.cont)):=OPA.keep HO4.out hK5 HN4.out;have HP5:Hid (OPA w5 w.heap.size (.slice pb pl pc) (qB5 r.cont)):=OPA.keep HP4.out hK5 HN4.out;have HK5:Hid (Kp [] w w5):=HK4.out.trans hK5 (by intro i hi hlt;simp at hi;omega);have hs5:=hK5.size;clear hK5 HOP HO4 HP4 HK4 HN4;rcases hres with⟨V,M,St2,Db,N,rb,rs,r2,rfl,hM0⟩|⟨F,call,rfl,hF,hF2,_⟩
 ·obtain⟨hS0,hr8⟩:=hM0.shop (by omega) (by omega) HD4.out.1;have hM0':=hM0;obtain⟨m1,m2,m3,m4,_,_,_,_,m9,_,_,m12⟩:=hM0';have HCONT:Hid (r2.cont=[]∨r2.cont=nw.cont∨r2.cont=r.cont):=by
   rcases HT3.out with h|h
   ·rcases zU3 h (by omega) (by omega) HD4.out.2 m12 m9 with e|e
    ·exact .inl e
    ·exact .inr (.inl e)
   ·rcases zU3 h (by omega) (by omega) HD4.out.2 m12 m9 with e|e
    ·exact .inr (.inl e)
    ·exact .inr (.inr e)
  have HNOW:Hid (Calls prog 17 #[.pointer (some ⟨Db,0,none⟩)] w5 fun e w'=>∃ v,e=.returned (.tuple #[v,.bool true])∧OPA w' w5.heap.size v (qB5 r2.cont)∧Kp [St2,M,A4] w5 w'):=by
   refine (xL1 hS0 (by simp[emp,Maps.size]) (by omega) (by show (0:Int)≤_;omega) (by show (0:Int)≤0;omega) ⟨by omega,by show ((qB9 r2:Nat):Int)≤1000;omega⟩).mono ?_;rintro e w' ⟨v,e1,e2,_,e3⟩;exact⟨v,e1,e2,e3⟩
  have HN5:Hid (∀ k∈[St2,M,A4],∀ c fr,w5.heap[k]?≠some (.cells c 64 fr)):=by
   show ∀ k∈[St2,M,A4],∀ c fr,w5.heap[k]?≠some (.cells c 64 fr);intro k hk c fr e;obtain⟨cA,hA⟩:=hS0.hA;simp only[List.mem_cons,List.not_mem_nil,or_false] at hk;rcases hk with rfl|rfl|rfl
   ·rw[hS0.hSt] at e;simp[τ] at e
   ·exact absurd rfl (qE6 e hS0.hM)
   ·rw[hA] at e;simp[χ] at e
  have HM:Hid (w4.heap.size≤St2∧w4.heap.size≤M∧w.heap.size≤w4.heap.size):=⟨m3,m2,hs4⟩;have HSZ:=zh hS0.sz;clear hM0 hS0 hr8 m1 m2 m3 m4 m9 m12;go_wp2_with fail;refine (show Calls _ _ _ _ _ from HNOW.out).mono ?_;rintro e w6 ⟨v6,rfl,ho6,hK6⟩;have HO6:Hid (OPA w6 w.heap.size (.slice ob sl oc) (qB5 nw.cont)):=OPA.keep HO5.out hK6 HN5.out;have HP6:Hid (OPA w6 w.heap.size (.slice pb pl pc) (qB5 r.cont)):=OPA.keep HP5.out hK6 HN5.out;have HK6:Hid (Kp [] w w6):=HK5.out.trans hK6 (by intro i hi hlt;have:=HM.out;simp at hi;omega);have HQ6:=zh ho6;have hal:(qB5 r2.cont).length≤1000000:=by have:=zP0 r2.cont;have:=HSZ.out;omega
  have HS1:Hid (Calls prog 18 #[v6,.slice ob sl oc] w6 fun e w'=>e=.returned (.bool (decide (qB5 r2.cont=qB5 nw.cont)))∧Kp [] w6 w'):=zW0 _ _ _ _ _ _ w6 ho6 HO6.out hal;obtain⟨ob6,oc6,rfl⟩:=qL0 ho6;obtain⟨ql,hql⟩:∃ ql,ql=(qB5 r2.cont).length:=⟨_,rfl⟩;rw[←hql] at HS1 HQ6 ⊢;have HQL:=zh hql;have HAL:=zh hal;clear ho6 hK6 HNOW HO5 HP5 HK5 HN5 hql hal;go_wp2_with fail;refine (show Calls _ _ _ _ _ from HS1.out).mono ?_;rintro e w7 ⟨rfl,hK7⟩;have HS2:Hid (Calls prog 18 #[.slice ob6 ql oc6,.slice pb pl pc] w7 fun e w'=>e=.returned (.bool (decide (qB5 r2.cont=qB5 r.cont)))∧Kp [] w7 w'):=zW0 _ _ _ _ _ _ w7 (OPA.keep HQ6.out hK7 (by simp)) (OPA.keep HP6.out hK7 (by simp)) HAL.out;have HK7:Hid (Kp [] w w7):=HK6.out.tr hK7;obtain⟨q1,hq1⟩:∃ q1,q1=decide (qB5 r2.cont=qB5 nw.cont):=⟨_,rfl⟩;rw[←hq1];have HQ1:=zh hq1;clear hK7 HS1 HO6 HP6 HK6 HQ6 hq1;go_wp2_with fail;refine (show Calls _ _ _ _ _ from HS2.out).mono ?_;rintro e w8 ⟨rfl,hK8⟩;have HK8:Hid (Kp [] w w8):=HK7.out.tr hK8;obtain⟨q2,hq2⟩:∃ q2,q2=decide (qB5 r2.cont=qB5 r.cont):=⟨_,rfl⟩;rw[←hq2];have HOR:Hid (q1=true∨q2=true∨ql=0):=by
   rcases HCONT.out with e|e|e
   ·refine .inr (.inr ?_);have:=zP0 r2.cont;rw[HQL.out,e];rfl
   ·exact .inl (by rw[HQ1.out,e];simp)
   ·exact .inr (.inl (by rw[hq2,e];simp))
  clear hK8 HS2 HK7 hq2;rcases HOR.out with h|h|h
  ·subst h;go_wp2;go_ret;exact⟨rfl,HK8.out⟩
  ·subst h;cases q1
   all_goals
    go_wp2;go_ret;exact⟨rfl,HK8.out⟩
  ·subst h;cases q1<;>cases q2
   all_goals
    go_wp2;go_ret;exact⟨rfl,HK8.out⟩
 ·have hg5:w5.cell? ⟨0,0,none⟩=some qL8:=by
   have h:=HG.out;exact Kp.zero HK5.out h.1 h.2
  have HTD:Hid (Calls prog 21 #[.iface 180 (.pointer (some ⟨F,0,none⟩))] w5 fun e w'=>e=.returned (.int .i64 9)∧Kp [] w5 w'):=zO0 F call 9 w5 hg5 hF2;clear hF2 hg5;go_wp2_with fail;refine (show Calls _ _ _ _ _ from HTD.out).mono ?_;rintro e w6 ⟨rfl,hK6⟩;have HK6:Hid (Kp [] w w6):=HK5.out.tr hK6;clear hK6 HTD;go_wp2;go_ret;exact⟨rfl,HK6.out⟩
end Go.Proofs.YtdohpenfkdckiabGreatDoor
namespace Go.Proofs.YtdohpenfkdckiabGreatDoor
open Go.Proofs.Tryz
open Go.ChangeShapes Go.WideShapes Go.RowKit Go.Deep
theorem zE8{n:Int}(h:(Lit.int .i64 n).wf=true):-9223372036854775808≤n∧n≤9223372036854775807:=by
 simp[Lit.wf,IntKind.min,IntKind.max,IntKind.bits,IntKind.signed] at h;omega
theorem zN4:laidOutB prog=true:=by kernel_rfl
theorem xF6:ownKnob prog.godebug=none:=by kernel_rfl
theorem xF4:prog.globalNamed "errors.errorType"=some 0:=by kernel_rfl
theorem xF7:(prog.cutTypes.find? (·.1 == "internal/reflectlite.rtype")).map (·.2)=some 196:=by kernel_rfl
theorem xF5:((List.range 345).filter fun t=>prog.rowNamed t [101,114,114,111,114])=[35]:=by kernel_rfl
theorem xF8:prog.types.size=345:=by kernel_rfl
theorem zV1{W:World}(h:laidMetH prog Rows.flippedRow.laid W):W.cell? ⟨0,0,none⟩=some qL8:=by
 have h':laidMet prog (Rows.flippedRow.laid.filter fun x=>x.2.handleName?.isNone) W∧handlesMet prog [("errors.errorType",Rows.laid_errors_errorType)] W:=h;obtain⟨name,u,ty,e1,e2,e3,e4,e5⟩:=h'.2 _ (List.mem_singleton.2 rfl);have en:name=[101,114,114,111,114]:=(Option.some.inj e1).symm;subst en;obtain rfl:=Option.some.inj (xF7.symm.trans e2);have hm:ty∈(List.range 345).filter fun t=>prog.rowNamed t [101,114,114,111,114]:=List.mem_filter.2 ⟨List.mem_range.2 (by rw[←xF8];exact e3),e4⟩;rw[xF5] at hm;obtain rfl:=List.mem_singleton.1 hm;have hh:typeHandle prog 35=.pointer (some ⟨5,35,none⟩):=by kernel_rfl
 rw[hh] at e5;simpa [qL8] using World.var?_cell xF4 e5 0
theorem xF9(os:Os)(H:Type)(enc:TypeId × Value→H):
  ∃ (w:World) (tape:Tape) (i:Input),w.os=os∧(w.forCall tape i).Shaped prog∧i.vars=[]∧Input.okWide prog (w.forCall tape i) .any w.heap.size 7 i∧
   ((Rows.flippedSpec.pre enc prog f7 [] false (w.forCall tape i).memory i.args∧laidMetH prog Rows.flippedRow.laid (w.forCall tape i).memory)∧sizedMet enc prog f7 (OpenSpec.ofChange Rows.flippedSpec) false (w.forCall tape i).memory i.args)∧({}:Assume).holds prog (lone (Frame.enter prog 7 i.args .normal) [] (w.forCall tape i)):=
 ChangeSpec.witness_at (enc:=enc) (C:=checked) (os:=os) (X:=fun w _=>laidMetH prog Rows.flippedRow.laid w) false ({ World.laidAll prog os (Rows.flippedRow.laid.filter fun x=>x.2.handleName?.isNone) with heap:=(World.laidAll prog os (Rows.flippedRow.laid.filter fun x=>x.2.handleName?.isNone)).heap.modify 0 fun o=>match o with | .cells _ t frozen=>.cells #[qL8] t frozen | o=>o }) #[.int .i64 0,.int .i64 0,.int .i64 0] 8 rfl (by kernel_rfl) (by kernel_rfl) (by kernel_rfl) (by kernel_rfl) (by kernel_rfl) (laidMetH_of_parts (laidMet_of_run' 8 (by kernel_rfl) (by kernel_rfl)) (by kernel_rfl))
end Go.Proofs.YtdohpenfkdckiabGreatDoor
namespace Go.Proofs.YtdohpenfkdckiabGreatDoor
open Go.Proofs.Tryz
open Go Go.ChangeShapes Go.WideShapes Go.RowKit Go.Deep
theorem xX3(os:Os)(started:os.Started)(H:Type)(enc:TypeId × Value→H):
  ReturnsInHanded {} checked os 7 .any (fun w args=>(Rows.flippedSpec.pre enc prog f7 [] false w args∧laidMetH prog Rows.flippedRow.laid w)∧sizedMet enc prog f7 (OpenSpec.ofChange Rows.flippedSpec) false w args)
   (Rows.flippedSpec.post enc prog f7 false true false false):=by
 refine returnsInHanded_of_change_and (C:=checked) (X:=fun w _=>laidMetH prog Rows.flippedRow.laid w) (fun _ _ _ hh h=>h.of_heap hh) xF6 started (by kernel_rfl) func7 (xF9 os H enc) ?_;intro W base args ds gs before hval0 hW _ _ hL _;have hval:∀ (j:Nat) t v,f7.params[j]?=some t→args[j]?=some v→Value.okWide prog W .any base t v:=hval0;have hW':=hW;obtain⟨p,q,hA0,hV,rfl,_,_⟩:=hW;have hA:DataW.TrodAll enc prog W 0 (fun _=>true) true f7.params.toList args.toList ds p:=hA0;rw[params7] at hA hval;obtain⟨v0,v1,v2,d0,d1,d2,p0,p1,p2,rfl,rfl,rfl,h0,h1,h2⟩:=trodAll_three hA;obtain⟨rfl,rfl⟩:=trodVars_none hV;clear hA0 hval0;simp only[List.append_nil] at hW';obtain⟨a,rfl,rfl,rfl,wa⟩:=open_int underlying3 (hval 0 3 v0 rfl rfl) h0;obtain⟨b,rfl,rfl,rfl,wb⟩:=open_int underlying3 (hval 1 3 v1 rfl rfl) h1;obtain⟨c,rfl,rfl,rfl,wc⟩:=open_int underlying3 (hval 2 3 v2 rfl rfl) h2;have hg:=zV1 hL;have h0s:0<W.heap.size:=by
  unfold World.cell? at hg
  cases hb:W.heap[0]? with
  | none=>simp[hb] at hg
  | some o=>exact ζ hb
 have e1:Rows.flippedSpec.fn H ([.lit (.int .i64 a),.lit (.int .i64 b),.lit (.int .i64 c)]++[])={ results:=[.lit (.bool true)],args:=[.lit (.int .i64 a),.lit (.int .i64 b),.lit (.int .i64 c)] }:=by simp[Rows.flippedSpec]
 obtain⟨ha0,ha1⟩:=zE8 wa;obtain⟨hb0,hb1⟩:=zE8 wb;obtain⟨hc0,hc1⟩:=zE8 wc;refine (xX4 a b c ha0 ha1 hb0 hb1 hc0 hc1 W h0s hg).mono fun e W' ⟨he,hK⟩=>?_;subst he;have hb:Below W.heap.size W W':=hK.below (Nat.le_refl _) (by simp);refine⟨_,rfl,_,_,_,[],[],[],hW',?_,?_,?_,hb.frame _,fun h=>by cases h⟩
 ·rw[e1];exact trodAll_mk1 (shut_bool underlying4 true)
 ·rw[e1];exact trodAll_mk3 (shut_int underlying3 wa) (shut_int underlying3 wb) (shut_int underlying3 wc)
 ·rw[e1];rfl
end Go.Proofs.YtdohpenfkdckiabGreatDoor
