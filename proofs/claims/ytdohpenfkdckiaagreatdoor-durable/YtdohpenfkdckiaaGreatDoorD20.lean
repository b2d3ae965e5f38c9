import Derived.Test.YtdohpenfkdckiaaGreatDoorD19
import Derived.Test.YtdohpenfkdckiaaGreatDoorRows
import Derived.ChangeSame
import Derived.ChangeVars
import Derived.JoinedOf
import Derived.RowKit
import Derived.LaidLaws
import Derived.LaidHandle
import Derived.Deep.Slices
import Derived.Stop.Joined
import Derived.Lay
set_option linter.all false
set_option maxRecDepth 100000
set_option maxHeartbeats 20000000
namespace Go.Proofs.YtdohpenfkdckiaaGreatDoor
open Go.Proofs.Tryz
open Go.RowKit
def emp:DataW Unit:=.map []
theorem xG8(k:Lit):emp.del k=emp:=by simp[emp,DataW.del]
theorem xG7(n:Int)(v:DataW Unit):(emp.put (qA6 n) v).del (qA6 n)=emp:=by
 simp[emp,DataW.put,DataW.del,DataW.insert,qA6,Lit.sameKey]
section
variable {w:World} {kc db St A C N nM:Nat} {s:Sto} {D:DataW Unit} {l:List UInt8} {wr:Int} {nw:Root}
theorem Wrt.put{x:Nat}{t:Tx}{r:Root}{nr:Int}(h:Wrt w kc db St A C N nM s D l wr nw x t r nr){w':World}{p:KV}{h':HL}(hF:FineT h.shop.E w w' x t s (r.put p) h')(hp:qC9 p)(hc:t.ch≤10000000)(hr:r.cont.length≤10000):Wrt w' kc db St A C N nM s D l wr nw x { t with h:=h',ch:=t.ch+1 } (r.put p) nr∧Kp [St,x,A] w w'∧(r.put p).cont=ins p r.cont∧∃ q,h'.p=some q:=by
 obtain⟨g1,g2⟩:=qR2 (p:=p) h.live.good hp;have hl:(r.put p).cont.length≤r.cont.length+1:=by rw[g2];exact qP1 _ _
 obtain⟨m,L,e1,e2⟩:=jE1 (p:=p) h.live.good hp;have hq:∃ q,h'.p=some q:=by
  have hrr:=hF.rr;rw[e1] at hrr;exact jF0 hrr e2
 obtain⟨a1,a2⟩:=h.turn (t':={ t with h:=h',ch:=t.ch+1 }) (r':=r.put p) (h.live.next hF g1 (by omega) (by omega)) rfl rfl rfl hF.kp;exact⟨a1,a2,g2,hq⟩
end
theorem xP8(N kc:Nat)(h100:100≤N)(h400:N≤400)(hk1:100≤kc)(hk9:kc≤900)(a:Int)(ha0:-9223372036854775808≤a)(ha1:a≤9223372036854775807)(w:World):
  Calls prog 18 #[.int .i64 N,.int .i64 a] w fun e w'=>∃ db St A C s l wr nw v,e=.returned (.tuple #[.pointer (some ⟨A,0,none⟩),.pointer (some ⟨db,0,none⟩),v])∧Shop w' kc db St A C N 1 s emp l wr nw∧OPA w' w.heap.size v (qC4 nw.cont)∧s.wr=0∧s.bg=2∧s.N≤10∧nw.cont.length≤43∧(⟨qF7,qM7⟩:KV)∈nw.cont∧w.heap.size≤A∧w.heap.size≤C∧w.heap.size≤St∧w.heap.size≤db∧w.heap.size≤s.M∧Kp [] w w':=by
 go_enter func18,ntmps18;go_wp2_with fail;refine (xW4 N w (by omega) (N:Int) (by omega) (by omega)).mono ?_;rintro e w1 ⟨rfl,Z,hZ,hZ0,hw1⟩;rw[xT1 Z _ hZ hZ0] at hw1;have hC1:w1.heap[w.heap.size]?=some (.cells (enc (List.replicate (N*128) 0)) 115):=by rw[hw1];exact θ _ (μ _ _)
 have hA1:w1.heap[w.heap.size+1]?=some (qO9 N w.heap.size (.slice none 0 0) 0 0):=by
  rw[hw1];have e:=μ (w.alloc (.cells (enc (List.replicate (N*128) 0)) 115)) (qO9 N w.heap.size (.slice none 0 0) 0 0);simpa using e
 have hK1:Kp [] w w1:=by rw[hw1];exact ((Kp.refl _ _).alloc _).alloc _
 clear hw1 hZ hZ0 Z;have HF:Hid (Calls prog 42 #[.pointer (some ⟨w.heap.size+1,0,none⟩)] w1 fun e w'=>e=.returned .nilIface∧w'.heap[w.heap.size+1]?=some (qO9 N w.heap.size (.slice none 0 0) (0+6) (0+2))∧w'.heap[w.heap.size]?=some (.cells (enc (qN0 (List.replicate (N*128) 0) 0)) 115)∧Kp [w.heap.size+1,w.heap.size] w1 w'):=
  xK7 (w.heap.size+1) N w.heap.size 0 0 (List.replicate (N*128) 0) 0 w1 hA1 (by omega) (by omega) (by omega) (by omega) (by omega) h400 hC1 (by simp) (by omega) (Or.inl ⟨xS6 N (by omega),rfl⟩) (by omega) (by omega) (by omega)
 have HK1:=zh hK1;clear hC1 hA1 hK1;go_wp2_with fail;refine (show Calls _ _ _ _ _ from HF.out).mono ?_;rintro e w2 ⟨rfl,hA2,hC2,hK2⟩;have hfl:(qN0 (List.replicate (N*128) 0) 0).length=N*128:=by rw[xK5 _ _ (by simp;omega)];simp
 have hfm:=xK6 (List.replicate (N*128) 0) 0 (by simp;omega) (by omega) (by omega) (by omega);obtain⟨l,hl⟩:∃ l,l=qN0 (List.replicate (N*128) 0) 0:=⟨_,rfl⟩;rw[←hl] at hC2 hfl hfm;have HK2:Hid (Kp [] w w2):=HK1.out.trans hK2 (by intro i hi hlt;simp at hi;omega);have HO:Hid (Calls prog 43 #[.pointer (some ⟨w.heap.size+1,0,none⟩)] w2 fun e w'=>∃ V M St Db,e=.returned (.tuple #[.pointer (some ⟨Db,0,none⟩),.nilIface])∧w2.heap.size≤V∧w2.heap.size≤M∧w2.heap.size≤St∧w2.heap.size≤Db∧
   w'.heap[w.heap.size+1]?=some (qO9 N w.heap.size (.slice none 0 0) (0+6+3) (0+2))∧w'.heap[V]?=some (qB7 (w.heap.size+1) N)∧w'.heap[M]?=some (.map #[] 0)∧w'.heap[St]?=some (ρ 0 (qI9 V M (0+2)))∧w'.heap[Db]?=some (.cells #[.pointer (some ⟨St,0,none⟩)] 102)∧Kp [w.heap.size+1] w2 w'):=
  jC5 (w.heap.size+1) N w.heap.size (0+6) (0+2) l (0+2) w2 hA2 (by omega) (by omega) (by omega) h400 hC2 (Nat.le_of_eq hfl.symm) (by omega) hfm
 have HC2:Hid (w2.heap[w.heap.size]?=some (.cells (enc l) 115)∧l.length=N*128∧Formatted l (0+2)):=⟨hC2,hfl,hfm⟩;clear hA2 hC2 hK2 hfl hfm hl HF;go_wp2_with fail;refine (show Calls _ _ _ _ _ from HO.out).mono ?_;rintro e w3 ⟨V,M,St,db,rfl,hV3,hM3,hS3,hD3,hA3,hVo,hMo,hSo,hDo,hK3⟩;have hs2:=HK2.out.size;have hshop:Shop w3 kc db St (w.heap.size+1) w.heap.size N 0 (qI9 V M (0+2)) emp l (0+2) .none:=jG3 hA3 hVo hMo hSo hDo (hK3.hp HC2.out.1) (by omega) h400 HC2.out.2.1 HC2.out.2.2 hk9 (by omega);have HS3:=zh hshop;have HK3:Hid (Kp [] w w3):=HK2.out.trans hK3 (by intro i hi hlt;simp at hi;omega);clear hA3 hVo hMo hSo hDo hK3 hshop HO HC2;go_wp2_with fail;refine (zE2 a 40 ha0 ha1 (by omega) (by omega) w3).mono ?_;rintro e w3' ⟨⟨k,rfl,hk0,hk40⟩,hw3⟩;rw[hw3];clear hw3 w3';obtain⟨m,hm⟩:∃ m:Nat,(m:Int)=3+k:=⟨(3+k).toNat,by omega⟩;have hwr3:wrap64 (3+k)=(m:Int):=by simp only[wrap64];omega
 have HW:Hid (Calls prog 19 #[.pointer (some ⟨db,0,none⟩),.int .i64 a,.int .i64 m] w3 fun e w'=>∃ x t r v,e=.returned (.tuple #[.pointer (some ⟨x,0,none⟩),v])∧w3.heap.size≤x∧OPA w' w3.heap.size v (qC4 r.cont)∧r.cont.length≤m∧t.ch≤(m:Int)∧Kp [St,w.heap.size+1] w3 w'∧Wrt w' kc db St (w.heap.size+1) w.heap.size N 0 (qI9 V M (0+2)).wrote emp l (0+2) .none x t r (0+1)):=by
  have h:=zQ9 HS3.out rfl (by show (0:Int)≤_;omega) a ha0 ha1 m (by omega) (fun r' hg hz=>by
   have h1:=qV0 hg;have hz':r'.cont.length≤0+m:=hz;have h3:((qI9 V M (0+2)).bl:Int)=0:=rfl;rw[h3];omega)
  refine h.mono ?_;rintro e w' ⟨x,t,r,v,c1,c2,c3,c4,c5,_,c6,c7⟩;have c4':r.cont.length≤0+m:=c4;exact⟨x,t,r,v,c1,c2,c3,by omega,c5,c6,c7⟩
 clear hwr3;rw[hm] at HW;have HM:=zh hm;clear hm;go_wp2_with fail;refine (show Calls _ _ _ _ _ from HW.out).mono ?_;rintro e w4 ⟨x,t,r,v0,rfl,hx4,_,hr4,hc4,hK4,hW4⟩;have hm:=HM.out;have hp:qC9 ⟨qF7,qM7⟩:=⟨by decide,by decide,by decide⟩;have HP:Hid (Calls prog 34 #[.pointer (some ⟨x,0,none⟩),.string ⟨#[102,105,114,115,116]⟩,.string ⟨#[111,102,32,97,108,108]⟩] w4 fun e w'=>e=.returned .nilIface∧∃ h',FineT hW4.shop.E w4 w' x t (qI9 V M (0+2)).wrote (r.put ⟨qF7,qM7⟩) h'):=by
  refine zV8 hW4.shop.E x _ N t _ r ⟨qF7,qM7⟩ w4 hW4.live hW4.wrt hp ?_;obtain⟨g1,g2⟩:=qR2 (p:=⟨qF7,qM7⟩) hW4.live.good hp;have h1:=qV0 g1;have h2:=qP1 ⟨qF7,qM7⟩ r.cont;rw[g2] at h1;show _≤(N:Int)-2-0;omega
 have HW4:=zh hW4;have hs3:=HK3.out.size;have HK4:Hid (Kp [] w w4):=HK3.out.trans hK4 (by intro i hi hlt;simp at hi;omega);clear hK4 HW HS3;go_wp2_with fail;refine (show Calls _ _ _ _ _ from HP.out).mono ?_;rintro e w5 ⟨rfl,h',hF⟩;obtain⟨hW5,hK5,hcn,q,hq⟩:=hW4.put hF hp (by omega) (by omega);obtain⟨t5,ht5⟩:∃ t5:Tx,t5={ t with h:=h',ch:=t.ch+1 }:=⟨_,rfl⟩;rw[←ht5] at hW5;have hq5:t5.h.p=some q:=by rw[ht5];exact hq
 obtain⟨r5,hr5⟩:∃ r5,r5=r.put ⟨qF7,qM7⟩:=⟨_,rfl⟩;rw[←hr5] at hW5 hcn;have hl5:r5.cont.length≤m+1:=by rw[hcn];have:=qP1 ⟨qF7,qM7⟩ r.cont;omega
 have hin5:(⟨qF7,qM7⟩:KV)∈r5.cont:=by rw[hcn];exact zQ0 _ _
 have hpos:0<(qC4 r5.cont).length:=by rw[hcn];exact zZ9 (zQ0 _ _) (by kernel_rfl)
 have HALL:Hid (Calls prog 32 #[.pointer (some ⟨x,0,none⟩)] w5 fun e w'=>∃ v,e=.returned (.tuple #[v,.bool true])∧OPA w' w5.heap.size v (qC4 r5.cont)∧BadT hW5.shop.E w5 w' t5 (qI9 V M (0+2)).wrote):=zD9 hW5.shop.E x _ N t5 _ r5 w5 hW5.live;have hs4:=HK4.out.size;have HK5:Hid (Kp [] w w5):=HK4.out.trans hK5 (by intro i hi hlt;simp at hi;omega);have HW5:=zh hW5;clear hW4 hF hK5 hcn hq ht5 hr5 HP HW4 HK4;go_wp2_with fail;refine (show Calls _ _ _ _ _ from HALL.out).mono ?_;rintro e w6 ⟨v,rfl,ho6,hb6⟩;obtain⟨hW6,hK6⟩:=HW5.out.stay hb6;have hs5:=HK5.out.size;have HK6:Hid (Kp [] w w6):=HK5.out.trans hK6 (by intro i hi hlt;simp at hi;omega);have HC:Hid (Calls prog 31 #[.pointer (some ⟨x,0,none⟩)] w6 fun e w'=>e=.returned .nilIface∧∃ s' l' nt,Shop w' kc db St (w.heap.size+1) w.heap.size N 0 s' (emp.del (qA6 t5.nr)) l' (nx (nk (nx (0+2)) r5.news)) nt∧nt.cont=r5.cont∧s'.N=(0+2)+2∧s'.bg=0+1∧s'.wr=((qI9 V M (0+2)).wrote.left t5.nr).wr∧s'.V=V∧s'.M=M∧Kp [St,x,M,w.heap.size+1,w.heap.size] w6 w'):=by
  have h1:=qV0 hW6.live.good;have h2:=qU9 hW6.live.good;refine (hW6.shop.commit hW6.live hW6.st hW6.wrt (by rw[hW6.nr];omega) (by rw[hW6.nr];omega) hq5 (by omega) (by show (0+2:Int)≤_;omega) (by show _+_+0*kc+0+2≤N;omega)).mono ?_;rintro e w' ⟨c0,s',l',nt,c1,c2,c3,c4,c5,c6,c7,_,c8,_⟩;exact⟨c0,s',l',nt,c1,c2,c3,c4,c5,c6,c7,c8⟩
 have HO6:Hid (OPA w6 w.heap.size v (qC4 r5.cont)):=qH9 ho6 (by omega);have HN6:Hid (∀ k∈[St,x,M,w.heap.size+1,w.heap.size],∀ c fr,w6.heap[k]?≠some (.cells c 42 fr)):=by
  show ∀ k∈[St,x,M,w.heap.size+1,w.heap.size],∀ c fr,w6.heap[k]?≠some (.cells c 42 fr);intro k hk c fr e;obtain⟨cA,hA⟩:=hW6.shop.hA;simp only[List.mem_cons,List.not_mem_nil,or_false] at hk;rcases hk with rfl|rfl|rfl|rfl|rfl
  ·rw[hW6.shop.hSt] at e;simp[ρ] at e
  ·rw[hW6.live.hx] at e;simp[qA9] at e
  ·exact absurd rfl (qH0 e hW6.shop.hM)
  ·rw[hA] at e;simp[qO9,φ] at e
  ·rw[hW6.shop.dev.hC] at e;simp at e
 have HNR:=zh hW6.nr;obtain⟨ob,oc,rfl⟩:=qL6 ho6;obtain⟨sl,hsl⟩:∃ sl,sl=(qC4 r5.cont).length:=⟨_,rfl⟩;rw[←hsl] at HO6 hpos ⊢;have HSL:=zh hsl;clear ho6 hb6 hW6 hK6 HALL HW5 HK5 hsl hW5;go_wp2_with fail;refine (show Calls _ _ _ _ _ from HC.out).mono ?_;rintro e w7 ⟨rfl,s',l',nt,hS7,e1,e2,e3,e4,e5,e6,hK7⟩;rw[xG8] at hS7;have hs6:=HK6.out.size;have hw7:s'.wr=0:=by rw[e4];show (if t5.nr=0+1 then 0 else _)=(0:Int);rw[if_pos HNR.out]
 have HO7:Hid (OPA w7 w.heap.size (.slice ob sl oc) (qC4 nt.cont)):=by rw[e1];exact OPA.keep HO6.out hK7 HN6.out
 have HK7:Hid (Kp [] w w7):=HK6.out.trans hK7 (by intro i hi hlt;simp at hi;omega);have HNOW:Hid (Calls prog 30 #[.pointer (some ⟨db,0,none⟩)] w7 fun e w'=>∃ v,e=.returned (.tuple #[v,.bool true])∧OPA w' w7.heap.size v (qC4 nt.cont)∧Shop w' kc db St (w.heap.size+1) w.heap.size N (0+1) s'.read ((emp.put (qA6 (s'.bg+1)) (qF5 ⟨⟨#[]⟩,s'.rb,s'.rs,none⟩)).del (qA6 (s'.bg+1))) l' (nx (nk (nx (0+2)) r5.news)) nt∧Kp [St,s'.M,w.heap.size+1] w7 w'):=zQ8 hS7 (by show 0<4;omega) (by omega) (by omega) (by omega);have HN7:Hid (∀ k∈[St,s'.M,w.heap.size+1],∀ c fr,w7.heap[k]?≠some (.cells c 42 fr)):=by
  show ∀ k∈[St,s'.M,w.heap.size+1],∀ c fr,w7.heap[k]?≠some (.cells c 42 fr);intro k hk c fr e;obtain⟨cA,hA⟩:=hS7.hA;simp only[List.mem_cons,List.not_mem_nil,or_false] at hk;rcases hk with rfl|rfl|rfl
  ·rw[hS7.hSt] at e;simp[ρ] at e
  ·exact absurd rfl (qH0 e hS7.hM)
  ·rw[hA] at e;simp[qO9,φ] at e
 have HNT:Hid (nt.cont.length≤43∧(qC4 nt.cont).length=sl∧(⟨qF7,qM7⟩:KV)∈nt.cont):=⟨by rw[e1];omega,by rw[e1];exact HSL.out.symm,by rw[e1];exact hin5⟩;have HS':Hid (s'.N=0+2+2∧s'.bg=0+1∧s'.wr=0∧s'.M=M):=⟨e2,e3,hw7,e6⟩;clear hS7 e1 e2 e3 e4 e5 e6 hK7 HC HO6 HN6 HK6 hw7 hq5;go_wp2_with fail;refine (show Calls _ _ _ _ _ from HNOW.out).mono ?_;rintro e w8 ⟨v8,rfl,ho8,hS8,hK8⟩;rw[xG7] at hS8;have hs7:=HK7.out.size;have HO8:Hid (OPA w8 w.heap.size (.slice ob sl oc) (qC4 nt.cont)):=OPA.keep HO7.out hK8 HN7.out;have HK8:Hid (Kp [] w w8):=HK7.out.trans hK8 (by intro i hi hlt;have:=HS'.out.2.2.2;simp at hi;omega);have hal:(qC4 nt.cont).length≤1000000:=by
  have h1:=HNT.out.1;have h2:(qC4 nt.cont).length≤nt.cont.length:=by
   unfold qC4 qF4;rw[List.length_take];have:=List.length_filter_le (inR ⟨#[]⟩ qQ6) nt.cont;omega
  omega
 have HSAME:Hid (Calls prog 33 #[.slice ob sl oc,v8] w8 fun e w'=>e=.returned (.bool true)∧Kp [] w8 w'):=zE3 _ _ _ _ (qC4 nt.cont) w8 HO8.out ho8 hal;have HS8:=zh hS8;obtain⟨ob8,oc8,rfl⟩:=qL6 ho8;rw[HNT.out.2.1] at HSAME ⊢;clear ho8 hS8 hK8 HNOW HO7 HN7 HK7;go_wp2_with fail;refine (show Calls _ _ _ _ _ from HSAME.out).mono ?_;rintro e w9 ⟨rfl,hK9⟩;have HE:Hid (Shop w9 kc db St (w.heap.size+1) w.heap.size N 1 s'.read emp l' (nx (nk (nx (0+2)) r5.news)) nt∧OPA w9 w.heap.size (.slice ob sl oc) (qC4 nt.cont)∧Kp [] w w9):=by
  have e2:=HS8.out;exact⟨e2.turn hK9 (by simp) (qG3 e2.dev hK9 (by intro k hk;cases hk)) ⟨rfl,rfl,rfl,rfl,rfl,rfl⟩ (hK9.hp e2.hSt) (e2.hM.kp hK9 (by simp)) e2.m4 e2.n1 e2.bg0 e2.kb e2.rd,OPA.keep HO8.out hK9 (by simp),HK8.out.tr hK9⟩
 have hsl0:¬(sl:Int)=0:=by omega
 clear hK9 HSAME HO8 HK8 HS8;go_wp2
 go_ret3
 obtain⟨f1,f2,f3⟩:=HE.out;obtain⟨g1,g2,g3,g4⟩:=HS'.out;exact⟨db,St,w.heap.size+1,w.heap.size,s'.read,l',_,nt,_,rfl,f1,f2,g3,by show s'.bg+1=2;omega,by show s'.N≤10;omega,HNT.out.1,HNT.out.2.2,by omega,by omega,by omega,by omega,by show w.heap.size≤s'.M;rw[g4];omega,f3⟩
theorem jC3(A n C kc:Nat)(calls writes:Int)(l:List UInt8)(N rb rs:Int)(r:Root)(w:World)(h:w.heap[A]?=some (φ (l.length / 128) n C (.slice none 0 0) calls writes))(h0:0≤calls)(h1:calls≤999999000)
  (h8:8≤n) (h400:n≤400) (hC:w.heap[C]?=some (.cells (enc l) 115)) (hs:n*128≤l.length) (hAC:C≠A) (hh:Heads l N rb rs) (hlie:Lie n l rb rs r) (hg:RGood r) (hc:r.cont.length≤kc) (hk:kc≤900) (hN:0≤N):
  Calls prog 43 #[.pointer (some ⟨A,0,none⟩)] w fun e w'=>∃ V M St Db,e=.returned (.tuple #[.pointer (some ⟨Db,0,none⟩),.nilIface])∧w.heap.size≤V∧w.heap.size≤M∧w.heap.size≤St∧w.heap.size≤Db∧Shop w' kc Db St A C n 0 ⟨V,M,N,rb,rs,qC6 r,false,0,0⟩ emp l writes r∧Kp [A,C] w w':=by
 have hA:=ζ h;have hCs:=ζ hC;have HO:Hid (∀ D X W,W.heap[D]?=some (.cells #[.iface 27 (.pointer (some ⟨A,0,none⟩))] 206)→W.heap[X]?=some (.cells #[.pointer none] 28)→W.heap[A]?=some (φ (l.length / 128) n C (.slice none 0 0) calls writes)→W.heap[C]?=some (.cells (enc l) 115)→X≠A→X≠C→
  Calls prog 143 #[.pointer (some ⟨D,0,none⟩),.pointer (some ⟨X,0,none⟩)] W fun e w'=>e=.returned (.tuple #[])∧
   (∃ V M St Db,W.heap.size≤V∧W.heap.size≤M∧W.heap.size≤St∧W.heap.size≤Db∧Devl V A n C l writes w'∧w'.heap[M]?=some (.map #[] 0)∧w'.heap[St]?=some (ρ 0 ⟨V,M,N,rb,rs,qC6 r,false,0,0⟩)∧w'.heap[Db]?=some (.cells #[.pointer (some ⟨St,0,none⟩)] 102)∧w'.heap[X]?=some (.cells #[.pointer (some ⟨Db,0,none⟩)] 28))∧Kp [A,C,X] W w'):=fun D X W q1 q2 q3 q4 q5 q6=>jC1 D X A n C calls writes l N rb rs r W q1 q2 q3 h0 h1 h8 h400 q4 hs hAC q5 q6 hh hlie hg (by omega)
 have HE:Hid (∀ W V M St Db,Devl V A n C l writes W→W.heap[M]?=some (.map #[] 0)→W.heap[St]?=some (ρ 0 ⟨V,M,N,rb,rs,qC6 r,false,0,0⟩)→W.heap[Db]?=some (.cells #[.pointer (some ⟨St,0,none⟩)] 102)→Shop W kc Db St A C n 0 ⟨V,M,N,rb,rs,qC6 r,false,0,0⟩ emp l writes r):=fun W V M St Db q1 q2 q3 q4=>
  { hDb:=q4,hSt:=q3,po:=rfl,hM:=⟨#[],0,q2,⟨by simp,MapKept.stamped_empty 0,by simp⟩,Nat.le_refl _,rfl⟩,m4:=by simp[emp,Maps.size],n1:=by omega,dev:=q1,N8:=h8,N4:=h400,len:=hs,lie:=hlie,good:=hg,heads:=hh,sz:=hc,kc1:=hk,bl0:=Int.natCast_nonneg _,bl1:=by have:=qU9 hg;show ((qC6 r:Nat):Int)≤_;omega,sN0:=hN,bg0:=Int.le_refl _,kb:=fun k hk=>by simp[emp,Maps.has] at hk,rd:=fun x h hk=>by simp[emp,Maps.has] at hk }
 clear hh hlie hg hc;have hmf:=zM;go_enter func43,ntmps43
 go_wp2_with (go_at_call 86;go_in)
 obtain⟨W0,hW0,hK0,hs0⟩:∃ W0,W0=(w.alloc (.cells #[.iface 27 (.pointer (some ⟨A,0,none⟩))] 206)).alloc (.cells #[.pointer none] 28)∧Kp [] w W0∧W0.heap.size=w.heap.size+2:=⟨_,rfl,((Kp.refl _ _).alloc _).alloc _,by simp⟩;have hD0:W0.heap[w.heap.size]?=some (.cells #[.iface 27 (.pointer (some ⟨A,0,none⟩))] 206):=by rw[hW0];exact θ _ (μ _ _)
 have hX0:W0.heap[w.heap.size+1]?=some (.cells #[.pointer none] 28):=by
  rw[hW0];have e:=μ (w.alloc (.cells #[.iface 27 (.pointer (some ⟨A,0,none⟩))] 206)) (.cells #[.pointer none] 28);simpa using e
 rw[←hW0];clear hW0;have hA0:=hK0.hp h;have hC0:=hK0.hp hC;refine (qT4 143 _ _ _ (fun w'=>(∃ V M St Db,W0.heap.size+2≤V∧W0.heap.size+2≤M∧W0.heap.size+2≤St∧W0.heap.size+2≤Db∧Devl V A n C l writes w'∧w'.heap[M]?=some (.map #[] 0)∧w'.heap[St]?=some (ρ 0 ⟨V,M,N,rb,rs,qC6 r,false,0,0⟩)∧w'.heap[Db]?=some (.cells #[.pointer (some ⟨St,0,none⟩)] 102)∧w'.heap[w.heap.size+1]?=some (.cells #[.pointer (some ⟨Db,0,none⟩)] 28))∧Kp [A,C] w w') (fun W=>zL8 _ W) ?_).mono ?_
 ·refine (HO.out w.heap.size (w.heap.size+1) _ (θ _ (θ _ hD0)) (θ _ (θ _ hX0)) (θ _ (θ _ hA0)) (θ _ (θ _ hC0)) (by omega) (by omega)).mono ?_;rintro e w1 ⟨rfl,⟨V,M,St,Db,hV,hM,hSt,hDb,r⟩,hK1⟩;refine⟨rfl,⟨⟨V,M,St,Db,by simpa using hV,by simpa using hM,by simpa using hSt,by simpa using hDb,r⟩,(((hK0.mono (S':=[A,C]) (by simp)).alloc _).alloc _).trans hK1 (by intro i hi hlt;simp at hi ⊢;omega)⟩,hK1.heap ?_ (by simp;omega)⟩;have e:=μ (W0.alloc (.cells #[.string ⟨#[79,112,101,110]⟩] 9)) (.cells #[.nilIface] 38);simpa using e
 rintro e w2 ⟨rfl,w1,⟨⟨V,M,St,Db,hV,hM,hSt,hDb,r1,rm,r2,r3,r4⟩,hK1⟩,rfl⟩;have x0:=ξ r4 0;simp at x0;go_wp2
 go_ret2
 obtain⟨ca,hAd⟩:=r1.hA;exact⟨V,M,St,Db,rfl,by omega,by omega,by omega,by omega,HE.out _ V M St Db ⟨(qA5 (by omega) _ _).trans r1.hV,⟨_,(qA5 (by omega) _ _).trans hAd⟩,(qA5 (by omega) _ _).trans r1.hC⟩ ((qA5 (by omega) _ _).trans rm) ((qA5 (by omega) _ _).trans r2) ((qA5 (by omega) _ _).trans r3),hK1.setCell (Or.inr (by simp;omega)) _⟩
variable {κ:Nat}
section
variable {w:World} {kc db St A C N nM:Nat} {s:Sto} {D:DataW Unit} {l:List UInt8} {wr:Int} {nw:Root}
theorem Shop.nopair(hS:Shop w kc db St A C N nM s D l wr nw):∀ k∈[St,s.M,A,C],∀ c fr,w.heap[k]?≠some (.cells c 42 fr):=by
 intro k hk c fr e;obtain⟨cA,hA⟩:=hS.hA;simp only[List.mem_cons,List.not_mem_nil,or_false] at hk;rcases hk with rfl|rfl|rfl|rfl
 ·rw[hS.hSt] at e;simp[ρ] at e
 ·exact absurd rfl (qH0 e hS.hM)
 ·rw[hA] at e;simp[φ] at e
 ·rw[hS.dev.hC] at e;simp at e
theorem Shop.more(hS:Shop w kc db St A C N nM s D l wr nw){w':World}(hK:Kp [] w w'):Shop w' kc db St A C N nM s D l wr nw:=
 hS.turn hK (by simp) (qG3 hS.dev hK (by intro k hk;cases hk)) ⟨rfl,rfl,rfl,rfl,rfl,rfl⟩ (hK.hp hS.hSt) (hS.hM.kp hK (by simp)) hS.m4 hS.n1 hS.bg0 hS.kb hS.rd
end
variable {κ:Nat}
theorem jM2(k:Nat):∀ v∈(Builtin.zeroCells zeroCells115 k).toList,v=.int .u8 0:=by
 intro v hv;unfold Builtin.zeroCells at hv;simp only[Array.toList_map,List.mem_map] at hv;obtain⟨i,_,rfl⟩:=hv;have hlt:i % zeroCells115.size<zeroCells115.size:=Nat.mod_lt _ (by rw[zJ2];decide);rw[getElem!_pos zeroCells115 (i % zeroCells115.size) hlt];exact zY6 _ (by simp)
theorem jM1(k:Nat):Builtin.zeroCells zeroCells115 k=enc (List.replicate (k*128) 0):=by
 apply Array.ext';have h1:(Builtin.zeroCells zeroCells115 k).toList.length=k*128:=by rw[Array.length_toList,size_zeroCells,zJ2]
 have e:(Builtin.zeroCells zeroCells115 k).toList=List.replicate (k*128) (.int .u8 0):=List.eq_replicate_iff.2 ⟨h1,jM2 k⟩;rw[e];simp[enc,qD4]
def pad(l:List UInt8)(N z:Nat):List UInt8:=l.take (N*128)++List.replicate (z*128) 0
theorem zH1{l:List UInt8}{N z:Nat}(h:N*128≤l.length):(pad l N z).length=(N+z)*128:=by simp[pad];omega
theorem zH0{l:List UInt8}{N z k:Nat}(h:N*128≤l.length)(hk:k<N):qA7 (pad l N z) k=qA7 l k:=by
 unfold qA7 pad;rw[List.drop_append_of_le_length (by simp;omega),List.take_append_of_le_length (by simp;omega),List.drop_take,List.take_take]
 congr 1
 omega
theorem zK0(A N C:Nat)(calls writes:Int)(l:List UInt8)(kb:Option Addr)(kn kc:Nat)(w:World)(h:w.heap[A]?=some (φ κ N C (.slice none 0 0) calls writes))(hN:1≤N)(hN4:N≤1000)(hC:w.heap[C]?=some (.cells (enc l) 115))(hl:N*128≤l.length):
  Calls prog 37 #[.pointer (some ⟨A,0,none⟩),.slice kb kn kc] w fun e w'=>∃ A' C' z,e=.returned (.pointer (some ⟨A',0,none⟩))∧w.heap.size≤A'∧w.heap.size≤C'∧C'≠A'∧w'.heap[A']?=some (φ ((pad l N z).length / 128) N C' (.slice none 0 0) 0 0)∧w'.heap[C']?=some (.cells (enc (pad l N z)) 115)∧Kp [] w w':=by
 obtain⟨i,hi,hiz⟩:=Option.map_eq_some_iff.1 zP8;simp only[Prod.mk.injEq] at hiz;obtain⟨hz,hsz,hby⟩:=hiz;have hr:=run_append_nil (P:=prog) w 111 111 115 i (.agg zeroCells115) underlying111 hi hz ⟨C,0,none⟩ N κ (qD4 (l.take (N*128))) (by rw[hsz];simp[qD4];omega) (fun j v hj=>by
  have e:=ξ hC j;have hj2:(qD4 l)[j]?=some v:=by
   unfold qD4 at hj ⊢;rw[List.map_take,List.getElem?_take] at hj;split at hj
   ·exact hj
   ·cases hj
  rw[show (⟨C,0,none⟩:Addr).add j=⟨C,j,none⟩ by simp[Addr.add];omega,e];simpa [enc] using hj2) (by omega) (by omega) (by rw[hby];omega)
 have hge:=grownCap_ge w N 0 115;obtain⟨z,hzd⟩:∃ z,grownCap w N 0 115=N+z:=⟨grownCap w N 0 115-N,by omega⟩;rw[hzd,show N+z-N=z by omega,show (Value.agg zeroCells115).cells=zeroCells115 from rfl,jM1] at hr;have he:(qD4 (l.take (N*128))).toArray++enc (List.replicate (z*128) 0)=enc (pad l N z):=by simp[enc,qD4,pad]
 rw[he] at hr;have hAs:=ζ h;have a0:=ξ h 0;have a1:=ξ h 1;simp only[φ,zG,zH,zI] at a0 a1;have HR:Hid (N+z=(pad l N z).length / 128):=by show N+z=_;rw[zH1 hl];omega
 clear h hge hzd he hi hz hsz hby;go_enter func37,ntmps37
 go_wp2_with (at_builtin;(with_reducible refine jK9 ?_ ?_ hr ?_);rfl;rfl)
 obtain⟨w2,hw2,hC2,hA2,hK2⟩:∃ w2,w2=((w.alloc (.cells (enc (pad l N z)) 115)).alloc (φ (N+z) N w.heap.size (.slice none 0 0) 0 0)).drew∧w2.heap[w.heap.size]?=some (.cells (enc (pad l N z)) 115)∧w2.heap[w.heap.size+1]?=some (φ (N+z) N w.heap.size (.slice none 0 0) 0 0)∧Kp [] w w2:=by
  refine⟨_,rfl,θ _ (μ w _),?_,(((Kp.refl [] w).alloc _).alloc _).drew⟩;have e:=μ (w.alloc (.cells (enc (pad l N z)) 115)) (φ (N+z) N w.heap.size (.slice none 0 0) 0 0);rw[show (w.alloc (.cells (enc (pad l N z)) 115)).heap.size=w.heap.size+1 by simp] at e;exact e
 rw[φ] at hw2;rw[←hw2];clear hw2 hr
 go_loopw [21] (fun i w'=>i=.int .i64 0∧w'=w2) (fun _ _=>0)
 case atStart=>exact⟨rfl,rfl⟩
 case round=>
  obtain⟨rfl,hwr⟩:=hrel;rw[hwr];clear hwr;go_wp2;go_ret;exact⟨w.heap.size+1,w.heap.size,z,rfl,by omega,by omega,by omega,by rw[←HR.out];exact hA2,hC2,hK2⟩
def qJ3(xs:List Int):List Value:=xs.map (.int .i64)
theorem Slc.ints{w:World}{T:TypeId}{v:Value}{xs:List Int}(h:Slc w T 1 v xs.length (qJ3 xs))(hn:1≤xs.length):
  ∃ g off cap cur fr,v=.slice (some ⟨g,off,none⟩) xs.length cap∧w.heap[g]?=some (.cells cur T fr)∧∀ i (h:i<xs.length),cur[off+i]?=some (.int .i64 xs[i]):=by
 rcases h.val with⟨h0,_⟩|⟨g,off,cap,cur,fr,h1,h2,h3,h4,h5⟩
 ·omega
 ·exact⟨g,off,cap,cur,fr,h1,h4,fun i hi=>by have:=h5 i (.int .i64 xs[i]) (by simp[qJ3,hi]);simpa using this⟩
def SlV(v:Value):Prop:=∃ b n c,v=.slice b n c
theorem zV3{w:World}{base:Nat}{e:TypeId}{sz:Nat}{v:Value}{n:Nat}{xs:List Value}(h:w.ownsRow base e sz v n xs):∃ bs cp,v=.slice bs n cp:=by
 rcases h.2 with⟨h1,h2⟩|⟨g,cap,cur,h1,_⟩
 ·rw[h2];exact⟨_,_,h1⟩
 ·exact⟨_,_,h1⟩
theorem xI2{T:TypeId}(bs:Option Addr)(cp:Nat)(xs:List Int)(w:World)(hs:Slc w T 1 (.slice bs xs.length cp) xs.length (qJ3 xs))(hn:(xs.length:Int)≤9223372036854775807):
  Calls prog 38 #[.slice bs xs.length cp] w fun e w'=>∃ v,e=.returned v∧SlV v∧Kp [] w w':=by
 obtain⟨i0,hi,hz0,hz1,hz2⟩:=info_parts zP9;have HS:=zh hs;clear hs;go_enter func38,ntmps38;go_wp2_with fail
 go_loopw [3,4] (fun s i wr=>∃ (k:Nat),k≤64∧k≤xs.length∧i=.int .i64 (k:Int)∧Hid (wr.ownsRow w.heap.size 3 1 s k (qJ3 (xs.take k)))∧Hid (Kp [] w wr)) (fun _ i _=>64-(intOf i).toNat)
 case atStart=>exact⟨0,by omega,by omega,rfl,World.ownsRow_nil _ _ _ _,Kp.refl _ _⟩
 case round=>
  obtain⟨k,hk,hkn,rfl,HO,HK⟩:=hrel;by_cases hlt:k<xs.length
  ·have hjb:(k:Int)<(xs.length:Int):=by omega
   by_cases h64:k<64
   ·have hj6:(k:Int)<64:=by omega
    obtain⟨g,off,cap,cur,fr,hv,hrow,hcur⟩:=HS.out.ints (by omega);have hc:=hcur k hlt;simp only[Value.slice.injEq,true_and] at hv;obtain⟨rfl,rfl⟩:=hv;have hR:=HK.out.hp hrow;have a0:=ξ hR (off+k);rw[hc] at a0;have hgs:=ζ hR;have HTK:Hid (qJ3 (xs.take (k+1))=qJ3 (xs.take k)++[.int .i64 xs[k]]):=by
     show qJ3 (xs.take (k+1))=_;rw[List.take_succ_eq_append_getElem hlt];simp only[qJ3,List.map_append,List.map_cons,List.map_nil]
    generalize xs[k]=x at a0 HTK;clear hc hcur hrow hR
    go_wp2_with (at_builtin;refine wpList_append_own _ rfl _ _ 24 rfl w.heap.size 3 i0 (.int .i64 0) 1 8 underlying24 hi hz0 hz1 hz2 rfl (by decide) _ _ _ rfl (HO.out.alloc _) ⟨wr.heap.size,0,none⟩ 1 1 [.int .i64 x] rfl rfl ?_ (by simp[Value.oneCell']) (by unfold maxLen;omega) (by omega) (by have:=HK.out.size;simp;omega) ?_)
    ·intro j u hu
     cases j with
     | zero=>
      simp only[zH,Option.some.injEq] at hu;subst hu;simp[Addr.add]
     | succ j=>simp at hu
    ·intro v1 w1 hown1 hgr1 _;have HO1:Hid (w1.ownsRow w.heap.size 3 1 v1 (k+1) (qJ3 (xs.take (k+1)))):=by
      show World.ownsRow _ _ _ _ _ _ _;rw[HTK.out];exact hown1
     have HK1:Hid (Kp [] w w1):=(HK.out.alloc _).grown hgr1 (fun q hq=>Or.inr (qH1 HO.out q hq));clear hown1 hgr1;go_wp2;exact⟨⟨k+1,by omega,by omega,by go_num,HO1,HK1⟩,by simp[intOf];omega⟩
   ·have hj6:¬(k:Int)<64:=by omega
    obtain⟨b,c,rfl⟩:=zV3 HO.out;go_wp2;go_ret;exact⟨_,rfl,⟨b,k,c,rfl⟩,HK.out⟩
  ·have hjb:¬(k:Int)<(xs.length:Int):=by omega
   obtain⟨b,c,rfl⟩:=zV3 HO.out;go_wp2;go_ret;exact⟨_,rfl,⟨b,k,c,rfl⟩,HK.out⟩
theorem zL1{N:Nat}{l:List UInt8}:∀ (n b:Nat) (s:Int) (t:Tn n),Laid N l n b s t→∀ k∈Blk n b t,k<N
 | 0,b,s,t,h,k,hk=>by simp[Blk] at hk;have:=h.at;omega
 | n+1,b,s,t,h,k,hk=>by
  have hb:=h.at;obtain⟨h1,h2,h3,hs,h4,h5⟩:=h;simp only[Blk,List.mem_cons,List.mem_flatMap] at hk;rcases hk with rfl|⟨m,hm,hk⟩
  ·omega
  ·obtain⟨i,hi,rfl⟩:=List.getElem_of_mem hm;have hr:=(h4.2 i (by rw[h4.1];exact hi) hi).2
   cases hx:(η t)[i].ref with
   | none=>rw[hx] at hk;cases hk
   | some x=>
    rw[hx] at hk hr;exact zL1 n x.1 x.2 _ hr.2.2.2 k hk
theorem Lie.pad{N z:Nat}{l:List UInt8}{rb rs:Int}{r:Root}(h:Lie N l rb rs r)(hl:N*128≤l.length):Lie N (pad l N z) rb rs r:=h.move fun k hk=>zH0 hl (by
 cases r with
 | none=>cases hk
 | «at» n L=>
  obtain⟨b,rfl,h2,h3⟩:=h;have hk':k∈qH2 n L:=hk;rw[qO8 h2] at hk';exact zL1 n b rs L.sub h3 k hk')
theorem zO6(A n C:Nat)(calls writes:Int)(l:List UInt8)(N rb rs:Int)(r:Root)(w:World)(h:w.heap[A]?=some (φ (l.length / 128) n C (.slice none 0 0) calls writes))(h0:0≤calls)(h1:calls≤999999000)
  (h8:8≤n) (h400:n≤400) (hC:w.heap[C]?=some (.cells (enc l) 115)) (hs:n*128≤l.length) (hAC:C≠A) (hh:Heads l N rb rs) (hlie:Lie n l rb rs r) (hg:RGood r) (hc:r.cont.length≤300) (hN:0≤N):
  Calls prog 39 #[.pointer (some ⟨A,0,none⟩)] w fun e w'=>∃ v,e=.returned (.tuple #[v,.bool true])∧OPA w' w.heap.size v (qC4 r.cont)∧(∃ c,w'.heap[A]?=some (φ (l.length / 128) n C (.slice none 0 0) c writes))∧w'.heap[C]?=some (.cells (enc l) 115)∧Kp [A,C] w w':=by
 have HO:Hid (Calls prog 43 #[.pointer (some ⟨A,0,none⟩)] w fun e w'=>∃ V M St Db,e=.returned (.tuple #[.pointer (some ⟨Db,0,none⟩),.nilIface])∧w.heap.size≤V∧w.heap.size≤M∧w.heap.size≤St∧w.heap.size≤Db∧Shop w' 300 Db St A C n 0 ⟨V,M,N,rb,rs,qC6 r,false,0,0⟩ emp l writes r∧Kp [A,C] w w'):=jC3 A n C 300 calls writes l N rb rs r w h h0 h1 h8 h400 hC hs hAC hh hlie hg hc (by omega) hN;have hAs:=ζ h;have hCs:=ζ hC;clear h hC hh hlie hg;go_enter func39,ntmps39;go_wp2_with fail;refine (show Calls _ _ _ _ _ from HO.out).mono ?_;rintro e w1 ⟨V,M,St,Db,rfl,hV,hM,hSt,hDb,hS1,hK1⟩;have HN:Hid (Calls prog 30 #[.pointer (some ⟨Db,0,none⟩)] w1 fun e w'=>∃ v,e=.returned (.tuple #[v,.bool true])∧OPA w' w1.heap.size v (qC4 r.cont)∧(∃ c,w'.heap[A]?=some (φ (l.length / 128) n C (.slice none 0 0) c writes))∧w'.heap[C]?=some (.cells (enc l) 115)∧Kp [St,M,A] w1 w'):=by
  refine (zQ8 hS1 (by show 0<4;omega) (by omega) (by show (0:Int)≤_;omega) (by show (0:Int)≤0;omega)).mono ?_;rintro e w' ⟨v,e1,e2,e3,e4⟩;exact⟨v,e1,e2,e3.hA,e3.dev.hC,e4⟩
 have HK1:=zh hK1;have hs1:=hK1.size;clear hS1 hK1 HO;go_wp2_with fail;refine (show Calls _ _ _ _ _ from HN.out).mono ?_;rintro e w2 ⟨v,rfl,ho,hA2,hC2,hK2⟩;have HE:Hid (OPA w2 w.heap.size v (qC4 r.cont)∧(∃ c,w2.heap[A]?=some (φ (l.length / 128) n C (.slice none 0 0) c writes))∧w2.heap[C]?=some (.cells (enc l) 115)∧Kp [A,C] w w2):=⟨qH9 ho (by omega),hA2,hC2,HK1.out.trans hK2 (by intro i hi hlt;simp at hi ⊢;omega)⟩;clear ho hA2 hC2 hK2 HN HK1;go_wp2
 go_ret2
 exact⟨v,rfl,HE.out⟩
theorem zZ8(ps:List KV):(qC4 ps).length≤ps.length:=by
 unfold qC4 qF4;rw[List.length_take];have:=List.length_filter_le (inR ⟨#[]⟩ qQ6) ps;omega
theorem xG5{T:TypeId}(a b:Int)(bs:Option Addr)(cp:Nat)(xs:List Int)(ha0:-9223372036854775808≤a)(ha1:a≤9223372036854775807)(hb0:-9223372036854775808≤b)(hb1:b≤9223372036854775807)(w:World)(hs:Slc w T 1 (.slice bs xs.length cp) xs.length (qJ3 xs))(hn:(xs.length:Int)≤9223372036854775807):
  Calls prog 14 #[.int .i64 a,.int .i64 b,.slice bs xs.length cp] w fun e w'=>e=.returned (.bool true)∧Kp [] w w':=by
 have HSL:Hid (Slc w T 1 (.slice bs xs.length cp) xs.length (qJ3 xs)∧(xs.length:Int)≤9223372036854775807):=⟨hs,hn⟩;obtain⟨xl,hxl⟩:∃ xl,xl=xs.length:=⟨_,rfl⟩;have HXL:=zh hxl;rw[←hxl];clear hs hn hxl;have HB:Hid (Calls prog 18 #[.int .i64 150,.int .i64 a] w fun e w'=>∃ db St A C s l wr nw v,e=.returned (.tuple #[.pointer (some ⟨A,0,none⟩),.pointer (some ⟨db,0,none⟩),v])∧Shop w' 300 db St A C 150 1 s emp l wr nw∧OPA w' w.heap.size v (qC4 nw.cont)∧s.wr=0∧s.bg=2∧s.N≤10∧nw.cont.length≤43∧(⟨qF7,qM7⟩:KV)∈nw.cont∧w.heap.size≤A∧w.heap.size≤C∧w.heap.size≤St∧w.heap.size≤db∧w.heap.size≤s.M∧Kp [] w w'):=xP8 150 300 (by omega) (by omega) (by omega) (by omega) a ha0 ha1 w;go_enter func14,ntmps14;go_wp2_with fail;refine (show Calls _ _ _ _ _ from HB.out).mono ?_;rintro e w1 ⟨db,St,A,C,s,l,wr,nw,v,rfl,hS1,ho1,hwr,hbg,hsN,hnw,_,gA,gC,gSt,gdb,gM,hK1⟩;have HS1:=zh hS1;obtain⟨ob,oc,rfl⟩:=qL6 ho1;obtain⟨sl,hsl⟩:∃ sl,sl=(qC4 nw.cont).length:=⟨_,rfl⟩;rw[←hsl] at ho1 ⊢;have HL:=zh hsl;have HO1:=zh ho1;have HK1:=zh hK1;clear hS1 ho1 hK1 HB hsl;go_wp2_with fail;refine (zE2 b 30 hb0 hb1 (by omega) (by omega) w1).mono ?_;rintro e w1' ⟨⟨k,rfl,hk0,hk40⟩,hw⟩;rw[hw];clear hw w1';obtain⟨m,hm⟩:∃ m:Nat,(m:Int)=1+k:=⟨(1+k).toNat,by omega⟩;have HW:Hid (Calls prog 19 #[.pointer (some ⟨db,0,none⟩),.int .i64 b,.int .i64 (1+k)] w1 fun e w'=>∃ x v,e=.returned (.tuple #[.pointer (some ⟨x,0,none⟩),v])∧(∃ b n c,v=.slice b n c)∧Kp [St,A] w1 w'∧Shop w' 300 db St A C 150 1 s.wrote emp l wr nw):=by
  rw[←hm];refine (zQ9 HS1.out hwr (by omega) b hb0 hb1 m (by omega) (fun r' hg hz=>?_)).mono ?_
  ·have h1:=qV0 hg;have h2:=HS1.out.bl1;omega
  ·rintro e w' ⟨x,t,r,v,e1,_,e2,_,_,_,e3,e4⟩;obtain⟨ob,oc,rfl⟩:=qL6 e2;exact⟨x,_,e1,⟨_,_,_,rfl⟩,e3,e4.shop⟩
 clear hm;go_wp2_with fail;refine (show Calls _ _ _ _ _ from HW.out).mono ?_;rintro e w2 ⟨x,v2,rfl,⟨ob2,on2,oc2,rfl⟩,hK2,hS2⟩;have hs1:=HK1.out.size;have HO2:Hid (OPA w2 w.heap.size (.slice ob sl oc) (qC4 nw.cont)):=OPA.keep HO1.out hK2 (fun k hk=>HS1.out.nopair k (by simp at hk ⊢;rcases hk with h | h<;>simp[h]));have HK2:Hid (Kp [] w w2):=HK1.out.trans hK2 (by intro i hi hlt;simp at hi;omega);have HS2:=zh hS2;have HF:Hid (Calls prog 38 #[.slice bs xl cp] w2 fun e w'=>∃ v,e=.returned v∧SlV v∧Kp [] w2 w'):=by
  have h:=xI2 bs cp xs w2 (HSL.out.1.keep0 HK2.out) HSL.out.2;rw[←HXL.out] at h;exact h
 clear hK2 hS2 HW HO1;go_wp2_with fail;refine (show Calls _ _ _ _ _ from HF.out).mono ?_;rintro e w3 ⟨v3,rfl,⟨fb,fn,fc,rfl⟩,hK3⟩;have HS3:Hid (Shop w3 300 db St A C 150 1 s.wrote emp l wr nw):=HS2.out.more hK3;have HO3:Hid (OPA w3 w.heap.size (.slice ob sl oc) (qC4 nw.cont)):=OPA.keep HO2.out hK3 (by simp);have HK3:Hid (Kp [] w w3):=HK2.out.tr hK3;have HAF:Hid (Calls prog 37 #[.pointer (some ⟨A,0,none⟩),.slice fb fn fc] w3 fun e w'=>∃ A' C' z,e=.returned (.pointer (some ⟨A',0,none⟩))∧w3.heap.size≤A'∧w3.heap.size≤C'∧C'≠A'∧w'.heap[A']?=some (φ ((pad l 150 z).length / 128) 150 C' (.slice none 0 0) 0 0)∧w'.heap[C']?=some (.cells (enc (pad l 150 z)) 115)∧Kp [] w3 w'):=by
  obtain⟨c,hA⟩:=HS3.out.hA;exact zK0 A 150 C c wr l fb fn fc w3 hA (by omega) (by omega) HS3.out.dev.hC HS3.out.len
 clear hK3 HF HS2 HO2 HK2;go_wp2_with fail;refine (show Calls _ _ _ _ _ from HAF.out).mono ?_;rintro e w4 ⟨A4,C4,z4,rfl,gA4,gC4,hne4,hA4,hC4,hK4⟩;have hs3:=HK3.out.size;have HPD:Hid (150*128≤(pad l 150 z4).length∧Heads (pad l 150 z4) s.N s.rb s.rs∧Lie 150 (pad l 150 z4) s.rb s.rs nw∧RGood nw∧0≤s.N):=⟨by rw[zH1 HS3.out.len];omega,Heads.move HS3.out.heads (fun k hk=>zH0 HS3.out.len (by omega)),Lie.pad HS3.out.lie HS3.out.len,HS3.out.good,HS3.out.sN0⟩;have HFD:Hid (Calls prog 39 #[.pointer (some ⟨A4,0,none⟩)] w4 fun e w'=>∃ v,e=.returned (.tuple #[v,.bool true])∧OPA w' w4.heap.size v (qC4 nw.cont)∧(∃ c,w'.heap[A4]?=some (φ ((pad l 150 z4).length / 128) 150 C4 (.slice none 0 0) c 0))∧w'.heap[C4]?=some (.cells (enc (pad l 150 z4)) 115)∧Kp [A4,C4] w4 w'):=zO6 A4 150 C4 0 0 (pad l 150 z4) s.N s.rb s.rs nw w4 hA4 (by omega) (by omega) (by omega) (by omega) hC4 HPD.out.1 hne4 HPD.out.2.1 HPD.out.2.2.1 HPD.out.2.2.2.1 (by omega) HPD.out.2.2.2.2;have HO4:Hid (OPA w4 w.heap.size (.slice ob sl oc) (qC4 nw.cont)):=OPA.keep HO3.out hK4 (by simp);have HK4:Hid (Kp [] w w4):=HK3.out.tr hK4;have HNP:Hid (∀ k∈[A4,C4],∀ c fr,w4.heap[k]?≠some (.cells c 42 fr)):=by
  show ∀ k∈[A4,C4],∀ c fr,w4.heap[k]?≠some (.cells c 42 fr);intro k hk c fr e;simp only[List.mem_cons,List.not_mem_nil,or_false] at hk;rcases hk with rfl|rfl
  ·rw[hA4] at e;simp[φ] at e
  ·rw[hC4] at e;simp at e
 clear hA4 hC4 hK4 HAF HO3 HS3;go_wp2_with fail;refine (show Calls _ _ _ _ _ from HFD.out).mono ?_;rintro e w5 ⟨v5,rfl,ho5,⟨c5,hA5⟩,hC5,hK5⟩;have HO5:Hid (OPA w5 w.heap.size (.slice ob sl oc) (qC4 nw.cont)):=OPA.keep HO4.out hK5 HNP.out;have hs4:=HK4.out.size;have HK5:Hid (Kp [] w w5):=HK4.out.trans hK5 (by intro i hi hlt;simp at hi;omega);have hal:(qC4 nw.cont).length≤1000000:=by have:=zZ8 nw.cont;omega
 have HP5:Hid (OPA w5 w.heap.size v5 (qC4 nw.cont)):=qH9 ho5 (by omega);have HSM:Hid (Calls prog 33 #[.slice ob sl oc,v5] w5 fun e w'=>e=.returned (.bool true)∧Kp [] w5 w'):=zE3 _ _ _ _ (qC4 nw.cont) w5 HO5.out ho5 hal;have HD5:Hid (w5.heap[A4]?=some (φ ((pad l 150 z4).length / 128) 150 C4 (.slice none 0 0) c5 0)∧w5.heap[C4]?=some (.cells (enc (pad l 150 z4)) 115)):=⟨hA5,hC5⟩;obtain⟨ob5,oc5,rfl⟩:=qL6 ho5;rw[←HL.out] at HSM HP5 ⊢;have HAL:=zh hal;clear ho5 hA5 hC5 hK5 HFD HO4 HK4 HNP hal HO5;go_wp2_with fail;refine (show Calls _ _ _ _ _ from HSM.out).mono ?_;rintro e w6 ⟨rfl,hK6⟩;have HAF:Hid (Calls prog 37 #[.pointer (some ⟨A4,0,none⟩),.slice none 0 0] w6 fun e w'=>∃ A' C' z,e=.returned (.pointer (some ⟨A',0,none⟩))∧w6.heap.size≤A'∧w6.heap.size≤C'∧C'≠A'∧w'.heap[A']?=some (φ ((pad (pad l 150 z4) 150 z).length / 128) 150 C' (.slice none 0 0) 0 0)∧w'.heap[C']?=some (.cells (enc (pad (pad l 150 z4) 150 z)) 115)∧Kp [] w6 w'):=zK0 A4 150 C4 c5 0 (pad l 150 z4) none 0 0 w6 (hK6.hp HD5.out.1) (by omega) (by omega) (hK6.hp HD5.out.2) HPD.out.1;have HP6:Hid (OPA w6 w.heap.size (.slice ob5 sl oc5) (qC4 nw.cont)):=OPA.keep HP5.out hK6 (by simp);have HK6:Hid (Kp [] w w6):=HK5.out.tr hK6;clear hK6 HSM HP5 HK5 HD5;go_wp2_with fail;refine (show Calls _ _ _ _ _ from HAF.out).mono ?_;rintro e w7 ⟨A7,C7,z7,rfl,gA7,gC7,hne7,hA7,hC7,hK7⟩;have HFD:Hid (Calls prog 39 #[.pointer (some ⟨A7,0,none⟩)] w7 fun e w'=>∃ v,e=.returned (.tuple #[v,.bool true])∧OPA w' w7.heap.size v (qC4 nw.cont)∧(∃ c,w'.heap[A7]?=some (φ ((pad (pad l 150 z4) 150 z7).length / 128) 150 C7 (.slice none 0 0) c 0))∧w'.heap[C7]?=some (.cells (enc (pad (pad l 150 z4) 150 z7)) 115)∧Kp [A7,C7] w7 w'):=zO6 A7 150 C7 0 0 (pad (pad l 150 z4) 150 z7) s.N s.rb s.rs nw w7 hA7 (by omega) (by omega) (by omega) (by omega) hC7 (by rw[zH1 HPD.out.1];omega) hne7 (Heads.move HPD.out.2.1 (fun k hk=>zH0 HPD.out.1 (by omega))) (Lie.pad HPD.out.2.2.1 HPD.out.1) HPD.out.2.2.2.1 (by omega) HPD.out.2.2.2.2;have HP7:Hid (OPA w7 w.heap.size (.slice ob5 sl oc5) (qC4 nw.cont)):=OPA.keep HP6.out hK7 (by simp);have hs6:=HK6.out.size;have HK7:Hid (Kp [] w w7):=HK6.out.tr hK7;have HNP:Hid (∀ k∈[A7,C7],∀ c fr,w7.heap[k]?≠some (.cells c 42 fr)):=by
  show ∀ k∈[A7,C7],∀ c fr,w7.heap[k]?≠some (.cells c 42 fr);intro k hk c fr e;simp only[List.mem_cons,List.not_mem_nil,or_false] at hk;rcases hk with rfl|rfl
  ·rw[hA7] at e;simp[φ] at e
  ·rw[hC7] at e;simp at e
 clear hA7 hC7 hK7 HAF HP6 HK6;go_wp2_with fail;refine (show Calls _ _ _ _ _ from HFD.out).mono ?_;rintro e w8 ⟨v8,rfl,ho8,_,_,hK8⟩;have HP8:Hid (OPA w8 w.heap.size (.slice ob5 sl oc5) (qC4 nw.cont)):=OPA.keep HP7.out hK8 HNP.out;have hs7:=HK7.out.size;have HK8:Hid (Kp [] w w8):=HK7.out.trans hK8 (by intro i hi hlt;simp at hi;omega);have HSM:Hid (Calls prog 33 #[.slice ob5 sl oc5,v8] w8 fun e w'=>e=.returned (.bool true)∧Kp [] w8 w'):=zE3 _ _ _ _ (qC4 nw.cont) w8 HP8.out ho8 HAL.out;obtain⟨ob8,oc8,rfl⟩:=qL6 ho8;rw[←HL.out] at HSM ⊢;clear ho8 hK8 HFD HP7 HK7 HNP HP8;go_wp2_with fail;refine (show Calls _ _ _ _ _ from HSM.out).mono ?_;rintro e w9 ⟨rfl,hK9⟩;have HK9:Hid (Kp [] w w9):=HK8.out.tr hK9;clear hK9 HSM HK8;go_wp2;go_ret;exact⟨rfl,HK9.out⟩
end Go.Proofs.YtdohpenfkdckiaaGreatDoor
namespace Go.Proofs.YtdohpenfkdckiaaGreatDoor
open Go.Proofs.Tryz
open Go.ChangeShapes Go.WideShapes Go.RowKit Go.Deep
theorem zY3{n:Int}(h:(Lit.int .i64 n).wf=true):-9223372036854775808≤n∧n≤9223372036854775807:=by
 simp[Lit.wf,IntKind.min,IntKind.max,IntKind.bits,IntKind.signed] at h;omega
theorem zR0:laidOutB prog=true:=by kernel_rfl
theorem jE8:ownKnob prog.godebug=none:=by kernel_rfl
theorem jE9(os:Os)(H:Type)(enc:TypeId × Value→H):
  ∃ (w:World) (tape:Tape) (i:Input),w.os=os∧(w.forCall tape i).Shaped prog∧i.vars=[]∧Input.okWide prog (w.forCall tape i) .any w.heap.size 14 i∧
   ((Rows.durableSpec.pre enc prog f14 [] false (w.forCall tape i).memory i.args∧laidMetH prog Rows.durableRow.laid (w.forCall tape i).memory)∧sizedMet enc prog f14 (OpenSpec.ofChange Rows.durableSpec) false (w.forCall tape i).memory i.args)∧({}:Assume).holds prog (lone (Frame.enter prog 14 i.args .normal) [] (w.forCall tape i)):=
 ChangeSpec.witness_at (enc:=enc) (C:=checked) (os:=os) (X:=fun w _=>laidMetH prog Rows.durableRow.laid w) false (World.laidAll prog os (Rows.durableRow.laid.filter fun x=>x.2.handleName?.isNone)) #[.int .i64 0,.int .i64 0,.slice none 0 0] 8 rfl (by kernel_rfl) (by kernel_rfl) (by kernel_rfl) (by kernel_rfl) (by kernel_rfl) (laidMetH_of_parts (laidMet_of_run' 8 (by kernel_rfl) (by kernel_rfl)) (by kernel_rfl))
end Go.Proofs.YtdohpenfkdckiaaGreatDoor
namespace Go.Proofs.YtdohpenfkdckiaaGreatDoor
open Go.Proofs.Tryz
open Go Go.ChangeShapes Go.WideShapes Go.RowKit Go.Deep
theorem xD4:prog.cellsOf 3=1:=by kernel_rfl
theorem jC4{H:Type}{enc:TypeId × Value→H}{W:World}{fuel:Nat}{c0:Value}{x:DataW H × List MemPlace}(h:DataW.trod enc prog W 0 (fun _=>true) true fuel 24 [c0]=some x):
  ∃ (T:TypeId) (bs:Option Addr) (cp:Nat) (xs:List Int),c0=.slice bs xs.length cp∧Slc W T 1 (.slice bs xs.length cp) xs.length (qJ3 xs)∧(xs.length:Int)≤9223372036854775807:=by
 rcases open_slice underlying24 h with⟨hc,_⟩|⟨a,len,cap,m,k,D,Pl,hc,_,hl,hmx,hmm,_,hall⟩
 ·simp only[List.cons.injEq,and_true] at hc;exact⟨0,none,0,[],hc,⟨rfl,.inl ⟨rfl,none,0,rfl,fun _=>rfl⟩⟩,by simp⟩
 ·simp only[List.cons.injEq,and_true] at hc;simp only[if_true] at hmm;rw[xD4] at hall;obtain⟨f,hfs⟩:=choose_lt (n:=len) (p:=fun i (o:Int)=>W.cell? (a.add (i*1))=some (.int .i64 o)) (fun i hi=>by
   obtain⟨cs',h1,h2⟩:=hall i (by omega);obtain⟨_,hlen,hcell⟩:=World.cells?_some h1;obtain⟨k0,e0,_,f0⟩:=DataW.trod_int underlying3 h2;subst e0;exact⟨k0,by simpa [Addr.add] using hcell 0 (by omega)⟩)
  have hl2:((List.range len).map f).length=len:=by simp
  have hmx2:(len:Int)≤9223372036854775807:=by unfold maxLen at hmx;omega
  by_cases h0:len=0
  ·subst h0;exact⟨0,some a,cap,[],by simpa using hc,⟨rfl,.inl ⟨rfl,some a,cap,rfl,fun h=>by cases h⟩⟩,by simp⟩
  ·obtain⟨b,off,spot⟩:=a;have g0:=hfs 0 (by omega);have hspot:spot=none:=by simpa [Addr.add] using World.cell?_spot (v:=.int .i64 (f 0)) g0
   subst hspot;obtain⟨cur,T,fr,hb⟩:∃ cur T fr,W.heap[b]?=some (.cells cur T fr):=by
    have h1:=g0;unfold World.cell? at h1;simp only[Addr.add] at h1;split at h1
    ·exact⟨_,_,_,by assumption⟩
    ·cases h1
   refine⟨T,some ⟨b,off,none⟩,cap,(List.range len).map f,by rw[hl2];exact hc,?_,by rw[hl2];exact hmx2⟩;refine⟨by simp[qJ3],.inr ⟨b,off,cap,cur,fr,rfl,by rw[hl2];omega,by rw[hl2];exact hl,hb,fun j u hu=>?_⟩⟩;have hj:j<len:=by
    have:=(List.getElem?_eq_some_iff.1 hu).1;simpa [qJ3] using this
   have e1:u=.int .i64 (f j):=by simpa [qJ3,hj] using hu.symm
   have h2:=hfs j hj;rw[qL1,ξ hb,Nat.mul_one] at h2;subst e1;exact h2
theorem xG4(os:Os)(started:os.Started)(H:Type)(enc:TypeId × Value→H):
  ReturnsInHanded {} checked os 14 .any (fun w args=>(Rows.durableSpec.pre enc prog f14 [] false w args∧laidMetH prog Rows.durableRow.laid w)∧sizedMet enc prog f14 (OpenSpec.ofChange Rows.durableSpec) false w args)
   (Rows.durableSpec.post enc prog f14 false true false false):=by
 refine returnsInHanded_of_change_and (C:=checked) (X:=fun w _=>laidMetH prog Rows.durableRow.laid w) (fun _ _ _ hh h=>h.of_heap hh) jE8 started (by kernel_rfl) func14 (jE9 os H enc) ?_;intro W base args ds gs before hval0 hW _ _ hL _;have hval:∀ (j:Nat) t v,f14.params[j]?=some t→args[j]?=some v→Value.okWide prog W .any base t v:=hval0;have hW':=hW;obtain⟨p,q,hA0,hV,rfl,_,_⟩:=hW;have hA:DataW.TrodAll enc prog W 0 (fun _=>true) true f14.params.toList args.toList ds p:=hA0;rw[params14] at hA hval;obtain⟨v0,v1,v2,d0,d1,d2,p0,p1,p2,rfl,rfl,rfl,h0,h1,h2⟩:=trodAll_three hA;obtain⟨rfl,rfl⟩:=trodVars_none hV;clear hA0 hval0;simp only[List.append_nil] at hW';obtain⟨a,rfl,rfl,rfl,wa⟩:=open_int underlying3 (hval 0 3 v0 rfl rfl) h0;obtain⟨b,rfl,rfl,rfl,wb⟩:=open_int underlying3 (hval 1 3 v1 rfl rfl) h1;have hlt:∀ x∈p2,x.block<W.heap.size:=fun x hx=>by simpa using hW'.lt x (by simpa using hx)
 obtain⟨a0,len,cap,rfl⟩:=okWide_slice underlying24 (hval 2 24 v2 rfl rfl);have h2k:=h2;obtain⟨fuel,hf⟩:=h2;obtain⟨T,bs,cp,xs,hc,hS,hxs⟩:=jC4 (c0:=.slice a0 len cap) (by simpa [Value.cells] using hf);cases hc;have e1:Rows.durableSpec.fn H ([.lit (.int .i64 a),.lit (.int .i64 b),d2]++[])={ results:=[.lit (.bool true)],args:=[.lit (.int .i64 a),.lit (.int .i64 b),d2] }:=by simp[Rows.durableSpec]
 obtain⟨ha0,ha1⟩:=zY3 wa;obtain⟨hb0,hb1⟩:=zY3 wb;refine (xG5 a b _ _ xs ha0 ha1 hb0 hb1 W hS hxs).mono fun e W' ⟨he,hK⟩=>?_;subst he;have hb:Below W.heap.size W W':=hK.below (Nat.le_refl _) (by simp);refine⟨_,rfl,_,_,_,[],p2,[],hW',?_,?_,?_,hb.frame _,fun h=>by cases h⟩
 ·rw[e1];exact trodAll_mk1 (shut_bool underlying4 true)
 ·rw[e1];exact trodAll_mk3 (shut_int underlying3 wa) (shut_int underlying3 wb) (Below.trod zR0 (by kernel_rfl) (of_decide_eq_true (by kernel_rfl)) h2k hb hlt)
 ·rw[e1];rfl
end Go.Proofs.YtdohpenfkdckiaaGreatDoor
