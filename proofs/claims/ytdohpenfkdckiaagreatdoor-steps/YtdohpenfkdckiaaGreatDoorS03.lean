import Derived.Test.YtdohpenfkdckiaaGreatDoorS02
import Derived.Test.YtdohpenfkdckiaaGreatDoorRows
import Derived.ChangeSame
import Derived.ChangeVars
import Derived.JoinedOf
import Derived.RowKit
import Derived.LaidLaws
import Derived.LaidHandle
import Derived.Deep.Slices
import Derived.Stop.Joined
import Derived.Lay
import Derived.ChangeMaps5
set_option linter.all false
set_option maxRecDepth 100000
set_option maxHeartbeats 20000000
namespace Go.Proofs.YtdohpenfkdckiaaGreatDoor
open Go.Proofs.Tryz
open Go.RowKit
section
variable {w0 w:World} {kc db St A C N nM:Nat} {s:Sto} {D:DataW Unit} {l:List UInt8} {wr:Int} {nw:Root} {x:Nat} {t:Tx} {r:Root} {nr:Int} {Cb Pb g off:Nat} {cur:Array Value} {fr:Nat × Nat} {i:Int}
theorem Crs.more{key:ByteArray}{since:Int}(h:Crs w kc db St A C N nM s D l wr nw x t r nr Cb key since){w':World}(hK:Kp [] w w'):Crs w' kc db St A C N nM s D l wr nw x t r nr Cb key since:=
 ⟨h.wrt.other (h.wrt.shop.more hK) (hK.mono (by simp)) rfl,hK.hp h.hC⟩
theorem Stp.more(h:Stp w0 w db St A C nM s D l wr nw x t r nr Cb Pb g off cur fr i){w':World}(hK:Kp [] w w'):Stp w0 w' db St A C nM s D l wr nw x t r nr Cb Pb g off cur fr i:=
 { h with crs:=h.crs.more hK,hP:=hK.hp h.hP,row:=hK.hp h.row,kp:=h.kp.tr hK }
theorem Stp.stay(h:Stp w0 w db St A C nM s D l wr nw x t r nr Cb Pb g off cur fr i){w':World}(hc:Crs w' 300 db St A C 150 nM s D l wr nw x t r nr Cb (pkv (qB8 r.cont i)).k t.ch)(hK:Kp [St,A] w w'):Stp w0 w' db St A C nM s D l wr nw x t r nr Cb Pb g off cur fr i:=by
 obtain⟨cA,hA⟩:=h.crs.wrt.shop.hA;obtain⟨l1,l2,l3,l4⟩:=h.low;have hs:=h.kp.size;exact { h with crs:=hc,hP:=hK.heap h.hP (by simp;exact⟨qA7 h.hP h.crs.wrt.shop.hSt (by decide),qA7 h.hP hA (by decide)⟩),row:=hK.heap h.row (by simp;exact⟨qA7 h.row h.crs.wrt.shop.hSt (by decide),qA7 h.row hA (by decide)⟩),kp:=h.kp.trans hK (by intro i hi hlt;simp at hi;omega) }
theorem jN3{ps:List KV}{k:ByteArray}{i:Nat}(hi:i<ps.length)(h:i<qB2 ps k):kl ps[i].k k=true:=by
 have:=List.not_of_lt_findIdx h;simpa using this
theorem jN2{ps:List KV}{k:ByteArray}(hi:qB2 ps k<ps.length):kl ps[qB2 ps k].k k=false:=by
 have h:(fun q:KV=>!kl q.k k) (ps[qB2 ps k])=true:=List.findIdx_getElem (p:=fun q:KV=>!kl q.k k) (w:=hi);simpa using h
theorem zF6{ps:List KV}{j:Nat}:(qB8 ps (j:Int)).isSome=decide (j<ps.length):=by
 by_cases h:j<ps.length
 ·rw[qP8 h];simp[h]
 ·rw[qZ4 (by omega)];simp[h]
theorem Crs.delete{kc N:Nat}{key:ByteArray}{since:Int}(h:Crs w kc db St A C N nM s D l wr nw x t r nr Cb key since)(k:ByteArray)(hk:qM2 k=true)(hc:t.ch≤99999999)(hz:r.cont.length≤50000):
  Calls prog 28 #[.pointer (some ⟨x,0,none⟩),.string k] w fun e w'=>e=.returned .nilIface∧∃ t' r',t'.ch=t.ch+1∧Crs w' kc db St A C N nM s D l wr nw x t' r' nr Cb key since∧Kp [St,x,A] w w':=by
 refine (zU0 h.wrt.shop.E x A N t s r k w h.wrt.live h.wrt.wrt hk).mono ?_;rintro e w' ⟨rfl,h',hF⟩;obtain⟨g1,g2⟩:=zU1 (k:=k) h.wrt.live.good;have hl:=h.wrt.live.next hF g1 (by rw[g2];have:=zP2 k r.cont;omega) hc;obtain⟨h1,h2⟩:=h.wrt.turn hl rfl rfl rfl hF.kp;obtain⟨cA,hA⟩:=h.wrt.shop.hA;exact⟨rfl,_,_,rfl,⟨h1,h2.heap h.hC (by simp;exact⟨qA7 h.hC h.wrt.shop.hSt (by decide),qA7 h.hC h.wrt.live.hx (by decide),qA7 h.hC hA (by decide)⟩)⟩,h2⟩
end
theorem jN7(a b:Int)(k:ByteArray)(ha0:-9223372036854775808≤a)(ha1:a≤9223372036854775807)(hb0:-9223372036854775808≤b)(hb1:b≤9223372036854775807)(w:World)(h0:0<w.heap.size)(hg:w.cell? ⟨0,0,none⟩=some qK2):
  Calls prog 11 #[.int .i64 a,.int .i64 b,.string k] w fun e w'=>e=.returned (.bool true)∧Kp [] w w':=by
 have HG:Hid (0<w.heap.size∧w.cell? ⟨0,0,none⟩=some qK2):=⟨h0,hg⟩;clear h0 hg;have HB:Hid (Calls prog 18 #[.int .i64 150,.int .i64 a] w fun e w'=>∃ db St A C s l wr nw v,e=.returned (.tuple #[.pointer (some ⟨A,0,none⟩),.pointer (some ⟨db,0,none⟩),v])∧Shop w' 300 db St A C 150 1 s emp l wr nw∧OPA w' w.heap.size v (qC0 nw.cont)∧s.wr=0∧s.bg=2∧s.N≤10∧nw.cont.length≤43∧(⟨qF1,qJ7⟩:KV)∈nw.cont∧w.heap.size≤A∧w.heap.size≤C∧w.heap.size≤St∧w.heap.size≤db∧w.heap.size≤s.M∧Kp [] w w'):=zX2 150 300 (by omega) (by omega) (by omega) (by omega) a ha0 ha1 w;go_enter func11,ntmps11;go_wp2_with fail;refine (show Calls _ _ _ _ _ from HB.out).mono ?_;rintro e w1 ⟨db,St,A,C,s,l,wr',nw,v,rfl,hS1,ho1,hwr,hbg,hsN,hnw,hin,gA,gC,gSt,gdb,gM,hK1⟩;have HS1:=zh hS1;obtain⟨ob,oc,rfl⟩:=qL2 ho1;have HK1:=zh hK1;have HIN:=zh hin;clear hS1 ho1 hK1 HB hin;generalize (qC0 nw.cont).length=sl0;go_wp2_with fail;refine (qZ9 b 40 hb0 hb1 (by omega) (by omega) w1).mono ?_;rintro e w1' ⟨⟨q,rfl,hq0,hq40⟩,hw⟩;rw[hw];clear hw w1';obtain⟨m,hm⟩:∃ m:Nat,(m:Int)=1+q:=⟨(1+q).toNat,by omega⟩;have HW:Hid (Calls prog 19 #[.pointer (some ⟨db,0,none⟩),.int .i64 b,.int .i64 (1+q)] w1 fun e w'=>∃ x t r v,e=.returned (.tuple #[.pointer (some ⟨x,0,none⟩),v])∧w1.heap.size≤x∧OPA w' w1.heap.size v (qC0 r.cont)∧r.cont.length≤nw.cont.length+m∧t.ch≤(m:Int)∧(∀ p∈nw.cont,p.k=qF1→p∈r.cont)∧Kp [St,A] w1 w'∧Wrt w' 300 db St A C 150 1 s.wrote emp l wr' nw x t r (s.bg+1)):=by
  rw[←hm];refine zG1 HS1.out hwr (by omega) b hb0 hb1 m (by omega) (fun r' hg hz=>?_);have h1:=qS6 hg;have h2:=HS1.out.bl1;omega
 have HM:=zh hm;clear hm;go_wp2_with fail;refine (show Calls _ _ _ _ _ from HW.out).mono ?_;rintro e w2 ⟨x,t,r,v2,rfl,hx2,ho2,hr2,hc2,hkp2,hK2,hW2⟩;have hs1:=HK1.out.size;have hm:=HM.out;have hrin:=hkp2 _ HIN.out rfl;have hrl:1≤r.cont.length:=List.length_pos_of_mem hrin;rw[xJ1 hW2.live.good (by omega)] at ho2;obtain⟨g,off,cp,cur,fr,e1,hcp,hrow,hat⟩:=(qH1 ho2).pairT hrl;subst e1;have HK2:Hid (Kp [] w w2):=HK1.out.trans hK2 (by intro i hi hlt;simp at hi;omega);have hrl8:r.cont.length≤83:=by omega
 obtain⟨ln,hln⟩:∃ ln,ln=r.cont.length:=⟨_,rfl⟩;rw[←hln] at hrl hrl8 hcp ⊢;have HLN:=zh hln;have HCU:=Hid.mk' hW2.cursor;have HROW:Hid (w2.heap[g]?=some (.cells cur 42 fr)∧∀ i (h:i<r.cont.length),cur[off+i*2]?=some (.string r.cont[i].k)∧cur[off+i*2+1]?=some (.string r.cont[i].v)):=⟨hrow,hat⟩;have HA2:Hid (g≠St∧g≠A):=by obtain⟨cA,hA⟩:=hW2.shop.hA;exact⟨qA7 hrow hW2.shop.hSt (by decide),qA7 hrow hA (by decide)⟩
 have hch:t.ch≤1000:=by omega
 clear ho2 hkp2 hK2 hW2 HW HS1 HK1 HIN hrin hrow hat hln hr2 hc2;go_wp2_with fail;refine (show Calls _ _ _ _ _ from HCU.out).mono ?_;rintro e w3 ⟨Cb,rfl,hCb,hcr3,hK3⟩;have hs2:=HK2.out.size;have hrow3:=hK3.heap HROW.out.1 (by simp;exact HA2.out);have HF:=Hid.mk' hcr3.first;have HK3:Hid (Kp [] w w3):=HK2.out.trans hK3 (by intro i hi hlt;simp at hi;omega);have HR3:Hid (w3.heap[g]?=some (.cells cur 42 fr)∧g≠St∧g≠A∧g≠Cb):=⟨hrow3,HA2.out.1,HA2.out.2,qA7 hrow3 hcr3.hC (by decide)⟩;clear hcr3 hK3 hrow3 HCU HK2 HA2;go_wp2_with fail;refine (show Calls _ _ _ _ _ from HF.out).mono ?_;rintro e w4 ⟨rfl,hcr4,hK4⟩;have hs3:=HK3.out.size;obtain⟨fk,hfk⟩:∃ fk,fk=(pkv (qB8 r.cont 0)).k:=⟨_,rfl⟩;obtain⟨fv,hfv⟩:∃ fv,fv=(pkv (qB8 r.cont 0)).v:=⟨_,rfl⟩;have hfb:(qB8 r.cont 0).isSome=true:=by
  have h:=qP8 (ps:=r.cont) (j:=0) (by have:=HLN.out;omega);rw[show ((0:Nat):Int)=0 from rfl] at h;rw[h];rfl
 rw[mvV,←hfk,←hfv,hfb];have HST:Hid (∀ w5,w5.heap[w4.heap.size]?=some (.cells #[.string fk,.string fv] 42)→Kp [] w4 w5→Stp w w5 db St A C 1 s.wrote emp l wr' nw x t r (s.bg+1) Cb w4.heap.size g off cur fr 0):=fun w5 hP5 hK5=>by
  have hr4:=hK4.heap HR3.out.1 (by simp;exact⟨HR3.out.2.1,HR3.out.2.2.2,HR3.out.2.2.1⟩);have hs4:=hK4.size;refine { crs:=⟨hcr4.wrt.other (hcr4.wrt.shop.more hK5) (hK5.mono (by simp)) rfl,hK5.hp hcr4.hC⟩,hP:=by rw[←hfk,←hfv];exact hP5,row:=hK5.hp hr4,at_:=HROW.out.2,ne:=by have:=ζ hr4;omega,kp:=(HK3.out.trans hK4 (by intro i hi hlt;simp at hi;omega)).tr hK5,low:=⟨gSt,gA,by omega,by omega⟩ }
 clear hcr4 hK4 hfk hfv hfb HF;obtain⟨w5,hw5,hP5,hK5,hs5⟩:=qG8 w4 (.cells #[.string fk,.string fv] 42);have HS5:=Hid.mk' (HST.out w5 hP5 hK5);clear HST hP5 hK5 hs5;go_wp2_with fail;rw[←hw5];clear hw5;generalize w4.heap.size=Pb at HS5 ⊢
 go_loopw [14,16,17] (fun n th bd wq=>∃ (j:Nat),j≤ln∧n=.int .i64 j∧th=.bool (decide (j<ln))∧bd=.nilIface∧Hid (Stp w wq db St A C 1 s.wrote emp l wr' nw x t r (s.bg+1) Cb Pb g off cur fr (j:Int))) (fun n _ _ _=>ln-(intOf n).toNat)
 case atStart=>exact⟨0,by omega,rfl,by simp;omega,rfl,HS5⟩
 case round=>
  obtain⟨j,hj,rfl,rfl,rfl,HJ⟩:=hrel;by_cases hlt:j<ln
  ·have hd:decide (j<ln)=true:=by simp[hlt]
   rw[hd];have hjr:j<r.cont.length:=by have:=HLN.out;omega
   have hjb:(j:Int)<(ln:Int):=by omega
   have hix:=qP8 hjr;obtain⟨pk,hpk⟩:∃ pk,pk=r.cont[j].k:=⟨_,rfl⟩;obtain⟨pv,hpv⟩:∃ pv,pv=r.cont[j].v:=⟨_,rfl⟩;have hP:=HJ.out.hP;rw[hix] at hP;have hP':wr.heap[Pb]?=some (.cells #[.string pk,.string pv] 42):=by rw[hpk,hpv];exact hP
   have a0:=ξ hP';have hPs:=ζ hP';have b0:=ξ HJ.out.row (off+j*2);rw[(HJ.out.at_ j hjr).1,←hpk] at b0;have b1:=ξ HJ.out.row (off+j*2+1);rw[(HJ.out.at_ j hjr).2,←hpv] at b1;have hgs:=ζ HJ.out.row;have HCR:Hid (Crs wr 300 db St A C 150 1 s.wrote emp l wr' nw x t r (s.bg+1) Cb r.cont[j].k t.ch):=by
    have h:=HJ.out.crs;rw[hix] at h;exact h
   have HN:Hid (∀ W,Kp [] wr W→Calls prog 23 #[.pointer (some ⟨Cb,0,none⟩)] W fun e w'=>e=.returned (mvV (qB8 r.cont ((j:Int)+1)))∧Crs w' 300 db St A C 150 1 s.wrote emp l wr' nw x t r (s.bg+1) Cb (pkv (qB8 r.cont ((j:Int)+1))).k t.ch∧Kp [St,Cb,A] W w'):=fun W hK=>Crs.next hjr (HCR.out.more hK);clear hP hP' hix hpk hpv HCR;go_wp2_with fail
   go_quiet (fail)
   go_wp2_with fail;refine (show Calls _ _ _ _ _ from HN.out _ ((Kp.refl [] wr).drewN _)).mono ?_;rintro e w6 ⟨rfl,hcr6,hK6⟩;obtain⟨hst6,hP6⟩:=Stp.moved (HJ.out.more ((Kp.refl [] wr).drewN _)) hcr6 hK6;have his:(qB8 r.cont ((j:Int)+1)).isSome=decide (j+1<ln):=by
    have h:=zF6 (ps:=r.cont) (j:=j+1);rw[Int.natCast_add,show ((1:Nat):Int)=1 from rfl] at h;rw[h,HLN.out]
   obtain⟨fk,hfk⟩:∃ fk,fk=(pkv (qB8 r.cont ((j:Int)+1))).k:=⟨_,rfl⟩;obtain⟨fv,hfv⟩:∃ fv,fv=(pkv (qB8 r.cont ((j:Int)+1))).v:=⟨_,rfl⟩;rw[mvV,←hfk,←hfv,his];rw[←hfk,←hfv] at hst6;have hP6s:=ζ hP6;have z0:=ξ hP6;have y0:=μ hP6;have HST6:=Hid.mk' hst6;clear hst6 hP6 hcr6 hK6 his hfk hfv a0 b0 b1 HJ HN;obtain⟨tb,htb⟩:∃ tb,tb=decide (j+1<ln):=⟨_,rfl⟩;rw[←htb];have HTB:=zh htb;clear htb;go_wp2;refine⟨⟨j+1,by omega,by rw[Int.natCast_add];rfl,by rw[HTB.out],rfl,?_⟩,by simp[intOf];omega⟩;rw[Int.natCast_add];exact HST6
  ·obtain rfl:j=ln:=by omega
   have hd:decide (j<j)=false:=by simp
   rw[hd];have hix:qB8 r.cont (j:Int)=none:=qZ4 (by have:=HLN.out;omega);have HCR:Hid (Crs wr 300 db St A C 150 1 s.wrote emp l wr' nw x t r (s.bg+1) Cb ⟨#[]⟩ t.ch):=by
    have h:=HJ.out.crs;rw[hix] at h;exact h
   have HN:=Hid.mk' (HCR.out.lostNext (.inl (by rw[ByteArray.toList_eq];rfl)));have HIX:=zh hix;clear hix hd;go_wp2_with fail;refine (show Calls _ _ _ _ _ from HN.out).mono ?_;rintro e w6 ⟨v6,rfl,⟨F,cl,rfl,hF⟩,hcr6,hK6⟩;have HST6:=Hid.mk' (HJ.out.stay (by rw[HIX.out];exact hcr6) hK6);have HTO:Hid (∀ W,Kp [] w6 W→Calls prog 24 #[.iface 243 (.pointer (some ⟨F,0,none⟩))] W fun e w'=>e=.returned (.int .i64 11)∧Kp [] W w'):=fun W hK=>qU6 F cl 11 W ((HST6.out.kp.tr hK).zero HG.out.1 HG.out.2) (hK.hp hF);clear hF hcr6 hK6 HN HJ HCR HIX;go_wp2_with fail;refine (show Calls _ _ _ _ _ from HTO.out _ ((Kp.refl [] w6).alloc _)).mono ?_;rintro e w7 ⟨rfl,hK7⟩;have HST7:=Hid.mk' (HST6.out.more (((Kp.refl [] w6).alloc _).tr hK7));have HN:=Hid.mk' HST7.out.crs.last;clear HTO HST6 hK7;go_wp2_with fail;refine (show Calls _ _ _ _ _ from HN.out).mono ?_;rintro e w8 ⟨rfl,hcr8,hK8⟩;obtain⟨hst8,hP8⟩:=Stp.moved HST7.out hcr8 hK8;have hln:=HLN.out;rw[←hln] at hst8;have his:(qB8 r.cont ((j:Int)-1)).isSome=decide (0<j):=by
    have h:=zF6 (ps:=r.cont) (j:=j-1);rw[show ((j-1:Nat):Int)=(j:Int)-1 by omega] at h;rw[h,←hln]
    congr 1
    simp;omega
   obtain⟨fk,hfk⟩:∃ fk,fk=(pkv (qB8 r.cont ((j:Int)-1))).k:=⟨_,rfl⟩;obtain⟨fv,hfv⟩:∃ fv,fv=(pkv (qB8 r.cont ((j:Int)-1))).v:=⟨_,rfl⟩;rw[mvV,←hln,←hfk,←hfv,his];rw[←hfk,←hfv] at hst8;have hP8s:=ζ hP8;have z0:=ξ hP8;have y0:=μ hP8;have HST8:=Hid.mk' hst8;clear hst8 hP8 hcr8 hK8 his hfk hfv hln HN HST7;obtain⟨tb,htb⟩:∃ tb,tb=decide (0<j):=⟨_,rfl⟩;rw[←htb];have HTB:=zh htb;clear htb;go_wp2_with fail
   go_loopw [14,16,17] (fun n th bd wq=>∃ (i:Nat),i≤j∧n=.int .i64 i∧th=.bool (decide (0<i))∧bd=.nilIface∧Hid (Stp w wq db St A C 1 s.wrote emp l wr' nw x t r (s.bg+1) Cb Pb g off cur fr ((i:Int)-1))) (fun n _ _ _=>(intOf n).toNat)
   case atStart=>exact⟨j,by omega,rfl,by rw[HTB.out],rfl,HST8⟩
   case round=>
    clear HST8 HTB y0 z0 hP8s;obtain⟨i,hi,rfl,rfl,rfl,HJ⟩:=hrel;by_cases hlt:0<i
    ·obtain⟨i,rfl⟩:∃ i',i=i'+1:=⟨i-1,by omega⟩;have hd:decide (0<i+1)=true:=by simp
     rw[hd];have hir:i<r.cont.length:=by have:=HLN.out;omega
     have hix:qB8 r.cont (((i+1:Nat):Int)-1)=some r.cont[i]:=by rw[←qP8 hir];congr 1;omega
     have hip:(0:Int)<((i+1:Nat):Int):=by omega
     have hsub:((i+1:Nat):Int)-1=(i:Int):=by omega
     have hil:(i:Int)<(j:Int):=by omega
     obtain⟨pk,hpk⟩:∃ pk,pk=r.cont[i].k:=⟨_,rfl⟩;obtain⟨pv,hpv⟩:∃ pv,pv=r.cont[i].v:=⟨_,rfl⟩;have hP:=HJ.out.hP;rw[hix] at hP;have hP':wr.heap[Pb]?=some (.cells #[.string pk,.string pv] 42):=by rw[hpk,hpv];exact hP
     have a0:=ξ hP';have hPs:=ζ hP';have b0:=ξ HJ.out.row (off+i*2);rw[(HJ.out.at_ i hir).1,←hpk] at b0;have b1:=ξ HJ.out.row (off+i*2+1);rw[(HJ.out.at_ i hir).2,←hpv] at b1;have hgs:=ζ HJ.out.row;have HCR:Hid (Crs wr 300 db St A C 150 1 s.wrote emp l wr' nw x t r (s.bg+1) Cb r.cont[i].k t.ch):=by
      have h:=HJ.out.crs;rw[hix] at h;exact h
     have HN:Hid (∀ W,Kp [] wr W→Calls prog 26 #[.pointer (some ⟨Cb,0,none⟩)] W fun e w'=>e=.returned (mvV (qB8 r.cont ((i:Int)-1)))∧Crs w' 300 db St A C 150 1 s.wrote emp l wr' nw x t r (s.bg+1) Cb (pkv (qB8 r.cont ((i:Int)-1))).k t.ch∧Kp [St,Cb,A] W w'):=fun W hK=>Crs.prev hir (HCR.out.more hK);clear hP hP' hix hpk hpv HCR;go_wp2_with fail
     go_quiet (fail)
     go_wp2_with fail;refine (show Calls _ _ _ _ _ from HN.out _ ((Kp.refl [] wr).drewN _)).mono ?_;rintro e w9 ⟨rfl,hcr9,hK9⟩;obtain⟨hst9,hP9⟩:=Stp.moved (HJ.out.more ((Kp.refl [] wr).drewN _)) hcr9 hK9;have his:(qB8 r.cont ((i:Int)-1)).isSome=decide (0<i):=by
      by_cases h0:i=0
      ·subst h0;rw[qZ4 (.inl (by omega))];rfl
      ·have h:=zF6 (ps:=r.cont) (j:=i-1);rw[show ((i-1:Nat):Int)=(i:Int)-1 by omega] at h;rw[h]
       congr 1
       simp;omega
     obtain⟨fk,hfk⟩:∃ fk,fk=(pkv (qB8 r.cont ((i:Int)-1))).k:=⟨_,rfl⟩;obtain⟨fv,hfv⟩:∃ fv,fv=(pkv (qB8 r.cont ((i:Int)-1))).v:=⟨_,rfl⟩;rw[mvV,←hfk,←hfv,his];rw[←hfk,←hfv] at hst9;have hP9s:=ζ hP9;have z0:=ξ hP9;have y0:=μ hP9;have HST9:=Hid.mk' hst9;clear hst9 hP9 hcr9 hK9 his hfk hfv a0 b0 b1 HJ HN;obtain⟨tb,htb⟩:∃ tb,tb=decide (0<i):=⟨_,rfl⟩;rw[←htb];have HTB:=zh htb;clear htb;go_wp2;refine⟨⟨i,by omega,rfl,by rw[HTB.out],rfl,HST9⟩,by simp[intOf]⟩
    ·obtain rfl:i=0:=by omega
     have hd:decide (0<0)=false:=by simp
     rw[hd];clear hd;go_wp2_with fail;obtain⟨sp,hsp⟩:∃ sp,sp=qB2 r.cont k:=⟨_,rfl⟩;have HSP:Hid (sp=qB2 r.cont k∧sp≤j):=⟨hsp,by rw[hsp,HLN.out];exact qU5 _ _⟩;clear hsp
     go_loopw [22] (fun n wq=>∃ (i:Nat),i≤sp∧n=.int .i64 i∧Hid (Stp w wq db St A C 1 s.wrote emp l wr' nw x t r (s.bg+1) Cb Pb g off cur fr (((0:Nat):Int)-1))) (fun n _=>sp-(intOf n).toNat)
     case atStart=>exact⟨0,by omega,rfl,HJ⟩
     case round=>
      clear HJ;obtain⟨i,hi,rfl,HJ⟩:=hrel;have hspj:=HSP.out.2;by_cases hlt:i<sp
      ·have hir:i<r.cont.length:=by have:=HLN.out;omega
       have hij:(i:Int)<(j:Int):=by omega
       obtain⟨pk,hpk⟩:∃ pk,pk=r.cont[i].k:=⟨_,rfl⟩;have b0:=ξ HJ.out.row (off+i*2);rw[(HJ.out.at_ i hir).1,←hpk] at b0;have hgs:=ζ HJ.out.row;have hles:Op.bytesLess pk.toList k.toList=true:=by rw[hpk];exact jN3 hir (by rw[←HSP.out.1];exact hlt)
       clear hpk;go_wp2_with fail;exact⟨⟨i+1,by omega,by rw[Int.natCast_add];rfl,HJ⟩,by simp[intOf];omega⟩
      ·obtain rfl:i=sp:=by omega
       have hsk:=HJ.out.crs.seek k;rw[←HSP.out.1] at hsk;have HSK:=Hid.mk' hsk;clear hsk;by_cases hij:i<j
       ·have hir:i<r.cont.length:=by have:=HLN.out;omega
        have hiji:(i:Int)<(j:Int):=by omega
        obtain⟨pk,hpk⟩:∃ pk,pk=r.cont[i].k:=⟨_,rfl⟩;have b0:=ξ HJ.out.row (off+i*2);rw[(HJ.out.at_ i hir).1,←hpk] at b0;have hgs:=ζ HJ.out.row;have hles:Op.bytesLess pk.toList k.toList=false:=by
         have h:=HSP.out.1;subst h;rw[hpk];exact jN2 hir
        have HPK:=zh hpk;clear hpk;go_wp2_with fail;have hpk:=HPK.out;refine (show Calls _ _ _ _ _ from HSK.out).mono ?_;rintro e w9 ⟨rfl,hcr9,hK9⟩;obtain⟨hst9,hP9⟩:=Stp.moved HJ.out hcr9 hK9;obtain⟨pv,hpv⟩:∃ pv,pv=r.cont[i].v:=⟨_,rfl⟩;have hix:=qP8 hir;have e1:(pkv (qB8 r.cont (i:Int))).k=pk:=by rw[hix,hpk];rfl
        have e2:(pkv (qB8 r.cont (i:Int))).v=pv:=by rw[hix,hpv];rfl
        have e3:(qB8 r.cont (i:Int)).isSome=true:=by rw[hix];rfl
        rw[mvV,e1,e2,e3];rw[e1,e2] at hst9;have hP9s:=ζ hP9;have z0:=ξ hP9;have y0:=μ hP9;have hPb:=hst9.hP;rw[e1,e2] at hPb;have HST9:=Hid.mk' hst9;have c0:=ξ hPb;have b0:=ξ hst9.row (off+i*2);rw[(hst9.at_ i hir).1,←hpk] at b0;have b1:=ξ hst9.row (off+i*2+1);rw[(hst9.at_ i hir).2,←hpv] at b1;have hgs:=ζ hst9.row;have hpbs:=ζ hPb;clear hst9 hPb hP9 hcr9 hK9 e1 e2 e3 hix hpk hpv HSK HJ hles;go_wp2_with fail;generalize (w9.setCell ⟨Pb,0,none⟩ (.string pk)).setCell ⟨Pb,1,none⟩ (.string pv)=w10 at *;clear y0 z0 hP9s
        go_quiet (fail)
        have HLOW:Hid (w.heap.size≤x∧w.heap.size≤St∧w.heap.size≤A):=⟨by omega,gSt,gA⟩;by_cases hi1:i+1<j
        ·have hi1i:(i:Int)+1<(j:Int):=by omega
         have HN:Hid (∀ W,Kp [] w10 W→Calls prog 23 #[.pointer (some ⟨Cb,0,none⟩)] W fun e w'=>e=.returned (mvV (qB8 r.cont ((i:Int)+1)))∧Crs w' 300 db St A C 150 1 s.wrote emp l wr' nw x t r (s.bg+1) Cb (pkv (qB8 r.cont ((i:Int)+1))).k t.ch∧Kp [St,Cb,A] W w'):=fun W hK=>Crs.next hir (by
          have h:=(HST9.out.more hK).crs;rw[qP8 hir] at h;exact h)
         go_wp2_with fail;refine (show Calls _ _ _ _ _ from HN.out _ ((Kp.refl [] w10).drewN nq)).mono ?_;rintro e w11 ⟨rfl,hcr11,hK11⟩;have hir1:i+1<r.cont.length:=by have:=HLN.out;omega
         have hix1:qB8 r.cont ((i:Int)+1)=some r.cont[i+1]:=by rw[←qP8 hir1];rfl
         obtain⟨qk,hqk⟩:∃ qk,qk=r.cont[i+1].k:=⟨_,rfl⟩;obtain⟨qv,hqv⟩:∃ qv,qv=r.cont[i+1].v:=⟨_,rfl⟩;have e1:(pkv (qB8 r.cont ((i:Int)+1))).k=qk:=by rw[hix1,hqk];rfl
         have e2:(pkv (qB8 r.cont ((i:Int)+1))).v=qv:=by rw[hix1,hqv];rfl
         have e3:(qB8 r.cont ((i:Int)+1)).isSome=true:=by rw[hix1];rfl
         rw[mvV,e1,e2,e3];rw[hix1] at hcr11;have hix:=qP8 hir;have HN2:Hid (∀ W,Kp [] w11 W→Calls prog 26 #[.pointer (some ⟨Cb,0,none⟩)] W fun e w'=>e=.returned (mvV (some r.cont[i]))∧Crs w' 300 db St A C 150 1 s.wrote emp l wr' nw x t r (s.bg+1) Cb r.cont[i].k t.ch∧Kp [St,Cb,A] W w'):=fun W hK=>by
          have h:=Crs.prev hir1 (hcr11.more hK);rw[show ((i+1:Nat):Int)-1=(i:Int) by omega,hix] at h;exact h
         obtain⟨cA,hA⟩:=HST9.out.crs.wrt.shop.hA;have HGN:Hid (g ∉ [St,Cb,A]):=by simp;exact⟨qA7 HST9.out.row HST9.out.crs.wrt.shop.hSt (by decide),qA7 HST9.out.row HST9.out.crs.hC (by decide),qA7 HST9.out.row hA (by decide)⟩
         have hg11:=hK11.heap (((Kp.refl [] w10).drewN nq).hp HST9.out.row) HGN.out;have HLT:Hid (w11.heap.size ∉ [St,Cb,A]):=by
          have l1:=ζ hcr11.wrt.shop.hSt;have l2:=ζ hcr11.hC;obtain⟨cA',hA'⟩:=hcr11.wrt.shop.hA;have l3:=ζ hA';intro h;rcases List.mem_cons.1 h with h|h
          ·omega
          ·rcases List.mem_cons.1 h with h|h
           ·omega
           ·have:=List.mem_singleton.1 h;omega
         have HK11:Hid (Kp [] w w11):=by
          obtain⟨l1,l2,l3,l4⟩:=HST9.out.low;exact (HST9.out.more ((Kp.refl [] w10).drewN nq)).kp.trans hK11 (by intro i hi hlt;simp at hi;omega)
         have HG11:Hid (w11.heap[g]?=some (.cells cur 42 fr)∧∀ i (h:i<r.cont.length),cur[off+i*2]?=some (.string r.cont[i].k)∧cur[off+i*2+1]?=some (.string r.cont[i].v)):=⟨hg11,HST9.out.at_⟩;have HLW:=zh HST9.out.low.2.2.1;have HQ:Hid (qk=r.cont[i+1].k∧qv=r.cont[i+1].v):=⟨hqk,hqv⟩;clear hcr11 hK11 hqk hqv e1 e2 e3 hix1 hix hg11 HN HST9 c0 b0 b1 hA hgs hpbs;go_wp2_with fail;refine (show Calls _ _ _ _ _ from HN2.out _ ((Kp.refl [] w11).alloc _)).mono ?_;rintro e w12 ⟨rfl,hcr12,hK12⟩;have hq12:=hK12.heap (κ w11 (.cells #[.string qk,.string qv] 42)) HLT.out;have hg12:=hK12.heap (((Kp.refl [] w11).alloc _).hp HG11.out.1) HGN.out;have HK12:Hid (Kp [] w w12):=by
          obtain⟨l1,l2,l3⟩:=HLOW.out;have l4:=HLW.out;exact (HK11.out.trans ((Kp.refl [] w11).alloc _) (by simp)).trans hK12 (by intro i hi hlt;simp at hi;omega)
         obtain⟨rk,hrk⟩:∃ rk,rk=r.cont[i].k:=⟨_,rfl⟩;obtain⟨rv,hrv⟩:∃ rv,rv=r.cont[i].v:=⟨_,rfl⟩;have HR:Hid (rk=r.cont[i].k∧rv=r.cont[i].v):=⟨hrk,hrv⟩;rw[mvV,show pkv (some r.cont[i])=r.cont[i] from rfl,←hrk,←hrv,show (some r.cont[i]).isSome=true from rfl];have HC12:=Hid.mk' hcr12;obtain⟨w13,hw13,hR13,hK13,hs13⟩:=qG8 w12 (.cells #[.string rk,.string rv] 42);have HKK:=zh hK13;have hq13:=hK13.hp hq12;have hg13:=hK13.hp hg12;clear hK12 hcr12 hrk hrv hg12 hq12 HN2 HLT HK11 hK13;go_wp2_with fail;rw[←hw13];have h1:=ξ hq13;have h3:=ξ hR13;have b0:=ξ hg13 (off+i*2);rw[(HG11.out.2 i hir).1,←HR.out.1] at b0;have b1:=ξ hg13 (off+i*2+1);rw[(HG11.out.2 i hir).2,←HR.out.2] at b1;have b2:=ξ hg13 (off+(i+1)*2);rw[(HG11.out.2 (i+1) hir1).1,←HQ.out.1] at b2;have b3:=ξ hg13 (off+(i+1)*2+1);rw[(HG11.out.2 (i+1) hir1).2,←HQ.out.2] at b3;have l1:=ζ hg13;have l2:=ζ hq13;have l3:=ζ hR13;clear hg13 hq13 hR13 hw13 hs13
         go_quiet (fail)
         go_wp2_with fail;have HCT:=Hid.mk' (And.intro (HC12.out.more (HKK.out.drewN nq)) (HK12.out.trans (HKK.out.drewN nq) (by simp)));clear HC12 b0 b1 b2 b3 h1 h3;have hlnr:=HLN.out;have HD:=Hid.mk' (HCT.out.1.delete ⟨#[110,111,110,101]⟩ (by decide) (by omega) (by omega));clear hlnr;refine (show Calls _ _ _ _ _ from HD.out).mono ?_;rintro e wA ⟨rfl,t',r',ht',hcrA,hKA⟩;have HKA:Hid (Kp [] w wA):=by
          obtain⟨l1,l2⟩:=HLOW.out;exact HCT.out.2.trans hKA (by intro i hi hlt;simp at hi;omega)
         have HNA:=Hid.mk' (hcrA.lostPrev (.inr (by omega)));clear hcrA hKA HD HCT;go_wp2_with fail;refine (show Calls _ _ _ _ _ from HNA.out).mono ?_;rintro e wB ⟨vB,rfl,⟨F2,cl2,rfl,hF2⟩,hcrB,hKB⟩;have HKB:Hid (Kp [] w wB):=by
          obtain⟨l1,l2⟩:=HLOW.out;exact HKA.out.trans hKB (by intro i hi hlt;simp at hi;omega)
         have HTO2:Hid (∀ W,Kp [] wB W→Calls prog 24 #[.iface 243 (.pointer (some ⟨F2,0,none⟩))] W fun e w'=>e=.returned (.int .i64 11)∧Kp [] W w'):=fun W hK=>qU6 F2 cl2 11 W ((HKB.out.tr hK).zero HG.out.1 HG.out.2) (hK.hp hF2);clear hF2 hcrB hKB HNA HKA;go_wp2_with fail;refine (show Calls _ _ _ _ _ from HTO2.out _ ((Kp.refl [] wB).alloc _)).mono ?_;rintro e wC ⟨rfl,hKC⟩;have HKC:Hid (Kp [] w wC):=(HKB.out.trans ((Kp.refl [] wB).alloc _) (by simp)).tr hKC;clear HTO2 hKC HKB;go_wp2;go_ret;exact⟨rfl,HKC.out⟩
        ·have hi1i:¬(i:Int)+1<(j:Int):=by omega
         go_wp2_with fail;have HCT:=Hid.mk' (And.intro (HST9.out.more ((Kp.refl [] w10).drewN nq)).crs (HST9.out.more ((Kp.refl [] w10).drewN nq)).kp);clear HST9 c0 b0 b1;have hlnr:=HLN.out;have HD:=Hid.mk' (HCT.out.1.delete ⟨#[110,111,110,101]⟩ (by decide) (by omega) (by omega));clear hlnr;refine (show Calls _ _ _ _ _ from HD.out).mono ?_;rintro e wA ⟨rfl,t',r',ht',hcrA,hKA⟩;have HKA:Hid (Kp [] w wA):=by
          obtain⟨l1,l2⟩:=HLOW.out;exact HCT.out.2.trans hKA (by intro i hi hlt;simp at hi;omega)
         have HNA:=Hid.mk' (hcrA.lostPrev (.inr (by omega)));clear hcrA hKA HD HCT;go_wp2_with fail;refine (show Calls _ _ _ _ _ from HNA.out).mono ?_;rintro e wB ⟨vB,rfl,⟨F2,cl2,rfl,hF2⟩,hcrB,hKB⟩;have HKB:Hid (Kp [] w wB):=by
          obtain⟨l1,l2⟩:=HLOW.out;exact HKA.out.trans hKB (by intro i hi hlt;simp at hi;omega)
         have HTO2:Hid (∀ W,Kp [] wB W→Calls prog 24 #[.iface 243 (.pointer (some ⟨F2,0,none⟩))] W fun e w'=>e=.returned (.int .i64 11)∧Kp [] W w'):=fun W hK=>qU6 F2 cl2 11 W ((HKB.out.tr hK).zero HG.out.1 HG.out.2) (hK.hp hF2);clear hF2 hcrB hKB HNA HKA;go_wp2_with fail;refine (show Calls _ _ _ _ _ from HTO2.out _ ((Kp.refl [] wB).alloc _)).mono ?_;rintro e wC ⟨rfl,hKC⟩;have HKC:Hid (Kp [] w wC):=(HKB.out.trans ((Kp.refl [] wB).alloc _) (by simp)).tr hKC;clear HTO2 hKC HKB;go_wp2;go_ret;exact⟨rfl,HKC.out⟩
       ·obtain rfl:i=j:=by omega
        have hiji:¬(i:Int)<(i:Int):=by omega
        have hiji1:¬(i:Int)+1<(i:Int):=by omega
        go_wp2_with fail;refine (show Calls _ _ _ _ _ from HSK.out).mono ?_;rintro e w9 ⟨rfl,hcr9,hK9⟩;obtain⟨hst9,hP9⟩:=Stp.moved HJ.out hcr9 hK9;have hix:qB8 r.cont (i:Int)=none:=qZ4 (by have:=HLN.out;omega);rw[mvV,hix];rw[hix] at hst9;rw[show (none:Option KV).isSome=false from rfl];rw[show (pkv none).k=⟨#[]⟩ from rfl,show (pkv none).v=⟨#[]⟩ from rfl] at *;have hP9s:=ζ hP9;have z0:=ξ hP9;have y0:=μ hP9;have HST9:=Hid.mk' hst9;have HLOW:Hid (w.heap.size≤x∧w.heap.size≤St∧w.heap.size≤A):=⟨by omega,gSt,gA⟩;clear hst9 hP9 hcr9 hK9 hix HSK HJ;go_wp2_with fail;generalize (w9.setCell ⟨Pb,0,none⟩ (.string ⟨#[]⟩)).setCell ⟨Pb,1,none⟩ (.string ⟨#[]⟩)=w10 at *;clear y0 z0 hP9s
        go_quiet (fail)
        go_wp2_with fail;have HCT:=Hid.mk' (And.intro (HST9.out.more ((Kp.refl [] w10).drewN nq)).crs (HST9.out.more ((Kp.refl [] w10).drewN nq)).kp);clear HST9;have hlnr:=HLN.out;have HD:=Hid.mk' (HCT.out.1.delete ⟨#[110,111,110,101]⟩ (by decide) (by omega) (by omega));clear hlnr;refine (show Calls _ _ _ _ _ from HD.out).mono ?_;rintro e wA ⟨rfl,t',r',ht',hcrA,hKA⟩;have HKA:Hid (Kp [] w wA):=by
         obtain⟨l1,l2⟩:=HLOW.out;exact HCT.out.2.trans hKA (by intro i hi hlt;simp at hi;omega)
        have HNA:=Hid.mk' (hcrA.lostPrev (.inr (by omega)));clear hcrA hKA HD HCT;go_wp2_with fail;refine (show Calls _ _ _ _ _ from HNA.out).mono ?_;rintro e wB ⟨vB,rfl,⟨F2,cl2,rfl,hF2⟩,hcrB,hKB⟩;have HKB:Hid (Kp [] w wB):=by
         obtain⟨l1,l2⟩:=HLOW.out;exact HKA.out.trans hKB (by intro i hi hlt;simp at hi;omega)
        have HTO2:Hid (∀ W,Kp [] wB W→Calls prog 24 #[.iface 243 (.pointer (some ⟨F2,0,none⟩))] W fun e w'=>e=.returned (.int .i64 11)∧Kp [] W w'):=fun W hK=>qU6 F2 cl2 11 W ((HKB.out.tr hK).zero HG.out.1 HG.out.2) (hK.hp hF2);clear hF2 hcrB hKB HNA HKA;go_wp2_with fail;refine (show Calls _ _ _ _ _ from HTO2.out _ ((Kp.refl [] wB).alloc _)).mono ?_;rintro e wC ⟨rfl,hKC⟩;have HKC:Hid (Kp [] w wC):=(HKB.out.trans ((Kp.refl [] wB).alloc _) (by simp)).tr hKC;clear HTO2 hKC HKB;go_wp2;go_ret;exact⟨rfl,HKC.out⟩
end Go.Proofs.YtdohpenfkdckiaaGreatDoor
namespace Go.Proofs.YtdohpenfkdckiaaGreatDoor
open Go.Proofs.Tryz
open Go.ChangeShapes Go.WideShapes Go.RowKit Go.Deep
theorem qU7{n:Int}(h:(Lit.int .i64 n).wf=true):-9223372036854775808≤n∧n≤9223372036854775807:=by
 simp[Lit.wf,IntKind.min,IntKind.max,IntKind.bits,IntKind.signed] at h;omega
theorem zG3:laidOutB prog=true:=by kernel_rfl
theorem zN4:ownKnob prog.godebug=none:=by kernel_rfl
theorem zN2:prog.globalNamed "errors.errorType"=some 0:=by kernel_rfl
theorem zN5:(prog.cutTypes.find? (·.1 == "internal/reflectlite.rtype")).map (·.2)=some 220:=by kernel_rfl
theorem zN3:((List.range 413).filter fun t=>prog.rowNamed t [101,114,114,111,114])=[38]:=by kernel_rfl
theorem zN6:prog.types.size=413:=by kernel_rfl
theorem zF3{W:World}(h:laidMetH prog Rows.stepsRow.laid W):W.cell? ⟨0,0,none⟩=some qK2:=by
 have h':laidMet prog (Rows.stepsRow.laid.filter fun x=>x.2.handleName?.isNone) W∧handlesMet prog [("errors.errorType",Rows.laid_errors_errorType)] W:=h;obtain⟨name,u,ty,e1,e2,e3,e4,e5⟩:=h'.2 _ (List.mem_singleton.2 rfl);have en:name=[101,114,114,111,114]:=(Option.some.inj e1).symm;subst en;obtain rfl:=Option.some.inj (zN5.symm.trans e2);have hm:ty∈(List.range 413).filter fun t=>prog.rowNamed t [101,114,114,111,114]:=List.mem_filter.2 ⟨List.mem_range.2 (by rw[←zN6];exact e3),e4⟩;rw[zN3] at hm;obtain rfl:=List.mem_singleton.1 hm;have hh:typeHandle prog 38=.pointer (some ⟨5,38,none⟩):=by kernel_rfl
 rw[hh] at e5;simpa [qK2] using World.var?_cell zN2 e5 0
theorem zN7(os:Os)(H:Type)(enc:TypeId × Value→H):
  ∃ (w:World) (tape:Tape) (i:Input),w.os=os∧(w.forCall tape i).Shaped prog∧i.vars=[]∧Input.okWide prog (w.forCall tape i) .any w.heap.size 11 i∧
   ((Rows.stepsSpec.pre enc prog f11 [] false (w.forCall tape i).memory i.args∧laidMetH prog Rows.stepsRow.laid (w.forCall tape i).memory)∧sizedMet enc prog f11 (OpenSpec.ofChange Rows.stepsSpec) false (w.forCall tape i).memory i.args)∧({}:Assume).holds prog (lone (Frame.enter prog 11 i.args .normal) [] (w.forCall tape i)):=
 ChangeSpec.witness_at (enc:=enc) (C:=checked) (os:=os) (X:=fun w _=>laidMetH prog Rows.stepsRow.laid w) false ({ World.laidAll prog os (Rows.stepsRow.laid.filter fun x=>x.2.handleName?.isNone) with heap:=(World.laidAll prog os (Rows.stepsRow.laid.filter fun x=>x.2.handleName?.isNone)).heap.modify 0 fun o=>match o with | .cells _ t frozen=>.cells #[qK2] t frozen | o=>o }) #[.int .i64 0,.int .i64 0,.string ⟨#[]⟩] 8 rfl (by kernel_rfl) (by kernel_rfl) (by kernel_rfl) (by kernel_rfl) (by kernel_rfl) (laidMetH_of_parts (laidMet_of_run' 8 (by kernel_rfl) (by kernel_rfl)) (by kernel_rfl))
end Go.Proofs.YtdohpenfkdckiaaGreatDoor
namespace Go.Proofs.YtdohpenfkdckiaaGreatDoor
open Go.Proofs.Tryz
open Go Go.ChangeShapes Go.WideShapes Go.RowKit Go.Deep
theorem jN6(os:Os)(started:os.Started)(H:Type)(enc:TypeId × Value→H):
  ReturnsInHanded {} checked os 11 .any (fun w args=>(Rows.stepsSpec.pre enc prog f11 [] false w args∧laidMetH prog Rows.stepsRow.laid w)∧sizedMet enc prog f11 (OpenSpec.ofChange Rows.stepsSpec) false w args)
   (Rows.stepsSpec.post enc prog f11 false true false false):=by
 refine returnsInHanded_of_change_and (C:=checked) (X:=fun w _=>laidMetH prog Rows.stepsRow.laid w) (fun _ _ _ hh h=>h.of_heap hh) zN4 started (by kernel_rfl) func11 (zN7 os H enc) ?_;intro W base args ds gs before hval0 hW _ _ hL _;have hval:∀ (j:Nat) t v,f11.params[j]?=some t→args[j]?=some v→Value.okWide prog W .any base t v:=hval0;have hW':=hW;obtain⟨p,q,hA0,hV,rfl,_,_⟩:=hW;have hA:DataW.TrodAll enc prog W 0 (fun _=>true) true f11.params.toList args.toList ds p:=hA0;rw[params11] at hA hval;obtain⟨v0,v1,v2,d0,d1,d2,p0,p1,p2,rfl,rfl,rfl,h0,h1,h2⟩:=trodAll_three hA;obtain⟨rfl,rfl⟩:=trodVars_none hV;clear hA0 hval0;simp only[List.append_nil] at hW';obtain⟨a,rfl,rfl,rfl,wa⟩:=open_int underlying3 (hval 0 3 v0 rfl rfl) h0;obtain⟨b,rfl,rfl,rfl,wb⟩:=open_int underlying3 (hval 1 3 v1 rfl rfl) h1;obtain⟨c,rfl,rfl,rfl,wc⟩:=Go.ChangeMaps.open_string underlying9 (hval 2 9 v2 rfl rfl) h2;have hg:=zF3 hL;have h0s:0<W.heap.size:=by
  unfold World.cell? at hg
  cases hb:W.heap[0]? with
  | none=>simp[hb] at hg
  | some o=>exact ζ hb
 have e1:Rows.stepsSpec.fn H ([.lit (.int .i64 a),.lit (.int .i64 b),.lit (.string c.data.toList)]++[])={ results:=[.lit (.bool true)],args:=[.lit (.int .i64 a),.lit (.int .i64 b),.lit (.string c.data.toList)] }:=by simp[Rows.stepsSpec]
 obtain⟨ha0,ha1⟩:=qU7 wa;obtain⟨hb0,hb1⟩:=qU7 wb;refine (jN7 a b c ha0 ha1 hb0 hb1 W h0s hg).mono fun e W' ⟨he,hK⟩=>?_;subst he;have hb:Below W.heap.size W W':=hK.below (Nat.le_refl _) (by simp);refine⟨_,rfl,_,_,_,[],[],[],hW',?_,?_,?_,hb.frame _,fun h=>by cases h⟩
 ·rw[e1];exact trodAll_mk1 (shut_bool underlying4 true)
 ·rw[e1];exact trodAll_mk3 (shut_int underlying3 wa) (shut_int underlying3 wb) (Go.ChangeMaps.shut_string underlying9 wc)
 ·rw[e1];rfl
end Go.Proofs.YtdohpenfkdckiaaGreatDoor
