import Derived.Test.YtdohpenfkdckiaaGreatDoorM15
set_option linter.all false
set_option maxRecDepth 100000
set_option maxHeartbeats 20000000
namespace Go.Proofs.YtdohpenfkdckiaaGreatDoor.Gen
open Go.Proofs.Tryz
open Go.RowKit
def qF1(A n:Nat)(may were:Value)(x:Option Addr)(ts li wa:Value):Obj:=
 .cells #[.pointer (some ⟨A,0,none⟩),.int .i64 n,may,.bool false,were,.bool false,.bool false,.pointer x,.slice none 0 0,.int .i64 0,.bool false,ts,li,wa] 130
structure DG where
 B:Nat
 A:Nat
 C:Nat
 n:Nat
 l:List UInt8
 calls:Int
 writes:Int
 N:Int
 pm:Option Addr
 m:Nat
 cm:Nat
 pw:Option Addr
 k:Nat
 cw:Nat
 x:Option Addr
 ts:Value
 li:Value
 wa:Value
structure DOk(base:Nat)(T:Int)(w:World)(g:DG):Prop where
 bB:base≤g.B
 bA:base≤g.A
 bC:base≤g.C
 hB:w.heap[g.B]?=some (qF1 g.A g.n (.slice g.pm g.m g.cm) (.slice g.pw g.k g.cw) g.x g.ts g.li g.wa)
 hA:w.heap[g.A]?=some (qA1 g.n g.C (.slice none 0 0) g.calls g.writes)
 hC:w.heap[g.C]?=some (.cells (enc g.l) 115)
 len:g.l.length=g.n*128
 n1000:g.n<1000
 calls0:0≤g.calls
 calls1:g.calls≤6*T
 writes0:0≤g.writes
 writes1:g.writes≤2*T
 k1:(g.k:Int)≤T
 may:RowOk w base (.slice g.pm g.m g.cm) g.m
 were:RowOk w base (.slice g.pw g.k g.cw) g.k
 st:((8≤g.n→Fresh g.l)∧g.m=0∧g.N=0)∨(Formatted g.l g.N∧g.N≤2*T∧g.m=1∧g.cm=1∧∃ gm,g.pm=some ⟨gm,0,none⟩)
theorem DOk.apart{base:Nat}{T:Int}{w:World}{g:DG}(h:DOk base T w g):Apart w [g.B,g.A,g.C] 126:=by
 intro k hk;simp only[List.mem_cons,List.not_mem_nil,or_false] at hk;rcases hk with rfl|rfl|rfl
 ·exact⟨_,_,_,h.hB,by decide⟩
 ·exact⟨_,_,_,h.hA,by decide⟩
 ·exact⟨_,_,_,h.hC,by decide⟩
theorem zK5(B A n:Nat)(may were:Value)(x:Option Addr)(ts li wa:Value)(w:World)(h:w.heap[B]?=some (qF1 A n may were x ts li wa)):
  Calls prog 125 #[.pointer (some ⟨B,0,none⟩)] w fun e w'=>e=.returned (.tuple #[])∧w'.heap[B]?=some (qF1 A n may were none (.slice none 0 0) li wa)∧Kp [B] w w':=by
 have k7:=ξ h 7;have k10:=ξ h 10;have k11:=ξ h 11;simp only[qF1,zG,zH,zI] at k7 k10 k11;have f7:=ρ h;go_enter func125,ntmps125;go_wp2
 go_end0
 exact⟨rfl,μ (μ (μ h 7 _) 11 _) 10 _,(((Kp.refl _ _).sc _).sc _).sc _⟩
theorem xK8(base:Nat)(T:Int)(w:World)(g:DG)(h:DOk base T w g)(hT0:0≤T)(hT1:T≤50000)(hg:w.cell? ⟨0,0,none⟩=some qB5)(hb:0<base)(hbs:base≤w.heap.size):
  Calls prog 80 #[.pointer (some ⟨g.B,0,none⟩)] w fun e w'=>e=.returned (.bool true)∧(∃ g',DOk base (T+1) w' g'∧g'.B=g.B∧g'.A=g.A∧g'.C=g.C∧g'.n=g.n∧g'.x=none∧g'.ts=.slice none 0 0∧g'.li=g.li∧g'.wa=g.wa)∧Kp [g.B,g.A,g.C] w w':=by
 obtain⟨B,A,C,n,l,calls,writes,N,pm,m,cm,pw,k,cw,x,ts,li,wa⟩:=g;obtain⟨bB,bA,bC,hB,hA,hC,len,n1000,calls0,calls1,writes0,writes1,kT,may,were,st⟩:=h;simp only at *;have HBA:Hid (B≠A):=qG2 hB hA (by decide);have HBC:Hid (B≠C):=qG2 hB hC (by decide);have HCA:Hid (C≠A):=qG2 hC hA (by decide);have HST:=zh st;clear st;go_enter func80,ntmps80;go_wp2_with fail;refine (zK5 B A n _ _ x ts li wa w hB).mono ?_;rintro e w1 ⟨rfl,hB1,hK1⟩;have hA1:=hK1.heap hA (by simp;exact fun e=>HBA.out e.symm);have hC1:=hK1.heap hC (by simp;exact fun e=>HBC.out e.symm);have may1:=may.keep hK1 (fun k hk=>by rw[List.mem_singleton.1 hk];exact⟨_,_,_,hB,by decide⟩);have were1:=were.keep hK1 (fun k hk=>by rw[List.mem_singleton.1 hk];exact⟨_,_,_,hB,by decide⟩);have hg1:w1.cell? ⟨0,0,none⟩=some qB5:=(hK1.cell (a:=⟨0,0,none⟩) (by simp;omega) (by simp;omega)).trans hg;have hs1:=hK1.size;have hK1':Kp [B,A,C] w w1:=hK1.mono (by simp +contextual);clear hB hA hC may were hK1 hg;have k0:=ξ hB1 0;simp only[qF1,zG,zH,zI] at k0;go_wp2_with fail;refine (qE6 A n C _ calls writes w1 hA1).mono ?_;rintro e w1 ⟨rfl,rfl⟩;go_wp2_with fail;by_cases hfit:8≤n∧n≤400
 ·have h8:=hfit.1;have h400:=hfit.2;clear hfit;have hst:(Fresh l∧N=0)∨Formatted l N:=by
   rcases HST.out with⟨h,_,h2⟩|⟨h,_⟩
   ·exact .inl ⟨h h8,h2⟩
   ·exact .inr h
  have hN:0≤N∧N % 2=0∧N≤2*T:=by
   rcases HST.out with⟨_,_,h2⟩|⟨h,h2,_⟩
   ·subst h2;exact⟨by omega,by omega,by omega⟩
   ·exact⟨by have:=h.low;omega,h.even,h2⟩
  have hm1:m≤1:=by
   rcases HST.out with⟨_,h2,_⟩|⟨_,_,h2,_⟩<;>omega
  refine (xK7 A n C calls writes l N _ hA1 calls0 (by omega) writes0 (by omega) h8 h400 hC1 len HCA.out hst hN.1 hN.2.1 (by omega)).mono ?_;clear hst;rintro e w2 ⟨rfl,hA2,hC2,hK2⟩;have hB2:=hK2.heap hB1 (by simp;exact⟨HBA.out,HBC.out⟩);have hap:Apart w1 [A,C] 126:=fun k hk=>by
   simp only[List.mem_cons,List.not_mem_nil,or_false] at hk;rcases hk with rfl|rfl
   ·exact⟨_,_,_,hA1,by decide⟩
   ·exact⟨_,_,_,hC1,by decide⟩
  have may2:=may1.keep hK2 hap;have were2:=were1.keep hK2 hap;have hK2':Kp [B,A,C] w w2:=hK1'.trans hK2 (by simp +contextual);have hs2:=hK2.size;clear hA1 hC1 hB1 may1 were1 hK2 hK1' k0 hg1 hap;go_wp2_with fail;refine (qU2 _).mono ?_;rintro e w2 ⟨rfl,rfl⟩;have c0:=ξ hB2 0;have c1:=ξ hB2 1;have c2:=ξ hB2 2;have c3:=ξ hB2 3;have c4:=ξ hB2 4;have c5:=ξ hB2 5;have c6:=ξ hB2 6;simp only[qF1,zG,zH,zI] at c0 c1 c2 c3 c4 c5 c6
  go_wp2_with (go_at_call 127;refine (qC3 _ _).mono ?_;rintro e w2 ⟨rfl,rfl⟩)
  refine (zC0 _ _ n _ _ _ _ h8 h400).mono ?_;rintro e w3 ⟨rfl,hK3⟩;have hB3:=hK3.hp hB2;have hA3:=hK3.hp hA2;have hC3:=hK3.hp hC2;have may3:=may2.keep hK3 (by intro k h;simp at h);have were3:=were2.keep hK3 (by intro k h;simp at h);have hK3':Kp [B,A,C] w w3:=hK2'.tr hK3;clear hB2 hA2 hC2 may2 were2 hK2' hK3 c0 c1 c2 c3 c4 c5 c6 hs2;have c0:=ξ hB3 0;have c1:=ξ hB3 1;have c2:=ξ hB3 2;have c3:=ξ hB3 3;have c4:=ξ hB3 4;have c5:=ξ hB3 5;have c6:=ξ hB3 6;simp only[qF1,zG,zH,zI] at c0 c1 c2 c3 c4 c5 c6;go_wp2_with fail;refine (zE4 base m cm k cw pm pw n _ _ _ w3 may3 were3 (by omega) (by omega)).mono ?_;rintro e w4 ⟨gm,gw,cw',rfl,may4,were4,hK4⟩;have hB4:=hK4.hp hB3;have hA4:=hK4.hp hA3;have hC4:=hK4.hp hC3;have hK4':Kp [B,A,C] w w4:=hK3'.tr hK4;have hs3:=hK3'.size;clear hB3 hA3 hC3 may3 were3 hK3' hK4 c0 c1 c2 c3 c4 c5 c6;have c0:=ξ hB4 0;have c1:=ξ hB4 1;have c2:=ξ hB4 2;have c3:=ξ hB4 3;have c4:=ξ hB4 4;have c5:=ξ hB4 5;have c6:=ξ hB4 6;simp only[qF1,zG,zH,zI] at c0 c1 c2 c3 c4 c5 c6;have f1:=ρ hB4;go_wp2;go_ret;obtain⟨w5,hw5,hB5,hK5⟩:∃ w5,w5=((((((((w4.setCell ⟨B,1,none⟩ (.int .i64 n)).setCell ⟨B,2,none⟩ (.slice (some ⟨gm,0,none⟩) 1 1)).setCell ⟨B,3,none⟩ (.bool false)).setCell ⟨B,4,none⟩ (.slice (some ⟨gw,0,none⟩) (k+1) cw')).setCell ⟨B,5,none⟩ (.bool false)).setCell ⟨B,6,none⟩ (.bool false)).setCell ⟨B,5,none⟩ (.bool false)).setCell ⟨B,6,none⟩ (.bool false))∧w5.heap[B]?=some (qF1 A n (.slice (some ⟨gm,0,none⟩) 1 1) (.slice (some ⟨gw,0,none⟩) (k+1) cw') none (.slice none 0 0) li wa)∧Kp [B] w4 w5:=
   ⟨_,rfl,(μ (μ (μ (μ (μ (μ (μ (μ hB4 1 _) 2 _) 3 _) 4 _) 5 _) 6 _) 5 _) 6 _),(((((((((Kp.refl [B] w4).sc _).sc _).sc _).sc _).sc _).sc _).sc _).sc _)⟩
  rw[←hw5];clear hw5;have hap:Apart w4 [B] 126:=fun k hk=>by rw[List.mem_singleton.1 hk];exact⟨_,_,_,hB4,by decide⟩
  have hl:(qM0 l N).length=n*128:=by rw[xK4 _ _ (by omega),len]
  refine⟨rfl,⟨⟨B,A,C,n,qM0 l N,calls+6,writes+2,N+2,some ⟨gm,0,none⟩,1,1,some ⟨gw,0,none⟩,k+1,cw',none,.slice none 0 0,li,wa⟩,?_,rfl,rfl,rfl,rfl,rfl,rfl,rfl,rfl⟩,hK4'.trans hK5 (by simp +contextual)⟩;exact⟨bB,bA,bC,hB5,hK5.heap hA4 (by simp;exact fun e=>HBA.out e.symm),hK5.heap hC4 (by simp;exact fun e=>HBC.out e.symm),hl,n1000,by show (0:Int)≤calls+6;omega,by show calls+6≤6*(T+1);omega,by show (0:Int)≤writes+2;omega,by show writes+2≤2*(T+1);omega,by show ((k+1:Nat):Int)≤T+1;omega,(may4.le (by omega)).keep hK5 hap,(were4.le (by omega)).keep hK5 hap,.inr ⟨xK5 l N (by omega) hN.1 hN.2.1 (by omega),by show N+2≤2*(T+1);omega,rfl,rfl,gm,rfl⟩⟩
 ·have hbad:n<8∨400<n:=by omega
  clear hfit;have HB:=zh hbad;refine (xK6 A n C _ calls writes _ hA1 hbad).mono ?_;clear hbad;rintro e w2 ⟨F,call,rfl,hF,hF2,hK2⟩;have hB2:=hK2.hp hB1;have hA2:=hK2.hp hA1;have hC2:=hK2.hp hC1;have may2:=may1.keep hK2 (by intro k h;simp at h);have were2:=were1.keep hK2 (by intro k h;simp at h);have hg2:w2.cell? ⟨0,0,none⟩=some qB5:=(hK2.cell (a:=⟨0,0,none⟩) (by simp;omega) (by simp)).trans hg1;have hK2':Kp [B,A,C] w w2:=hK1'.tr hK2;clear hA1 hC1 hB1 may1 were1 hK2 hK1' k0 hg1;go_wp2_with fail;refine (qY9 F call 10 _ hg2 hF2).mono ?_;rintro e w3 ⟨rfl,hK3⟩;have hB3:=hK3.hp hB2;have hA3:=hK3.hp hA2;have hC3:=hK3.hp hC2;have may3:=may2.keep hK3 (by intro k h;simp at h);have were3:=were2.keep hK3 (by intro k h;simp at h);have hK3':Kp [B,A,C] w w3:=hK2'.tr hK3;clear hB2 hA2 hC2 may2 were2 hK2' hK3 hg2 hF2 hF;have c0:=ξ hB3 0;have c1:=ξ hB3 1;have c2:=ξ hB3 2;have c3:=ξ hB3 3;have c4:=ξ hB3 4;have c5:=ξ hB3 5;have c6:=ξ hB3 6;simp only[qF1,zG,zH,zI] at c0 c1 c2 c3 c4 c5 c6
  go_wp2_with (go_at_call 127;refine (qC3 _ _).mono ?_;rintro e w3 ⟨rfl,rfl⟩)
  refine (zM3 _ _ n _ _ _ _ HB.out).mono ?_;rintro e w4 ⟨rfl,hK4⟩;have hB4:=hK4.hp hB3;have hA4:=hK4.hp hA3;have hC4:=hK4.hp hC3;have may4:=may3.keep hK4 (by intro k h;simp at h);have were4:=were3.keep hK4 (by intro k h;simp at h);have hK4':Kp [B,A,C] w w4:=hK3'.tr hK4;clear hB3 hA3 hC3 may3 were3 hK3' hK4 c0 c1 c2 c3 c4 c5 c6;go_wp2;go_ret;refine⟨rfl,⟨⟨B,A,C,n,l,calls,writes,N,pm,m,cm,pw,k,cw,none,.slice none 0 0,li,wa⟩,?_,rfl,rfl,rfl,rfl,rfl,rfl,rfl,rfl⟩,hK4'⟩;exact⟨bB,bA,bC,hB4,hA4,hC4,len,n1000,calls0,by show calls≤6*(T+1);omega,writes0,by show writes≤2*(T+1);omega,by show ((k:Nat):Int)≤T+1;omega,may4,were4,by
   rcases HST.out with h|⟨h1,h2,h3⟩
   ·exact .inl h
   ·exact .inr ⟨h1,by show N≤2*(T+1);omega,h3⟩⟩
end Go.Proofs.YtdohpenfkdckiaaGreatDoor.Gen
