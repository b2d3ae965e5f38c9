import Derived.Test.YtdohpenfkdckiaaGreatDoorT17
set_option linter.all false
set_option maxRecDepth 100000
set_option maxHeartbeats 20000000
namespace Go.Proofs.YtdohpenfkdckiaaGreatDoor.Gw
open Go.Proofs.Tryz
open Go.RowKit
structure DOps(I:DInv)(ks:List Int):Prop where
 fmt:∀ (base:Nat) (T:Int) (w:World) (g:I.G),I.ok base T w g→0≤T→T≤40000→0<base→base≤w.heap.size→w.cell? ⟨0,0,none⟩=some qC1→
  Calls prog 80 #[.pointer (some ⟨I.B g,0,none⟩)] w fun e w'=>e=.returned (.bool true)∧DStep I base (T+2) w w' g
 opn:∀ (base:Nat) (T:Int) (w:World) (g:I.G),I.ok base T w g→0≤T→T≤40000→0<base→base≤w.heap.size→w.cell? ⟨0,0,none⟩=some qC1→
  Calls prog 81 #[.pointer (some ⟨I.B g,0,none⟩)] w fun e w'=>e=.returned (.bool true)∧DStep I base (T+2) w w' g
 beg:∀ (base:Nat) (T:Int) (w:World) (g:I.G),I.ok base T w g→0≤T→T≤40000→0<base→base≤w.heap.size→w.cell? ⟨0,0,none⟩=some qC1→(I.kf g).x≠none→∀ wrt:Bool,
  Calls prog 82 #[.pointer (some ⟨I.B g,0,none⟩),.bool wrt] w fun e w'=>e=.returned (.bool true)∧DStep I base (T+2) w w' g
 txn:∀ (base:Nat) (T:Int) (w:World) (g:I.G),I.ok base T w g→0≤T→T≤40000→0<base→base≤w.heap.size→w.cell? ⟨0,0,none⟩=some qC1→(I.kf g).x≠none→∀ (j:Nat) (hj:j<(I.tbs g).length) (o:SOp),13≤o.k→o.k∈ks→SFits o→
  Calls prog 83 #[.pointer (some ⟨I.B g,0,none⟩),.pointer (some ⟨(I.tbs g)[j],0,none⟩),.agg #[.int .i64 o.k,.int .i64 o.x,.int .i64 o.y,.int .i64 o.a,.int .i64 o.b,.string o.s,.string o.t]] w fun e w'=>e=.returned (.bool true)∧DStep I base (T+2) w w' g
 looks:∀ (base:Nat) (T:Int) (w:World) (g:I.G),I.ok base T w g→0≤T→T≤50000→
  Calls prog 84 #[.pointer (some ⟨I.B g,0,none⟩)] w fun e w'=>e=.returned (.bool true)∧Kp [] w w'
def qN2(I:DInv)(base Wb:Nat)(T:Int)(w w':World):Prop:=(∃ ds',WOk I base (T+2) w' Wb ds')∧Below base w w'
theorem WOk.done{I:DInv}{base Wb:Nat}{T:Int}{w w1 w2:World}{ds:List I.G}(h:WOk I base T w Wb ds)(hK:Kp [] w w1)(j:Nat)(hj:j<ds.length)(hs:DStep I base (T+2) w1 w2 ds[j]):qN2 I base Wb T w w2:=by
 have h1:=h.same hK (Int.le_refl _);exact⟨h1.one j hj hs (by omega),(hK.below h.hbs (by simp)).trans (hs.below (h1.all _ (List.getElem_mem hj)) h1.hbs)⟩
theorem WOk.idle{I:DInv}{base Wb:Nat}{T:Int}{w w1:World}{ds:List I.G}(h:WOk I base T w Wb ds)(hK:Kp [] w w1):qN2 I base Wb T w w1:=
 ⟨⟨ds,h.same hK (by omega)⟩,hK.below h.hbs (by simp)⟩
theorem xO7{I:DInv}{cur:Array Value}{ds:List I.G}(h:cur.toList.take (ds.length*1)=qG1 I ds)(j:Nat)(hj:j<ds.length):cur[j]?=some (.pointer (some ⟨I.B ds[j],0,none⟩)):=by
 have e:(qG1 I ds)[j]?=some (.pointer (some ⟨I.B ds[j],0,none⟩)):=by simp[qG1,hj]
 rw[←h,List.getElem?_take_of_lt (by omega)] at e;simpa using e
theorem xT1(I:DInv)(ks:List Int)(O:DOps I ks)(base Wb:Nat)(T:Int)(ds:List I.G)(k x y a b:Int)(s t:ByteArray)(w:World)(h:WOk I base T w Wb ds)(hT0:0≤T)(hT:T≤40000)(hf:SFits ⟨k,x,y,a,b,s,t⟩)(hkk:k∈ks)(hk10:10≤k)(hk20:k≤20)(hd:ds.length≠0):
  Calls prog 40 #[.pointer (some ⟨Wb,0,none⟩),.agg #[.int .i64 k,.int .i64 x,.int .i64 y,.int .i64 a,.int .i64 b,.string s,.string t]] w fun e w'=>e=.returned (.bool true)∧qN2 I base Wb T w w':=by
 have hbs0:=h.hbs;have hK0:Kp [] w (w.alloc (.cells #[.int .i64 k,.int .i64 x,.int .i64 y,.int .i64 a,.int .i64 b,.string s,.string t] 66)):=(Kp.refl _ _).alloc _;have HK0:=zh hK0;have HH:=zh h;have HF:Hid (SFits ⟨k,x,y,a,b,s,t⟩∧k∈ks):=⟨hf,hkk⟩;have hx0:=hf.x.1;have hx1:=hf.x.2;have hy0:=hf.y.1;have hy1:=hf.y.2;simp only at hx0 hx1 hy0 hy1;clear h hK0 hf hkk;have hb20:¬20<k:=by omega
 have hb10:¬k<10:=by omega
 go_enter func40,ntmps40;go_wp2_with fail;refine (zM2 Wb k x y a b s t _ (by omega)).mono ?_;rintro e w1 ⟨rfl,hK1⟩;have HK1:Hid (Kp [] w w1):=HK0.out.tr hK1;have HH1:Hid (WOk I base T w1 Wb ds):=HH.out.same HK1.out (Int.le_refl _);have hO1:=hK1.heap (κ w (.cells #[.int .i64 k,.int .i64 x,.int .i64 y,.int .i64 a,.int .i64 b,.string s,.string t] 66)) (by simp);obtain⟨pk,nk,ck,xs,pd,cd,hWb1,h2,h3,h4⟩:=HH1.out.hW;obtain⟨gd,cur,rfl,hgd,hR1,hcur⟩:=xN6 h4 (by omega);have hWs:=ζ hWb1;have hOs:=ζ hO1;have hgs:=ζ hR1;have hl:=HH1.out.len;have hn0:¬((ds.length:Int)=0):=by omega
 have k1:=ξ hWb1 1;simp only[qE2,zG,zH,zI] at k1;have o0:=ξ hO1 0;simp only[zG,zH,zI] at o0;clear h2 h3 h4 hK1;go_wp2_with fail
 ·rename_i hbr;exfalso;simp at hbr;rcases hbr with (hbr|hbr)|hbr
  ·exact hd (by simp[hbr])
  ·omega
  ·omega
 have hS0:w1.drew.heap[Wb]?=some (qE2 pk nk ck (some ⟨gd,0,none⟩) ds.length cd)∧w1.drew.heap[w.heap.size]?=some (.cells #[.int .i64 k,.int .i64 x,.int .i64 y,.int .i64 a,.int .i64 b,.string s,.string t] 66)∧w1.drew.heap[gd]?=some (.cells cur 119):=⟨hWb1,hO1,hR1⟩;refine wp_region_held_drew (S:=fun W=>W.heap[Wb]?=some (qE2 pk nk ck (some ⟨gd,0,none⟩) ds.length cd)∧W.heap[w.heap.size]?=some (.cells #[.int .i64 k,.int .i64 x,.int .i64 y,.int .i64 a,.int .i64 b,.string s,.string t] 66)∧W.heap[gd]?=some (.cells cur 119)) (by kernel_rfl) hS0 (fun _=>?_);refine zP 0 Wb 0 hS0 ?_;refine zP 1 Wb 0 hS0 ?_;refine zP 2 Wb 1 hS0 ?_;refine zV 3 (.slice (some ⟨gd,0,none⟩) ds.length cd) rfl (fun W hS=>by have c:=ξ hS.1 1;simp[qE2] at c;clear hS;go_simp) hS0 ?_;refine zP 4 w.heap.size 1 hS0 ?_;refine zV 5 (.int .i64 x) rfl (fun W hS=>by have c:=ξ hS.2.1 1;simp at c;clear hS;go_simp) hS0 ?_;refine zP 6 Wb 0 hS0 ?_;refine zP 7 Wb 0 hS0 ?_;refine zP 8 Wb 1 hS0 ?_;refine zV 9 (.slice (some ⟨gd,0,none⟩) ds.length cd) rfl (fun W hS=>by have c:=ξ hS.1 1;simp[qE2] at c;clear hS;go_simp) hS0 ?_;refine zU 10 (.int .i64 ds.length) hS0 ?_;refine zq 11 fun K hK=>?_;go_simp;refine (zM8 x ds.length _ hx0 hx1 (by omega) (by omega)).mono ?_;rintro e w2 ⟨j,rfl,hj,rfl⟩;refine hK.out _ _ hS0 (fun _=>?_);clear hK K
 try simp only[zZ]
 refine zU 12 (.pointer (some ⟨gd,j,none⟩)) hS0 ?_;refine zV 13 (.pointer (some ⟨I.B ds[j],0,none⟩)) rfl (fun W hS=>by have c:=ξ hS.2.2 j;rw[xO7 hcur j hj] at c;clear hS;go_simp) hS0 ?_;refine zU 14 (.pointer (some ⟨I.B ds[j],0,none⟩)) hS0 ?_;refine zd ?_;have HO1:=zh hO1;have HKD:=zh HK1.out.drew;have HGJ:Hid (I.ok base T w1.drew ds[j]):=(HH1.out.same (Kp.refl [] _).drew (Int.le_refl _)).all _ (List.getElem_mem hj);have HG0:Hid (w1.drew.cell? ⟨0,0,none⟩=some qC1):=(HH1.out.same (Kp.refl [] _).drew (Int.le_refl _)).g0;have HBS:=zh HH1.out.hbs;clear hS0 hcur hR1 hWb1 hO1 k1 hgs hWs o0 hOs;have hOs:=ζ HO1.out;have hO1:=HO1.out;have o0:=ξ hO1 0;simp only[zG,zH,zI] at o0;clear hO1;by_cases e10:k=10
 ·subst e10;go_wp2_with fail;refine (O.fmt base T w1.drew _ HGJ.out hT0 hT HH.out.hb HBS.out HG0.out).mono ?_;rintro e w2 ⟨rfl,hs⟩;have HX:Hid (qN2 I base Wb T w w2):=HH.out.done HKD.out j hj hs;clear hs;go_wp2;go_ret;exact⟨rfl,HX.out⟩
 by_cases e11:k=11
 ·subst e11;go_wp2_with fail;refine (O.opn base T w1.drew _ HGJ.out hT0 hT HH.out.hb HBS.out HG0.out).mono ?_;rintro e w2 ⟨rfl,hs⟩;have HX:Hid (qN2 I base Wb T w w2):=HH.out.done HKD.out j hj hs;clear hs;go_wp2;go_ret;exact⟨rfl,HX.out⟩
 have hkB:=I.kob_ HGJ.out;have hBs:=ζ hkB;have b7:=ξ hkB 7;have b11:=ξ hkB 11;simp only[kob,zG,zH,zI] at b7 b11
 cases hxx:(I.kf ds[j]).x with
 | none=>
  rw[hxx] at b7;clear hxx hkB b11;go_wp2;go_ret;exact⟨rfl,HH.out.idle HKD.out⟩
 | some xa=>
  rw[hxx] at b7;have HXN:Hid ((I.kf ds[j]).x≠none):=by intro h;rw[h] at hxx;cases hxx
  by_cases e12:k=12
  ·subst e12;have hO1:=HO1.out;have o3:=ξ hO1 3;simp only[zG,zH,zI] at o3;clear hO1 hxx hkB;go_wp2_with fail;refine (O.beg base T w1.drew _ HGJ.out hT0 hT HH.out.hb HBS.out HG0.out HXN.out _).mono ?_;rintro e w2 ⟨rfl,hs⟩;have HX:Hid (qN2 I base Wb T w w2):=HH.out.done HKD.out j hj hs;clear hs;go_wp2;go_ret;exact⟨rfl,HX.out⟩
  obtain⟨pt,ct,hts,hrow⟩:=I.row HGJ.out;have htl:=I.tlen HGJ.out;rw[hts] at b11;by_cases hz:(I.tbs ds[j]).length=0
  ·rw[hz] at b11;clear hxx hkB hrow;go_wp2;go_ret;exact⟨rfl,HH.out.idle HKD.out⟩
  obtain⟨gt,curt,rfl,hRt,hct⟩:=hrow (by omega);have hz0:¬(((I.tbs ds[j]).length:Int)=0):=by omega
  obtain⟨m,hm⟩:∃ m,(I.tbs ds[j]).length=m:=⟨_,rfl⟩;rw[hm] at b11 hz0 htl hz;have hgt:=ζ hRt;have HB7:=zh hkB;have HTS:Hid ((I.kf ds[j]).ts=.slice (some ⟨gt,0,none⟩) m ct):=by rw[←hm];exact hts
  have HRt:=zh hRt;have HCT:Hid (∀ i (h:i<m),curt[i]?=some (.pointer (some ⟨(I.tbs ds[j])[i]'(by omega),0,none⟩))):=fun i h=>hct i (by omega);have HO1b:=HO1;clear hxx hkB hRt hct hts;go_wp2_with fail;have hb11:∀ V:World,V.heap[I.B ds[j]]?=some (kob (I.kf ds[j]))→V.cell? ⟨I.B ds[j],11,none⟩=some (.slice (some ⟨gt,0,none⟩) m ct):=fun V hV=>by
   have c:=ξ hV 11;simp only[kob,zG,zH,zI] at c;rw[c,HTS.out]
  have hS0:w1.drew.drew.heap[I.B ds[j]]?=some (kob (I.kf ds[j]))∧w1.drew.drew.heap[w.heap.size]?=some (.cells #[.int .i64 k,.int .i64 x,.int .i64 y,.int .i64 a,.int .i64 b,.string s,.string t] 66)∧w1.drew.drew.heap[gt]?=some (.cells curt 132):=⟨HB7.out,HO1.out,HRt.out⟩;refine wp_region_held_drew (S:=fun W=>W.heap[I.B ds[j]]?=some (kob (I.kf ds[j]))∧W.heap[w.heap.size]?=some (.cells #[.int .i64 k,.int .i64 x,.int .i64 y,.int .i64 a,.int .i64 b,.string s,.string t] 66)∧W.heap[gt]?=some (.cells curt 132)) (by kernel_rfl) hS0 (fun _=>?_);refine zU 0 (.pointer (some ⟨I.B ds[j],0,none⟩)) hS0 ?_;refine zU 1 (.pointer (some ⟨I.B ds[j],0,none⟩)) hS0 ?_;refine zU 2 (.pointer (some ⟨I.B ds[j],11,none⟩)) hS0 ?_;refine zV 3 (.slice (some ⟨gt,0,none⟩) m ct) rfl (fun W hS=>by have c:=hb11 _ hS.1;clear hS;go_simp) hS0 ?_;refine zP 4 w.heap.size 2 hS0 ?_;refine zV 5 (.int .i64 y) rfl (fun W hS=>by have c:=ξ hS.2.1 2;simp at c;clear hS;go_simp) hS0 ?_;refine zU 6 (.pointer (some ⟨I.B ds[j],0,none⟩)) hS0 ?_;refine zU 7 (.pointer (some ⟨I.B ds[j],0,none⟩)) hS0 ?_;refine zU 8 (.pointer (some ⟨I.B ds[j],11,none⟩)) hS0 ?_;refine zV 9 (.slice (some ⟨gt,0,none⟩) m ct) rfl (fun W hS=>by have c:=hb11 _ hS.1;clear hS;go_simp) hS0 ?_;refine zU 10 (.int .i64 m) hS0 ?_;refine zq 11 fun K hK=>?_;go_simp;refine (zM8 y m _ hy0 hy1 (by omega) (by omega)).mono ?_;rintro e w2 ⟨jt,rfl,hjt,rfl⟩;refine hK.out _ _ hS0 (fun _=>?_);clear hK K
  try simp only[zZ]
  refine zU 12 (.pointer (some ⟨gt,jt,none⟩)) hS0 ?_;refine zV 13 (.pointer (some ⟨(I.tbs ds[j])[jt]'(by omega),0,none⟩)) rfl (fun W hS=>by have c:=ξ hS.2.2 jt;rw[HCT.out jt hjt] at c;clear hS;go_simp) hS0 ?_;refine zU 14 (.pointer (some ⟨(I.tbs ds[j])[jt]'(by omega),0,none⟩)) hS0 ?_;refine zd ?_;have HKD2:=zh HKD.out.drew;have HGJ2:Hid (I.ok base T w1.drew.drew ds[j]):=I.keep HGJ.out (Kp.refl [] _).drew (Muts.nil _ _ _) (by simp) (Int.le_refl _);have HG02:=zh HG0.out;have HO2:=zh HO1.out;have HBS2:=zh HBS.out;clear hS0 o0 b7 b11 hb11 hgt hBs hOs;have hOs:=ζ HO2.out;have hO2:=HO2.out;have o0:=ξ hO2;clear hO2;go_wp2_with fail;refine (O.txn base T w1.drew.drew _ HGJ2.out hT0 hT HH.out.hb HBS2.out HG02.out HXN.out jt (by omega) ⟨k,x,y,a,b,s,t⟩ (by show 13≤k;omega) HF.out.2 HF.out.1).mono ?_;rintro e w2 ⟨rfl,hs⟩;have HS:=zh hs;obtain⟨g',L',q1,q2,_⟩:=hs;have HLK:=O.looks base (T+2) w2 g' q1 (by omega) (by omega);rw[q2] at HLK;clear q1 q2;go_wp2_with fail;refine HLK.mono ?_;rintro e w3 ⟨rfl,hK3⟩;have HX:Hid (qN2 I base Wb T w w3):=HH.out.done HKD2.out j hj (HS.out.after hK3);clear hK3;go_wp2;go_ret;exact⟨rfl,HX.out⟩
theorem zC7(I:DInv)(base Wb:Nat)(T:Int)(ds:List I.G)(k x y a b:Int)(s t:ByteArray)(w:World)(h:WOk I base T w Wb ds)
  (H:∀ w,WOk I base T w Wb ds→Calls prog 78 #[.pointer (some ⟨Wb,0,none⟩),.agg #[.int .i64 k,.int .i64 x,.int .i64 y,.int .i64 a,.int .i64 b,.string s,.string t]] w fun e w'=>e=.returned (.bool true)∧(∃ ds',WOk I base (T+2) w' Wb ds')∧Below base w w'):
  Calls prog 40 #[.pointer (some ⟨Wb,0,none⟩),.agg #[.int .i64 k,.int .i64 x,.int .i64 y,.int .i64 a,.int .i64 b,.string s,.string t]] w fun e w'=>e=.returned (.bool true)∧(∃ ds',WOk I base (T+2) w' Wb ds')∧Below base w w':=by
 have hK0:Kp [] w (w.alloc (.cells #[.int .i64 k,.int .i64 x,.int .i64 y,.int .i64 a,.int .i64 b,.string s,.string t] 66)):=(Kp.refl _ _).alloc _;have HC:=H _ (h.same hK0 (Int.le_refl _));have HB:Hid (Below base w (w.alloc (.cells #[.int .i64 k,.int .i64 x,.int .i64 y,.int .i64 a,.int .i64 b,.string s,.string t] 66))):=hK0.below h.hbs (by simp);clear H h hK0;go_enter func40,ntmps40;go_wp2_with fail;refine HC.mono ?_;rintro e w1 ⟨rfl,⟨ds',h1⟩,h2⟩;have H1:=zh h1;have H2:=zh h2;clear h1 h2 HC;go_wp2;go_ret;exact⟨rfl,⟨ds',H1.out⟩,HB.out.trans H2.out⟩
theorem zO9(I:DInv)(base Wb:Nat)(T:Int)(ds:List I.G)(k x y a b:Int)(s t:ByteArray)(w:World)(h:WOk I base T w Wb ds)
  (H:∀ w,Calls prog 78 #[.pointer (some ⟨Wb,0,none⟩),.agg #[.int .i64 k,.int .i64 x,.int .i64 y,.int .i64 a,.int .i64 b,.string s,.string t]] w fun e w'=>e=.returned (.bool false)∧Kp [] w w') (hk:ds.length=0∨k<1):
  Calls prog 40 #[.pointer (some ⟨Wb,0,none⟩),.agg #[.int .i64 k,.int .i64 x,.int .i64 y,.int .i64 a,.int .i64 b,.string s,.string t]] w fun e w'=>e=.returned (.bool true)∧(∃ ds',WOk I base (T+2) w' Wb ds')∧Below base w w':=by
 have HC:=H (w.alloc (.cells #[.int .i64 k,.int .i64 x,.int .i64 y,.int .i64 a,.int .i64 b,.string s,.string t] 66));have HH:=zh h;clear H h;go_enter func40,ntmps40;go_wp2_with fail;refine HC.mono ?_;rintro e w1 ⟨rfl,hK1⟩;have HK1:Hid (Kp [] w w1):=((Kp.refl _ _).alloc _).tr hK1;have HH1:Hid (WOk I base T w1 Wb ds):=HH.out.same HK1.out (Int.le_refl _);have hO1:=hK1.heap (κ w (.cells #[.int .i64 k,.int .i64 x,.int .i64 y,.int .i64 a,.int .i64 b,.string s,.string t] 66)) (by simp);obtain⟨pk,nk,ck,xs,pd,cd,hWb1,h2,h3,h4⟩:=HH1.out.hW;have hWs:=ζ hWb1;have hOs:=ζ hO1;have k1:=ξ hWb1 1;simp only[qE2,zG,zH,zI] at k1;have o0:=ξ hO1 0;simp only[zG,zH,zI] at o0;clear h2 h3 h4 hK1 HC hO1 hWb1;by_cases hn0:(ds.length:Int)=0
 ·clear hk;go_wp2;go_ret;exact⟨rfl,⟨ds,HH1.out.same (Kp.refl _ _) (by omega)⟩,HK1.out.below HH.out.hbs (by simp)⟩
 ·have hk1:k<1:=by omega
  clear hk;have hb20:¬20<k:=by omega
  have hb10:k<10:=by omega
  go_wp2
  all_goals
   go_ret;exact⟨rfl,⟨ds,HH1.out.same (Kp.refl _ _) (by omega)⟩,HK1.out.below HH.out.hbs (by simp)⟩
theorem xT2(I:DInv)(ks:List Int)(hks:∀ k∈ks,10≤k∧k≤20)(O:DOps I ks):qW8 I ks:=by
 intro base Wb T ds o w h hf hT0 hT;obtain⟨k,x,y,a,b,s,t⟩:=o;obtain⟨hk,hfit⟩:=hf;simp only at hk ⊢;rcases hk with hk|hk
 ·by_cases h1:k<1
  ·exact zO9 I base Wb T ds k x y a b s t w h (fun w1=>xN9 Wb k x y a b s t w1 h1) (Or.inr h1)
  ·have h3:k=1∨k=2∨k=3:=by omega
   rcases h3 with rfl|rfl|rfl
   ·exact zC7 I base Wb T ds 1 x y a b s t w h (fun w1 h1=>xN8 I base Wb T ds x y a b s t w1 h1 (by omega))
   ·exact zC7 I base Wb T ds 2 x y a b s t w h (fun w1 h1=>xO0 I base Wb T ds x y a b s t w1 h1)
   ·exact zC7 I base Wb T ds 3 x y a b s t w h (fun w1 h1=>xN7 I base Wb T ds x y a b s t w1 h1 (by omega))
 ·have h2:=hks k hk;by_cases hd:ds.length=0
  ·exact zO9 I base Wb T ds k x y a b s t w h (fun w1=>zM2 Wb k x y a b s t w1 (by omega)) (Or.inl hd)
  ·exact xT1 I ks O base Wb T ds k x y a b s t w h hT0 hT hfit hk h2.1 h2.2 hd
end Go.Proofs.YtdohpenfkdckiaaGreatDoor.Gw
namespace Go.Proofs.YtdohpenfkdckiaaGreatDoor.Gw
open Go.Proofs.Tryz
open Go.RowKit
open Go.ChangeMaps
theorem qG8{w:World}{a b:Nat}{c:Array Value}{t:TypeId}{fr:Nat × Nat}{es:Array MapEntry}{m:Nat}(ha:w.heap[a]?=some (.cells c t fr))(hb:w.heap[b]?=some (.map es m)):a≠b:=fun e=>by
 rw[e,hb] at ha;cases ha
theorem zC4{β:Type}(f:YG→β){l:List YG}{i:Nat}(hi:i<l.length){y:YG}(h:f y=f l[i]):(l.set i y).map f=l.map f:=by
 rw[List.map_set,h];exact List.ext_getElem (by simp) (fun j h1 h2=>by
  rw[List.getElem_set];split
  ·rename_i e;subst e;simp
  ·rfl)
theorem zL5{l:List Nat}(h:l.Nodup){i j:Nat}(hi:i<l.length)(hj:j<l.length)(hne:j≠i):l[j]≠l[i]:=fun e=>by
 have hp:=List.pairwise_iff_getElem.1 h;rcases Nat.lt_or_gt_of_ne hne with hlt|hgt
 ·exact hp j i hj hi hlt e
 ·exact hp i j hi hj hgt e.symm
theorem TOk.store{base:Nat}{T:Int}{w:World}{g:TG}(h:TOk base T w g)(hx:g.d.x≠none):∃ q,g.so=some q∧g.d.x=some ⟨q.Db,0,none⟩∧SOk base T w g.d.A g.d.n q g.ys∧∀ y∈g.ys,YOk base T w q.St q.V y:=by
 rcases h.so with⟨e,_⟩|h
 ·exact absurd e hx
 ·exact h
theorem TOk.txn{base:Nat}{T T':Int}{w w':World}{g:TG}{q:SG}{L:List Nat}(h:TOk base T w g)(e1:g.so=some q)(e2:g.d.x=some ⟨q.Db,0,none⟩)(hS:SOk base T w g.d.A g.d.n q g.ys)(hY:∀ y∈g.ys,YOk base T w q.St q.V y)(i:Nat)(hi:i<g.ys.length)(y':YG)(q':SG)(hK:Kp L w w')(hL:∀ k∈L,k=q.St∨k=q.M∨k=g.ys[i].tb∨k=g.ys[i].f.x)(hT:T≤T')
  (et:y'.tb=g.ys[i].tb) (ex:y'.f.x=g.ys[i].f.x) (eSt:q'.St=q.St) (eM:q'.M=q.M) (eV:q'.V=q.V) (eD:q'.Db=q.Db) (hy:YOk base T' w' q.St q.V y') (hs:SOk base T' w' g.d.A g.d.n q' (g.ys.set i y')):DStep qC7 base T' w w' g:=by
 have hyi:=hY _ (List.getElem_mem hi);obtain⟨es,mc,hM⟩:=Gen.RM.obj hS.rm;have hMut:Muts base [169,197,99] w L:=fun k hk=>by
  rcases hL k hk with rfl|rfl|rfl|rfl
  ·exact⟨hS.bSt,_,hS.hSt,fun c t fr e=>by cases e;decide⟩
  ·exact⟨hS.bM,_,hM,fun c t fr e=>by cases e⟩
  ·exact⟨hyi.bT,_,hyi.hT,fun c t fr e=>by cases e;decide⟩
  ·exact⟨hyi.bX,_,hyi.hx,fun c t fr e=>by cases e;decide⟩
 have htb:qB8 { g with so:=some q',ys:=g.ys.set i y' }=qB8 g:=zC4 YG.tb hi et;have hxs:qH4 { g with so:=some q',ys:=g.ys.set i y' }=qH4 g:=zC4 (fun y=>y.f.x) hi ex;refine⟨{ g with so:=some q',ys:=g.ys.set i y' },L,?_,rfl,fun k hk=>.inl ?_,hK,fun k hk=>?_⟩
 ·refine⟨DOk.kp h.d hK hT (hMut.not h.d.hB (by decide)) (hMut.not h.d.hA (by decide)) (hMut.not h.d.hC (by decide)) (hMut.apt (by decide)),Held.kp h.held hK (fun k hk=>?_) (fun k hk=>?_) (hMut.apt (by decide)),by have:=h.hlen;show ((g.hs.length:Nat):Int)≤T';omega,fun x hx=>by have:=h.hps x hx;omega,?_,by have:=h.ylen;show (((g.ys.set i y').length:Nat):Int)≤T';rw[List.length_set];omega,.inr ⟨q',rfl,by rw[eD];exact e2,hs,fun y hy'=>?_⟩,by rw[htb];exact h.tbs,by rw[hxs];exact h.xs⟩
  ·obtain⟨_,c,h2⟩:=qE5 h.held.li k (by simpa using hk);exact hMut.not h2 (by decide)
  ·obtain⟨_,c,h2⟩:=qE5 h.held.wa k (by simpa using hk);exact hMut.not h2 (by decide)
  ·rw[htb];refine qQ1 h.row hK (fun k hk=>?_);obtain⟨_,c,h2⟩:=qE5 h.row k (by simp[show g.d.ts.ownBlock=some k from hk]);exact hMut.not h2 (by decide)
  ·obtain⟨j,hj,rfl⟩:=List.getElem_of_mem hy';simp only[List.length_set] at hj;rw[List.getElem_set,eSt,eV];split
   ·exact hy
   ·rename_i hne;have hyj:=hY _ (List.getElem_mem hj);have n1:g.ys[j].tb≠g.ys[i].tb:=by
     have:=zL5 h.tbs (i:=i) (j:=j) (by simp[qB8];exact hi) (by simp[qB8];exact hj) (fun e=>hne e.symm);simpa [qB8] using this
    have n2:g.ys[j].f.x≠g.ys[i].f.x:=by
     have:=zL5 h.xs (i:=i) (j:=j) (by simp[qH4];exact hi) (by simp[qH4];exact hj) (fun e=>hne e.symm);simpa [qH4] using this
    refine hyj.kp hK hT (fun hm=>?_) (fun hm=>?_) (hMut.apt (by decide))
    ·rcases hL _ hm with e|e|e|e
     ·exact qA8 hyj.hT hS.hSt (by decide) e
     ·exact qG8 hyj.hT hM e
     ·exact n1 e
     ·exact qA8 hyj.hT hyi.hx (by decide) e
    ·rcases hL _ hm with e|e|e|e
     ·exact qA8 hyj.hx hS.hSt (by decide) e
     ·exact qG8 hyj.hx hM e
     ·exact qA8 hyj.hx hyi.hT (by decide) e
     ·exact n2 e
 ·have hk':=qB0.1 hk;rw[htb,hxs] at hk';refine qB0.2 ?_;rw[e1];simp only[qG4,eSt,eM] at hk' ⊢;exact hk'
 ·refine qB0.2 ?_;rw[e1];rcases hL k hk with rfl|rfl|rfl|rfl
  ·exact .inr (.inr (.inr (.inr (.inl (by simp[qG4])))))
  ·exact .inr (.inr (.inr (.inr (.inl (by simp[qG4])))))
  ·exact .inr (.inr (.inr (.inr (.inr (.inl (List.mem_map.2 ⟨_,List.getElem_mem hi,rfl⟩))))))
  ·exact .inr (.inr (.inr (.inr (.inr (.inr (List.mem_map.2 ⟨_,List.getElem_mem hi,rfl⟩))))))
theorem SOk.same{base:Nat}{T T':Int}{w w':World}{A n:Nat}{q:SG}{ys ys':List YG}{L:List Nat}(h:SOk base T w A n q ys)(hK:Kp L w w')(hT:T≤T')(h1:w'.heap[q.St]?=some (μ 0 q.s))(h2:q.M ∉ L)(hS:Apt w L [102,263])(hk:ys'.map kOf=ys.map kOf):SOk base T' w' A n q ys':=
 ⟨h.bSt,h.bM,hK.heap h.hD (fun hm=>hS _ hm _ _ _ h.hD (by simp)),h1,hK.heap h.hV (fun hm=>hS _ hm _ _ _ h.hV (by simp)),h.sV,h.sM,h.po,h.rb,h.rs,h.bl,h.bg0,by have:=h.bg1;omega,h.rm.kp hK h2,by have:=h.nM;omega,by rw[hk];exact h.bk⟩
theorem YOk.liveT{base:Nat}{T:Int}{w:World}{A n:Nat}{q:SG}{ys:List YG}{y:YG}(h:YOk base T w q.St q.V y)(hS:SOk base T w A n q ys)(ho:y.t.over=false)(hT:T≤40000)(hn:n≤1000):LiveT (E0 q.V) w y.f.x A n y.t q.s y.r:=by
 obtain⟨a1,a2,a3,a4⟩:=h.live ho;have hsz:=h.sz;have hch:=h.ch1;have hbl:=hS.bl;exact⟨h.hx,ho,a1,by rw[h.st];exact hS.hSt,hS.po,hS.sV,hS.hV,hn,by omega,by omega,trivial,by simp[Gen.E0],a2,a3,by rw[a4];omega,h.ch0,by omega⟩
theorem TOk.quiet{base:Nat}{T T':Int}{w w':World}{g:TG}{q:SG}{L:List Nat}(h:TOk base T w g)(e1:g.so=some q)(e2:g.d.x=some ⟨q.Db,0,none⟩)(hS:SOk base T w g.d.A g.d.n q g.ys)(hY:∀ y∈g.ys,YOk base T w q.St q.V y)(i:Nat)(hi:i<g.ys.length)(hK:Kp L w w')(hL:∀ k∈L,k=q.St)(hT:T≤T')(h1:w'.heap[q.St]?=some (μ 0 q.s)):DStep qC7 base T' w w' g:=by
 have hyi:=hY _ (List.getElem_mem hi);obtain⟨es,mc,hM⟩:=Gen.RM.obj hS.rm;have hap:∀ Ts:List TypeId,169 ∉ Ts→Apt w L Ts:=fun Ts hT k hk c t fr e=>by
  rw[hL k hk,hS.hSt] at e;cases e;exact hT
 have hset:g.ys.set i g.ys[i]=g.ys:=by simp
 refine h.txn e1 e2 hS hY i hi g.ys[i] q hK (fun k hk=>.inl (hL k hk)) hT rfl rfl rfl rfl rfl rfl (hyi.kp hK hT (fun hm=>?_) (fun hm=>?_) (hap _ (by decide))) ?_
 ·exact qA8 hyi.hT hS.hSt (by decide) (hL _ hm)
 ·exact qA8 hyi.hx hS.hSt (by decide) (hL _ hm)
 ·refine hS.same hK hT h1 (fun hm=>?_) (hap _ (by decide)) (by rw[hset]);rw[hL _ hm,hS.hSt] at hM;cases hM
structure At(base:Nat)(T:Int)(w:World)(g:TG)(q:SG)(i:Nat)(y:YG):Prop where
 ok:TOk base T w g
 T0:0≤T
 T1:T≤40000
 hb:0<base
 hbs:base≤w.heap.size
 g0:w.cell? ⟨0,0,none⟩=some qC1
 e1:g.so=some q
 e2:g.d.x=some ⟨q.Db,0,none⟩
 S:SOk base T w g.d.A g.d.n q g.ys
 Y:∀ y∈g.ys,YOk base T w q.St q.V y
 hi:i<g.ys.length
 hy:g.ys[i]=y
theorem At.y{base:Nat}{T:Int}{w:World}{g:TG}{q:SG}{i:Nat}{y:YG}(h:At base T w g q i y):YOk base T w q.St q.V y:=by
 have:=h.Y _ (List.getElem_mem h.hi);rw[h.hy] at this;exact this
theorem At.n1{base:Nat}{T:Int}{w:World}{g:TG}{q:SG}{i:Nat}{y:YG}(h:At base T w g q i y):g.d.n≤1000:=by
 have:=h.ok.d.n1000;omega
theorem At.live{base:Nat}{T:Int}{w:World}{g:TG}{q:SG}{i:Nat}{y:YG}(h:At base T w g q i y)(ho:y.t.over=false):LiveT (E0 q.V) w y.f.x g.d.A g.d.n y.t q.s y.r:=h.y.liveT h.S ho h.T1 h.n1
theorem At.xS{base:Nat}{T:Int}{w:World}{g:TG}{q:SG}{i:Nat}{y:YG}(h:At base T w g q i y):y.f.x≠q.St:=qA8 h.y.hx h.S.hSt (by decide)
theorem At.tS{base:Nat}{T:Int}{w:World}{g:TG}{q:SG}{i:Nat}{y:YG}(h:At base T w g q i y):y.tb≠q.St:=qA8 h.y.hT h.S.hSt (by decide)
theorem At.tx{base:Nat}{T:Int}{w:World}{g:TG}{q:SG}{i:Nat}{y:YG}(h:At base T w g q i y):y.tb≠y.f.x:=qA8 h.y.hT h.y.hx (by decide)
theorem At.hStt{base:Nat}{T:Int}{w:World}{g:TG}{q:SG}{i:Nat}{y:YG}(h:At base T w g q i y):w.heap[y.t.St]?=some (μ 0 q.s):=by
 rw[h.y.st];exact h.S.hSt
theorem At.prog{base:Nat}{T:Int}{w:World}{g:TG}{q:SG}{i:Nat}{y:YG}(h:At base T w g q i y):ProgS w [q.St,y.f.x]:=fun k hk=>by
 have hb:=h.hb;simp only[List.mem_cons,List.not_mem_nil,or_false] at hk;rcases hk with rfl|rfl
 ·exact⟨by have:=h.S.bSt;omega,fun c t fr e=>by rw[h.S.hSt] at e;cases e;decide⟩
 ·exact⟨by have:=h.y.bX;omega,fun c t fr e=>by rw[h.y.hx] at e;cases e;decide⟩
theorem At.prog1{base:Nat}{T:Int}{w:World}{g:TG}{q:SG}{i:Nat}{y:YG}(h:At base T w g q i y):ProgS w [q.St]:=fun k hk=>h.prog k (by simp at hk;simp[hk])
theorem At.look{base:Nat}{T:Int}{w:World}{g:TG}{q:SG}{i:Nat}{y:YG}(h:At base T w g q i y):LkIn w g.d.B y.tb g.d.A g.d.n g.d.C (.slice none 0 0) g.d.calls g.d.writes (qB2 g.d) y.f y.ps:=
 ⟨h.ok.d.hB,rfl,rfl,h.ok.d.hA,h.y.hT,h.y.sp,by have:=h.y.sz;have:=h.T1;omega,h.g0⟩
theorem At.chg{base:Nat}{T:Int}{w:World}{g:TG}{q:SG}{i:Nat}{y:YG}(h:At base T w g q i y)(tbs:List Nat)(fs:List (TF × Nat)):ChIn w g.d.B y.tb g.d.A g.d.n g.d.C (.slice none 0 0) g.d.calls g.d.writes (qB2 g.d) y.f tbs fs y.ps:=
 have hT:=h.T1
 ⟨h.ok.d.hB,rfl,rfl,h.ok.d.hA,h.y.hT,h.y.sp,by have:=h.y.sz;omega,h.g0,h.y.m0,by have:=h.y.m1;omega,h.y.c0,by have:=h.y.c1;omega,h.y.s0,by have:=h.y.s1;omega⟩
theorem At.tfs{base:Nat}{T:Int}{w:World}{g:TG}{q:SG}{i:Nat}{y:YG}(h:At base T w g q i y):TFs w (qB2 g.d) (qB8 g) (qF6 g.ys):=
 ⟨PRow.of h.ok.row,by simp[qB8,qF6],fun j h1 h2=>by
  have hj:j<g.ys.length:=by simpa [qB8] using h1
  have hyj:=h.Y _ (List.getElem_mem hj);obtain⟨b,c,e⟩:=hyj.sp.form;exact⟨by simpa [qB8,qF6] using hyj.hT,b,c,by simpa [qF6] using e⟩⟩
def qH1(q:SG)(w1:World):Prop:=w1.heap[q.St]?=some (μ 0 q.s)
theorem At.quiet{base:Nat}{T:Int}{w w1 w':World}{g:TG}{q:SG}{i:Nat}{y:YG}(h:At base T w g q i y)(h1:qH1 q w1)(hK:Kp [q.St] w w1)(hK':Kp [] w1 w'):DStep qC7 base (T+2) w w' g:=
 h.ok.quiet h.e1 h.e2 h.S h.Y i h.hi (hK.tr hK') (by simp) (by omega) (hK'.hp h1)
theorem At.changed{base:Nat}{T:Int}{w w':World}{g:TG}{q:SG}{i:Nat}{y:YG}{r':Root}{qs:List KV}(h:At base T w g q i y)(ho:y.t.over=false)(hg:RGood r')(hc:r'.cont=qs)(hl:qs.length≤y.ps.length+1)
  (hd:qW6 y.f y.tb (fun w1=>∃ h',FineT (E0 q.V) w w1 y.f.x y.t q.s r' h') [q.St,y.f.x] qs w w'):DStep qC7 base (T+2) w w' g:=by
 obtain⟨w1,v',⟨h',hF⟩,hK1,hK2,hT',hsp⟩:=hd;have hyy:=h.y;obtain⟨a1,a2,a3,a4⟩:=hyy.live ho;have hKK:Kp [q.St,y.f.x,y.tb] w w':=(hK1.mono (S':=[q.St,y.f.x,y.tb]) (fun k hk _=>by simp at hk ⊢;rcases hk with h | h<;>simp[h])).trans hK2 (fun k hk _=>by simp at hk ⊢;simp[hk]);have hT1:w1.heap[y.tb]?=some (tob y.f):=hK1.heap hyy.hT (by simp;exact⟨h.tS,h.tx⟩);have hx':w'.heap[y.f.x]?=some (ψ { y.t with h:=h',ch:=y.t.ch+1 }):=hK2.heap hF.hx (by simp;exact fun e=>h.tx e.symm);have hSt1:w1.heap[q.St]?=some (μ 0 q.s):=by have:=hF.hSt;rw[hyy.st] at this;exact this
 have hSt':w'.heap[q.St]?=some (μ 0 q.s):=hK2.heap hSt1 (by simp;exact fun e=>h.tS e.symm);have hap:∀ Ts:List TypeId,169 ∉ Ts→99 ∉ Ts→197 ∉ Ts→Apt w [q.St,y.f.x,y.tb] Ts:=fun Ts n1 n2 n3 k hk c t fr e=>by
  simp only[List.mem_cons,List.not_mem_nil,or_false] at hk;rcases hk with rfl|rfl|rfl
  ·rw[h.S.hSt] at e;cases e;exact n1
  ·rw[hyy.hx] at e;cases e;exact n2
  ·rw[hyy.hT] at e;cases e;exact n3
 obtain⟨es,mc,hM⟩:=Gen.RM.obj h.S.rm;have hlen:((qs.length:Nat):Int)≤T+1:=by have:=hyy.sz;omega
 have m0:=hyy.m0;have m1:=hyy.m1;refine h.ok.txn h.e1 h.e2 h.S h.Y i h.hi ⟨y.tb,y.f.step v' qs.length,{ y.t with h:=h',ch:=y.t.ch+1 },r',qs⟩ q hKK (fun k hk=>?_) (by omega) (by rw[h.hy]) (by rw[h.hy];rfl) rfl rfl rfl rfl ?_ ?_
 ·simp only[List.mem_cons,List.not_mem_nil,or_false] at hk;rw[h.hy];rcases hk with h|h|h
  ·exact .inl h
  ·exact .inr (.inr (.inr h))
  ·exact .inr (.inr (.inl h))
 ·have c0:=hyy.c0;have c1:=hyy.c1;have s0:=hyy.s0;have s1:=hyy.s1;have d0:=hyy.ch0;have d1:=hyy.ch1;refine⟨hyy.bT,hyy.bX,hT',hx',hyy.st,hsp,by show ((qs.length:Nat):Int)≤T+2;omega,?_,?_,by show 0≤y.f.chg+1;omega,by show y.f.chg+1≤T+2;omega,by show 0≤y.f.stp+1;omega,by show y.f.stp+1≤T+2;omega,hyy.com,hyy.wr,hyy.dn,by show 0≤y.t.ch+1;omega,by show y.t.ch+1≤T+2;omega,fun _=>⟨a1,?_,hg,hc⟩⟩
  ·show 0≤(if y.f.most<(qs.length:Nat) then ((qs.length:Nat):Int) else y.f.most);split<;>omega
  ·show (if y.f.most<(qs.length:Nat) then ((qs.length:Nat):Int) else y.f.most)≤T+2;split<;>omega
  ·exact hF.rr.keepT hK2 (fun k hk c t fr e=>by simp at hk;subst hk;rw[hT1] at e;cases e;decide)
 ·refine h.S.same hKK (by omega) hSt' (fun hm=>?_) (hap _ (by decide) (by decide) (by decide)) (zC4 kOf h.hi (by rw[h.hy];rfl));simp only[List.mem_cons,List.not_mem_nil,or_false] at hm;rcases hm with e|e|e
  ·exact qG8 h.S.hSt hM e.symm
  ·exact qG8 hyy.hx hM e.symm
  ·exact qG8 hyy.hT hM e.symm
theorem jA2{y:YG}{key val:ByteArray}{full:Bool}(ho:y.t.over=false)(hw:y.f.wr=y.t.wrt)(hd:y.f.dn=y.t.over)(h:qE6 y.f.wr y.f.dn key val≠0):qP9 y.t ⟨key,val⟩ full=some (qE6 y.f.wr y.f.dn key val):=by
 rw[hw,hd,ho] at h ⊢;simp only[qE6,qP9,Bool.false_eq_true,if_false] at h ⊢;split
 ·rfl
 ·split
  ·rfl
  ·split
   ·rfl
   ·rename_i h1 h2 h3;rw[if_neg h1,if_neg h2,if_neg h3] at h;exact absurd rfl h
theorem zQ0{y:YG}{key val:ByteArray}(ho:y.t.over=false)(hw:y.f.wr=y.t.wrt)(hd:y.f.dn=y.t.over)(h:qE6 y.f.wr y.f.dn key val=0):y.t.wrt=true∧qE7 key=true∧val.size≤12:=by
 rw[hw,hd,ho] at h;simp only[qE6,Bool.false_eq_true,if_false] at h;split at h
 ·simp at h
 ·split at h
  ·simp at h
  ·split at h
   ·simp at h
   ·rename_i h1 h2 h3;exact⟨by simpa using h1,by simpa using h2,by omega⟩
theorem qO3{q:SG}{w w1:World}{t:Tx}(he:t.St=q.St)(h:BadT (E0 q.V) w w1 t q.s):qH1 q w1∧Kp [q.St] w w1:=by
 have h1:=h.hSt;have h2:=h.kp;rw[he] at h1 h2;exact⟨h1,h2⟩
theorem xP2(base:Nat)(T:Int)(w:World)(g:TG)(q:SG)(i:Nat)(y:YG)(key val:ByteArray)(h:At base T w g q i y):
  Calls prog 132 #[.pointer (some ⟨g.d.B,0,none⟩),.pointer (some ⟨y.tb,0,none⟩),.string key,.string val,.bool false] w fun e w'=>e=.returned (.bool true)∧DStep qC7 base (T+2) w w' g:=by
 have hyy:=h.y;have hbad:∀ j,qE6 y.f.wr y.f.dn key val=j→j≠0→(Calls prog 34 #[.pointer (some ⟨y.f.x,0,none⟩),.string key,.string val] w fun e w'=>∃ v,e=.returned v∧qB4 w' v (some j)∧qH1 q w'∧Kp [q.St] w w')→Calls prog 132 #[.pointer (some ⟨g.d.B,0,none⟩),.pointer (some ⟨y.tb,0,none⟩),.string key,.string val,.bool false] w fun e w'=>e=.returned (.bool true)∧DStep qC7 base (T+2) w w' g:=fun j hj hj0 hc=>
  (zY5 g.d.B y.tb g.d.A g.d.n g.d.C (.slice none 0 0) g.d.calls g.d.writes (qB2 g.d) y.f [] [] y.ps key val j (some j) rfl [q.St] (qH1 q) w (h.chg _ _) h.prog1 hj hj0 hc).mono fun e w' ⟨a,w1,b,c,d⟩=>⟨a,h.quiet b c d⟩
 cases ho:y.t.over with
 | true=>
  refine hbad 5 (by rw[hyy.dn,ho];rfl) (by decide) ((xP3 y.f.x y.t q.s ⟨key,val⟩ w hyy.hx ho h.hStt h.S.po (by rw[hyy.st];exact h.xS)).mono ?_);rintro e w' ⟨v,a,b,c,d⟩;rw[hyy.st] at c d;exact⟨v,a,b,c,d⟩
 | false=>
  have hL:=h.live ho;by_cases hw:qE6 y.f.wr y.f.dn key val=0
  ·obtain⟨f1,f2,f3⟩:=zQ0 ho hyy.wr hyy.dn hw;have hok:qE9 ⟨key,val⟩:=⟨((qO9 key).1 f2).1,((qO9 key).1 f2).2,f3⟩;obtain⟨a1,a2,a3,a4⟩:=hyy.live ho;obtain⟨p1,p2⟩:=qL4 a3 hok;have hil:=qK3 ⟨key,val⟩ y.ps;rw[a4] at p2;by_cases hr:((y.r.put ⟨key,val⟩).news:Int)≤(g.d.n:Int)-2-q.s.bl
   ·refine (zY6 g.d.B y.tb g.d.A g.d.n g.d.C (.slice none 0 0) g.d.calls g.d.writes (qB2 g.d) y.f [] [] y.ps key val none rfl [q.St,y.f.x] (fun w1=>∃ h',FineT (E0 q.V) w w1 y.f.x y.t q.s (y.r.put ⟨key,val⟩) h') w (h.chg _ _) h.prog hw ((xP1 (E0 q.V) y.f.x g.d.A g.d.n y.t q.s y.r ⟨key,val⟩ w hL f1 hok hr).mono ?_)).mono fun e w' ⟨a,b⟩=>⟨a,h.changed ho p1 p2 hil b⟩;rintro e w' ⟨rfl,h',hF⟩;have hk:=hF.kp;rw[hyy.st] at hk;exact⟨_,rfl,rfl,⟨h',hF⟩,hk⟩
   ·have hT:=h.T1;have hn:=h.n1;have hsz:=hyy.sz;refine (zY7 g.d.B y.tb g.d.A g.d.n g.d.C (.slice none 0 0) g.d.calls g.d.writes (qB2 g.d) y.f (qB8 g) (qF6 g.ys) y.ps key val (some 3) rfl [q.St] (qH1 q) w (h.chg _ _) h.prog1 hw ((zM9 (E0 q.V) y.f.x g.d.A g.d.n y.t q.s y.r ⟨key,val⟩ 3 w hL ?_).mono ?_) h.tfs ?_ ?_ none 0 0 rfl (by decide) (by show g.d.n≤100000;omega) (by omega) ?_).mono fun e w' ⟨a,w1,b,c,d⟩=>⟨a,h.quiet b c d⟩
    ·have hv:¬12<val.size:=by omega
     simp only[qP9,f1,f2,hv,if_false,Bool.true_eq_false];rw[if_pos (by simp;omega)]
    ·rintro e w' ⟨v,rfl,a,b⟩;obtain⟨b1,b2⟩:=qO3 hyy.st b;exact⟨v,rfl,a,b1,b2⟩
    ·have:=h.ok.ylen;simp[qB8];omega
    ·intro x hx;obtain⟨z,hz,rfl⟩:=List.mem_map.1 hx;have:=(h.Y z hz).sz;simp only;omega
    ·have hst:qD4 (qB2 g.d).com (qF6 g.ys)=0:=zO8 fun x hx=>by
      obtain⟨z,hz,rfl⟩:=List.mem_map.1 hx;show (0:Int)≤z.f.com;rw[(h.Y z hz).com];exact Int.le_refl _
     rw[hst,qQ0];have hnw:=xP5 p1;rw[p2] at hnw;have hbl:=h.S.bl;have:¬(3*(max (max y.f.most ((ins ⟨key,val⟩ y.ps).length:Nat)) ((0:Nat):Int))+12+0≤((qB2 g.d).n:Int)):=by
      show ¬(_≤(g.d.n:Int));omega
     rw[decide_eq_false this];rfl
  ·refine hbad _ rfl hw ((zM9 (E0 q.V) y.f.x g.d.A g.d.n y.t q.s y.r ⟨key,val⟩ _ w hL (jA2 ho hyy.wr hyy.dn hw)).mono ?_);rintro e w' ⟨v,rfl,a,b⟩;obtain⟨b1,b2⟩:=qO3 hyy.st b;exact⟨v,rfl,a,b1,b2⟩
theorem xA1{y:YG}{key:ByteArray}(ho:y.t.over=false)(hw:y.f.wr=y.t.wrt)(hd:y.f.dn=y.t.over)(h:qE6 y.f.wr y.f.dn key ⟨#[]⟩≠0):qQ5 y.t key=some (qE6 y.f.wr y.f.dn key ⟨#[]⟩):=by
 rw[hw,hd,ho] at h ⊢;have h0:¬12<(⟨#[]⟩:ByteArray).size:=by decide
 simp only[qE6,qQ5,Bool.false_eq_true,if_false,if_neg h0] at h ⊢;split
 ·rfl
 ·split
  ·rfl
  ·rename_i h1 h2;rw[if_neg h1,if_neg h2] at h;exact absurd rfl h
theorem zZ8(base:Nat)(T:Int)(w:World)(g:TG)(q:SG)(i:Nat)(y:YG)(key val:ByteArray)(h:At base T w g q i y):
  Calls prog 132 #[.pointer (some ⟨g.d.B,0,none⟩),.pointer (some ⟨y.tb,0,none⟩),.string key,.string val,.bool true] w fun e w'=>e=.returned (.bool true)∧DStep qC7 base (T+2) w w' g:=by
 have hyy:=h.y;have hbad:∀ j,qE6 y.f.wr y.f.dn key ⟨#[]⟩=j→j≠0→(Calls prog 28 #[.pointer (some ⟨y.f.x,0,none⟩),.string key] w fun e w'=>∃ v,e=.returned v∧qB4 w' v (some j)∧qH1 q w'∧Kp [q.St] w w')→Calls prog 132 #[.pointer (some ⟨g.d.B,0,none⟩),.pointer (some ⟨y.tb,0,none⟩),.string key,.string val,.bool true] w fun e w'=>e=.returned (.bool true)∧DStep qC7 base (T+2) w w' g:=fun j hj hj0 hc=>
  (zY3 g.d.B y.tb g.d.A g.d.n g.d.C (.slice none 0 0) g.d.calls g.d.writes (qB2 g.d) y.f [] [] y.ps key val j (some j) rfl [q.St] (qH1 q) w (h.chg _ _) h.prog1 hj hj0 hc).mono fun e w' ⟨a,w1,b,c,d⟩=>⟨a,h.quiet b c d⟩
 cases ho:y.t.over with
 | true=>
  refine hbad 5 (by rw[hyy.dn,ho];rfl) (by decide) ((zZ9 y.f.x y.t q.s key w hyy.hx ho h.hStt h.S.po (by rw[hyy.st];exact h.xS)).mono ?_);rintro e w' ⟨v,a,b,c,d⟩;rw[hyy.st] at c d;exact⟨v,a,b,c,d⟩
 | false=>
  have hL:=h.live ho;by_cases hw:qE6 y.f.wr y.f.dn key ⟨#[]⟩=0
  ·obtain⟨f1,f2,f3⟩:=zQ0 ho hyy.wr hyy.dn hw;obtain⟨a1,a2,a3,a4⟩:=hyy.live ho;obtain⟨p1,p2⟩:=zZ5 (k:=key) a3;have hil:(del key y.ps).length≤y.ps.length+1:=Nat.le_succ_of_le (List.length_filter_le _ _);rw[a4] at p2;refine (zY4 g.d.B y.tb g.d.A g.d.n g.d.C (.slice none 0 0) g.d.calls g.d.writes (qB2 g.d) y.f [] [] y.ps key val none rfl [q.St,y.f.x] (fun w1=>∃ h',FineT (E0 q.V) w w1 y.f.x y.t q.s (y.r.del key) h') w (h.chg _ _) h.prog hw ((zZ4 (E0 q.V) y.f.x g.d.A g.d.n y.t q.s y.r key w hL f1 f2).mono ?_)).mono fun e w' ⟨a,b⟩=>⟨a,h.changed ho p1 p2 hil b⟩;rintro e w' ⟨rfl,h',hF⟩;have hk:=hF.kp;rw[hyy.st] at hk;exact⟨_,rfl,rfl,⟨h',hF⟩,hk⟩
  ·refine hbad _ rfl hw ((zZ3 (E0 q.V) y.f.x g.d.A g.d.n y.t q.s y.r key _ w hL (xA1 ho hyy.wr hyy.dn hw)).mono ?_);rintro e w' ⟨v,rfl,a,b⟩;obtain⟨b1,b2⟩:=qO3 hyy.st b;exact⟨v,rfl,a,b1,b2⟩
theorem qR0(base:Nat)(T:Int)(w:World)(g:TG)(q:SG)(i:Nat)(y:YG)(key:ByteArray)(h:At base T w g q i y):
  Calls prog 133 #[.pointer (some ⟨g.d.B,0,none⟩),.pointer (some ⟨y.tb,0,none⟩),.string key] w fun e w'=>e=.returned (.bool true)∧DStep qC7 base (T+2) w w' g:=by
 have hyy:=h.y;have hq:∀ w',qN1 (qH1 q) [q.St] w w'→DStep qC7 base (T+2) w w' g:=fun w' ⟨w1,b,c,d⟩=>h.quiet b c d
 cases ho:y.t.over with
 | true=>
  refine (zI4 g.d.B y.tb g.d.A g.d.n g.d.C (.slice none 0 0) g.d.calls g.d.writes (qB2 g.d) y.f y.ps key (qH2 y.ps key) (qE7 key) (qC8 y.ps key).isSome 5 (some 5) rfl [q.St] (qH1 q) w h.look h.prog1 rfl (.inl ⟨by rw[hyy.dn,ho],rfl⟩) rfl ((xU2 y.f.x y.t q.s key w hyy.hx ho h.hStt h.S.po (by rw[hyy.st];exact h.xS)).mono ?_)).mono fun e w' ⟨a,b⟩=>⟨a,hq w' b⟩;rintro e w' ⟨v,a,b,c,d⟩;rw[hyy.st] at c d;exact⟨v,a,b,c,d⟩
 | false=>
  have hL:=h.live ho;obtain⟨a1,a2,a3,a4⟩:=hyy.live ho
  cases hk:qE7 key with
  | true=>
   refine (xG6 g.d.B y.tb g.d.A g.d.n g.d.C (.slice none 0 0) g.d.calls g.d.writes (qB2 g.d) y.f y.ps key (qH2 y.ps key) (qC8 y.ps key).isSome none rfl [q.St] (qH1 q) w h.look h.prog1 hk (by rw[hyy.dn,ho]) rfl ((xU0 (E0 q.V) y.f.x g.d.A g.d.n y.t q.s y.r key w hL hk).mono ?_)).mono fun e w' ⟨a,b⟩=>⟨a,hq w' b⟩;rintro e w' ⟨rfl,b⟩;obtain⟨b1,b2⟩:=qO3 hyy.st b;rw[a4];exact⟨_,rfl,rfl,b1,b2⟩
  | false=>
   refine (zI4 g.d.B y.tb g.d.A g.d.n g.d.C (.slice none 0 0) g.d.calls g.d.writes (qB2 g.d) y.f y.ps key (qH2 y.ps key) false (qC8 y.ps key).isSome 1 (some 1) rfl [q.St] (qH1 q) w h.look h.prog1 hk (.inr ⟨by rw[hyy.dn,ho],rfl,rfl⟩) rfl ((xU1 (E0 q.V) y.f.x g.d.A g.d.n y.t q.s y.r key w hL hk).mono ?_)).mono fun e w' ⟨a,b⟩=>⟨a,hq w' b⟩;rintro e w' ⟨v,rfl,a,b⟩;obtain⟨b1,b2⟩:=qO3 hyy.st b;exact⟨v,rfl,a,b1,b2⟩
theorem zR3{base:Nat}{T:Int}{w w':World}{g:TG}{q:SG}{i:Nat}{y:YG}(h:At base T w g q i y)(ho:y.t.over=false)
  (hd:zD6 y.f y.tb (fun w1=>w1.heap[y.f.x]?=some (ψ y.t.ended)∧w1.heap[q.St]?=some (μ 0 (q.s.left y.t.nr))∧RM w1 q.V q.M q.nM (q.D.del (qC0 y.t.nr))) [q.St,y.f.x,q.M] w w'):DStep qC7 base (T+2) w w' g:=by
 obtain⟨w1,⟨r1,r2,r3⟩,hK1,hK2,hT'⟩:=hd;have hyy:=h.y;obtain⟨es,mc,hM⟩:=Gen.RM.obj h.S.rm;have hM':q.M≠y.tb:=fun e=>qG8 hyy.hT hM e.symm;have hKK:Kp [q.St,y.f.x,q.M,y.tb] w w':=(hK1.mono (S':=[q.St,y.f.x,q.M,y.tb]) (fun k hk _=>by simp at hk ⊢;rcases hk with h | h | h<;>simp[h])).trans hK2 (fun k hk _=>by simp at hk ⊢;simp[hk]);have hx':=hK2.heap r1 (by simp;exact fun e=>h.tx e.symm);have hSt':=hK2.heap r2 (by simp;exact fun e=>h.tS e.symm);have hR':=r3.kp hK2 (by simp;exact hM');have hap:∀ Ts:List TypeId,169 ∉ Ts→99 ∉ Ts→197 ∉ Ts→Apt w [q.St,y.f.x,q.M,y.tb] Ts:=fun Ts n1 n2 n3 k hk c t fr e=>by
  simp only[List.mem_cons,List.not_mem_nil,or_false] at hk;rcases hk with rfl|rfl|rfl|rfl
  ·rw[h.S.hSt] at e;cases e;exact n1
  ·rw[hyy.hx] at e;cases e;exact n2
  ·rw[hM] at e;cases e
  ·rw[hyy.hT] at e;cases e;exact n3
 have hap2:=hap [102,263] (by decide) (by decide) (by decide);have hki:(g.ys.map kOf)[i]?=some (kOf y):=by simp[h.hi,h.hy]
 have hbk:=h.S.bk.left (World.ownsMap.tidy h.S.rm qU0) hki ho;refine h.ok.txn h.e1 h.e2 h.S h.Y i h.hi ⟨y.tb,{ y.f with dn:=true },y.t.ended,y.r,y.ps⟩ { q with s:=q.s.left y.t.nr,D:=q.D.del (qC0 y.t.nr) } hKK (fun k hk=>?_) (by omega) (by rw[h.hy]) (by rw[h.hy]) rfl rfl rfl rfl ?_ ?_
 ·simp only[List.mem_cons,List.not_mem_nil,or_false] at hk;rw[h.hy];rcases hk with h|h|h|h
  ·exact .inl h
  ·exact .inr (.inr (.inr h))
  ·exact .inr (.inl h)
  ·exact .inr (.inr (.inl h))
 ·exact⟨hyy.bT,hyy.bX,hT',hx',hyy.st,hyy.sp.keep hKK (hap _ (by decide) (by decide) (by decide)),by have:=hyy.sz;show ((y.ps.length:Nat):Int)≤T+2;omega,hyy.m0,by have:=hyy.m1;show y.f.most≤T+2;omega,hyy.c0,by have:=hyy.c1;show y.f.chg≤T+2;omega,hyy.s0,by have:=hyy.s1;show y.f.stp≤T+2;omega,hyy.com,hyy.wr,rfl,hyy.ch0,by have:=hyy.ch1;show y.t.ch≤T+2;omega,fun hc=>by cases hc⟩
 ·refine⟨h.S.bSt,h.S.bM,hKK.heap h.S.hD (fun hm=>hap2 _ hm _ _ _ h.S.hD (by simp)),hSt',hKK.heap h.S.hV (fun hm=>hap2 _ hm _ _ _ h.S.hV (by simp)),h.S.sV,h.S.sM,h.S.po,h.S.rb,h.S.rs,h.S.bl,h.S.bg0,by have:=h.S.bg1;show q.s.bg≤T+2;omega,hR',by have:=h.S.nM;show ((q.nM:Nat):Int)≤T+2;omega,?_⟩;rw[List.map_set];exact hbk
theorem zR2(base:Nat)(T:Int)(w:World)(g:TG)(q:SG)(i:Nat)(y:YG)(h:At base T w g q i y):
  Calls prog 135 #[.pointer (some ⟨g.d.B,0,none⟩),.pointer (some ⟨y.tb,0,none⟩),.bool false] w fun e w'=>e=.returned (.bool true)∧DStep qC7 base (T+2) w w' g:=by
 have hyy:=h.y;obtain⟨es,mc,hM⟩:=Gen.RM.obj h.S.rm
 cases ho:y.t.over with
 | true=>
  refine (xA8 g.d.B y.tb g.d.A g.d.n g.d.C (.slice none 0 0) g.d.calls g.d.writes (qB2 g.d) y.f y.ps (some 5) rfl [q.St] (qH1 q) w h.look h.prog1 (by simp;exact qA8 h.ok.d.hA h.S.hSt (by decide)) (by rw[hyy.dn,ho]) ((zR4 y.f.x y.t q.s w hyy.hx ho h.hStt h.S.po (by rw[hyy.st];exact h.xS)).mono ?_)).mono fun e w' ⟨a,w1,b,c,d⟩=>⟨a,h.quiet b c d⟩;rintro e w' ⟨v,a,b,c,d⟩;rw[hyy.st] at c d;exact⟨v,a,b,c,d⟩
 | false=>
  have hki:(g.ys.map kOf)[i]?=some (kOf y):=by simp[h.hi,h.hy]
  have hnr:=h.S.bk.nrs i (kOf y) hki;have hbg:=h.S.bg1;have hT:=h.T1;have hnr0:1≤y.t.nr:=hnr.1;have hnr1:y.t.nr≤q.s.bg:=hnr.2;have hsM:=h.S.sM;have hsV:=h.S.sV;have hMS:q.M≠q.St:=fun e=>qG8 h.S.hSt hM e.symm;have hP:ProgS w [q.St,y.f.x,q.M]:=fun k hk=>by
   simp only[List.mem_cons,List.not_mem_nil,or_false] at hk;rcases hk with rfl|rfl|rfl
   ·exact h.prog _ (by simp)
   ·exact h.prog _ (by simp)
   ·exact⟨by have:=h.S.bM;have:=h.hb;omega,fun c t fr e=>by rw[hM] at e;cases e⟩
  have hrm:=h.S.rm;refine (xA9 g.d.B y.tb g.d.A g.d.n g.d.C (.slice none 0 0) g.d.calls g.d.writes (qB2 g.d) y.f y.ps none rfl [q.St,y.f.x,q.M] (fun w1=>w1.heap[y.f.x]?=some (ψ y.t.ended)∧w1.heap[q.St]?=some (μ 0 (q.s.left y.t.nr))∧RM w1 q.V q.M q.nM (q.D.del (qC0 y.t.nr))) w h.look hP ?_ (by rw[hyy.dn,ho]) ((zE0 y.f.x q.nM y.t q.s q.D w hyy.hx ho h.hStt h.S.po (by rw[hsV,hsM];exact hrm) (by omega) (by omega) (by rw[hsM,hyy.st];exact hMS) (by rw[hyy.st];exact h.xS) (by rw[hsM];exact qG8 hyy.hx hM) (by rw[hsM];exact ζ hM)).mono ?_)).mono fun e w' ⟨a,b⟩=>⟨a,zR3 h ho b⟩
  ·simp only[List.mem_cons,List.not_mem_nil,or_false,not_or];exact⟨qA8 h.ok.d.hA h.S.hSt (by decide),qA8 h.ok.d.hA hyy.hx (by decide),qG8 h.ok.d.hA hM⟩
  ·rintro e w' ⟨rfl,a,b,c,d⟩;rw[hyy.st] at b d;rw[hsV,hsM] at c;rw[hsM] at d;exact⟨_,rfl,rfl,⟨a,b,c⟩,d⟩
theorem xR4(base:Nat)(T:Int)(w:World)(g:TG)(q:SG)(i:Nat)(y:YG)(lo hi:ByteArray)(most:Int)(hm0:-9223372036854775808≤most)(hm1:most≤9223372036854775807)(h:At base T w g q i y):
  Calls prog 134 #[.pointer (some ⟨g.d.B,0,none⟩),.pointer (some ⟨y.tb,0,none⟩),.string lo,.string hi,.int .i64 most] w fun e w'=>e=.returned (.bool true)∧DStep qC7 base (T+2) w w' g:=by
 have hyy:=h.y;have hT:=h.T1;obtain⟨es,mc,hM⟩:=Gen.RM.obj h.S.rm
 cases ho:y.t.over with
 | true=>
  refine (xR6 g.d.B y.tb g.d.A g.d.n g.d.C (.slice none 0 0) g.d.calls g.d.writes (qB2 g.d) y.f y.ps lo hi most (some 5) rfl [q.St] (qH1 q) w h.look h.prog1 (by rw[hyy.dn,ho]) ((xR5 y.f.x y.t q.s lo hi most w hyy.hx ho h.hStt h.S.po (by rw[hyy.st];exact h.xS)).mono ?_)).mono fun e w' ⟨a,w1,b,c,d⟩=>⟨a,h.quiet b c d⟩;rintro e w' ⟨v,a,b,c,d⟩;rw[hyy.st] at c d;exact⟨_,v,a,b,c,d,rfl⟩
 | false=>
  have hL:=h.live ho;obtain⟨a1,a2,a3,a4⟩:=hyy.live ho;refine (xR7 g.d.B y.tb g.d.A g.d.n g.d.C (.slice none 0 0) g.d.calls g.d.writes (qB2 g.d) y.f y.ps base g.hs lo hi most none rfl [q.St] (qH1 q) w h.look h.prog1 (by rw[hyy.dn,ho]) h.ok.held (by have:=h.ok.hlen;omega) h.hbs ((zO1 (E0 q.V) y.f.x g.d.A g.d.n y.t q.s y.r lo hi most w hL hm0 hm1).mono ?_)).mono ?_
  ·rintro e w' ⟨v,rfl,a,b⟩;obtain⟨b1,b2⟩:=qO3 hyy.st b;rw[a4] at a;exact⟨v,_,rfl,rfl,b1,b2,a⟩
  rintro e w' ⟨rfl,w1,w5,l,hR,hKa,hKb,hl,hD⟩;refine⟨rfl,?_⟩;obtain⟨li',wa',hx,hy,L,hB,hH,hlx,hly,hK,hL1,hli,hwa,L',hK',hL'⟩:=hD;have hsr:=zO0 y.ps lo hi most;have hsz:=hyy.sz;have hSt5:w5.heap[q.St]?=some (μ 0 q.s):=hKb.hp hR;have hK5:Kp [q.St] w w5:=hKa.tr hKb;have rowL:∀ k,g.d.li.ownBlock=some k→base≤k∧∃ c,w.heap[k]?=some (.cells c 29):=fun k hk=>qE5 h.ok.held.li k (by simp[qB2,hk]);have rowW:∀ k,g.d.wa.ownBlock=some k→base≤k∧∃ c,w.heap[k]?=some (.cells c 29):=fun k hk=>qE5 h.ok.held.wa k (by simp[qB2,hk]);have hMut:Muts base [169,130,29] w L:=fun k hk=>by
   rcases hL1 k hk with hk|rfl|hk|hk
   ·simp at hk;subst hk;exact⟨h.S.bSt,_,h.S.hSt,fun c t fr e=>by cases e;decide⟩
   ·exact⟨h.ok.d.bB,_,h.ok.d.hB,fun c t fr e=>by cases e;decide⟩
   ·obtain⟨h1,c,h2⟩:=rowL k hk;exact⟨h1,_,h2,fun c t fr e=>by cases e;decide⟩
   ·obtain⟨h1,c,h2⟩:=rowW k hk;exact⟨h1,_,h2,fun c t fr e=>by cases e;decide⟩
  have hSt':w'.heap[q.St]?=some (μ 0 q.s):=by
   refine hK'.heap hSt5 (fun hm=>?_);rcases hL' _ hm with e|e|e|e
   ·have:=hl _ e;have:=ζ h.S.hSt;omega
   ·exact qA8 h.S.hSt h.ok.d.hB (by decide) e
   ·obtain⟨_,c,h2⟩:=rowL _ e;exact qA8 h.S.hSt h2 (by decide) rfl
   ·obtain⟨_,c,h2⟩:=rowW _ e;exact qA8 h.S.hSt h2 (by decide) rfl
  have hMn:q.M ∉ L:=fun hm=>by
   rcases hL1 _ hm with e|e|e|e
   ·simp at e;exact qG8 h.S.hSt hM e.symm
   ·exact qG8 h.ok.d.hB hM e.symm
   ·obtain⟨_,c,h2⟩:=rowL _ e;rw[hM] at h2;cases h2
   ·obtain⟨_,c,h2⟩:=rowW _ e;rw[hM] at h2;cases h2
  have hd:=h.ok.d;have hd':Gen.DOk base (T+2) w' { g.d with li:=li',wa:=wa' }:=by
   have hS':∀ k c t fr,w.heap[k]?=some (.cells c t fr)→k∈L→t≠126:=fun k c t fr e hk et=>(hMut.apt (Us:=[126]) (by decide)) k hk c t fr e (by simp[et]);exact⟨hd.bB,hd.bA,hd.bC,hB,hK.heap hd.hA (hMut.not hd.hA (by decide)),hK.heap hd.hC (hMut.not hd.hC (by decide)),hd.len,hd.n1000,hd.calls0,by have:=hd.calls1;show g.d.calls≤6*(T+2);omega,hd.writes0,by have:=hd.writes1;show g.d.writes≤2*(T+2);omega,by have:=hd.k1;show ((g.d.k:Nat):Int)≤T+2;omega,hd.may.kp hK hS',hd.were.kp hK hS',by
    rcases hd.st with h|⟨h1,h2,h3⟩
    ·exact .inl h
    ·exact .inr ⟨h1,by show g.d.N≤2*(T+2);omega,h3⟩⟩
  have hlen:=h.ok.hlen;refine⟨{ g with d:={ g.d with li:=li',wa:=wa' },hs:=g.hs++[hx,hy] },L,?_,rfl,fun k hk=>?_,hK,fun k hk=>?_⟩
  ·refine⟨hd',Held.cast hH rfl rfl,by show (((g.hs++[hx,hy]).length:Nat):Int)≤T+2;simp;omega,fun x hx'=>?_,?_,by have:=h.ok.ylen;show ((g.ys.length:Nat):Int)≤T+2;omega,.inr ⟨q,h.e1,h.e2,h.S.same hK (by omega) hSt' hMn (hMut.apt (by decide)) rfl,fun z hz=>?_⟩,h.ok.tbs,h.ok.xs⟩
   ·rcases List.mem_append.1 hx' with hx'|hx'
    ·have:=h.ok.hps x hx';omega
    ·simp only[List.mem_cons,List.not_mem_nil,or_false] at hx';rcases hx' with rfl|rfl<;>omega
   ·refine qQ1 h.ok.row hK (fun k hk=>?_);obtain⟨_,c,h2⟩:=qE5 h.ok.row k (by simp[show g.d.ts.ownBlock=some k from hk]);exact hMut.not h2 (by decide)
   ·have hz':=h.Y z hz;exact hz'.kp hK (by omega) (hMut.not hz'.hT (by decide)) (hMut.not hz'.hx (by decide)) (hMut.apt (by decide))
  ·rcases qB0.1 hk with hk|hk|hk|hk|hk|hk|hk
   ·exact .inl (qB0.2 (.inl hk))
   ·exact .inl (qB0.2 (.inr (.inl hk)))
   ·rcases hli k hk with hk|hk
    ·exact .inl (qB0.2 (.inr (.inr (.inl hk))))
    ·exact .inr hk
   ·rcases hwa k hk with hk|hk
    ·exact .inl (qB0.2 (.inr (.inr (.inr (.inl hk)))))
    ·exact .inr hk
   ·exact .inl (qB0.2 (.inr (.inr (.inr (.inr (.inl hk))))))
   ·exact .inl (qB0.2 (.inr (.inr (.inr (.inr (.inr (.inl hk)))))))
   ·exact .inl (qB0.2 (.inr (.inr (.inr (.inr (.inr (.inr hk)))))))
  ·refine qB0.2 ?_;rcases hL1 k hk with hk|rfl|hk|hk
   ·simp at hk;subst hk;exact .inr (.inr (.inr (.inr (.inl (by rw[h.e1];simp[qG4])))))
   ·exact .inl (.inl rfl)
   ·exact .inr (.inr (.inl hk))
   ·exact .inr (.inr (.inr (.inl hk)))
theorem xE1(base:Nat)(T:Int)(w:World)(g:TG)(h:TOk base T w g)(hT0:0≤T)(hT:T≤40000)(hb:0<base)(hbs:base≤w.heap.size)(hg:w.cell? ⟨0,0,none⟩=some qC1):
  Calls prog 80 #[.pointer (some ⟨g.d.B,0,none⟩)] w fun e w'=>e=.returned (.bool true)∧DStep qC7 base (T+2) w w' g:=by
 refine (Gen.xF2 base T w g.d h.d hT0 (by omega) hg hb hbs).mono ?_;rintro e w' ⟨rfl,⟨d',hd,e1,e2,e3,e4,e5,e6,e7,e8⟩,hK⟩;refine⟨rfl,⟨d',none,[],g.hs⟩,[g.d.B,g.d.A,g.d.C],?_,e1,fun k hk=>?_,hK,fun k hk=>qB0.2 (.inl (by simpa using hk))⟩
 ·have hMut:Muts base [130,114,115] w [g.d.B,g.d.A,g.d.C]:=fun k hk=>by
   simp only[List.mem_cons,List.not_mem_nil,or_false] at hk;rcases hk with rfl|rfl|rfl
   ·exact⟨h.d.bB,_,h.d.hB,fun c t fr e=>by cases e;decide⟩
   ·exact⟨h.d.bA,_,h.d.hA,fun c t fr e=>by cases e;decide⟩
   ·exact⟨h.d.bC,_,h.d.hC,fun c t fr e=>by cases e;decide⟩
  refine⟨DOk.kp hd (Kp.refl [] _) (by omega) (by simp) (by simp) (by simp) (Apt.nil _ _),Held.cast (Held.kp h.held hK (fun k hk=>?_) (fun k hk=>?_) (hMut.apt (by decide))) e7 e8,by have:=h.hlen;show ((g.hs.length:Nat):Int)≤T+2;omega,fun x hx=>by have:=h.hps x hx;omega,?_,by show ((0:Nat):Int)≤T+2;omega,.inl ⟨e5,rfl,rfl⟩,List.nodup_nil,List.nodup_nil⟩
  ·obtain⟨_,c,h2⟩:=qE5 h.held.li k (by simp[show (qB2 g.d).li.ownBlock=some k from hk]);exact hMut.not h2 (by decide)
  ·obtain⟨_,c,h2⟩:=qE5 h.held.wa k (by simp[show (qB2 g.d).wa.ownBlock=some k from hk]);exact hMut.not h2 (by decide)
  ·show w'.ownsRow base 132 1 d'.ts 0 [];rw[e6];exact World.ownsRow_nil _ _ _ _
 ·rcases qB0.1 hk with hk|hk|hk|hk|hk|hk|hk
  ·rw[e1,e2,e3] at hk;exact .inl (qB0.2 (.inl hk))
  ·rw[show d'.ts=.slice none 0 0 from e6] at hk;cases hk
  ·rw[show d'.li=g.d.li from e7] at hk;exact .inl (qB0.2 (.inr (.inr (.inl hk))))
  ·rw[show d'.wa=g.d.wa from e8] at hk;exact .inl (qB0.2 (.inr (.inr (.inr (.inl hk)))))
  ·cases hk
  ·cases hk
  ·cases hk
theorem xN1(base:Nat)(T:Int)(w:World)(g:TG)(h:TOk base T w g)(hT0:0≤T)(hT:T≤40000)(hb:0<base)(hbs:base≤w.heap.size)(hg:w.cell? ⟨0,0,none⟩=some qC1):
  Calls prog 81 #[.pointer (some ⟨g.d.B,0,none⟩)] w fun e w'=>e=.returned (.bool true)∧DStep qC7 base (T+2) w w' g:=by
 refine (Gen.xN0 base T w g.d h.d hT0 (by omega) hg hb hbs).mono ?_;rintro e w' ⟨rfl,⟨d',hd,e1,e2,e3,e4,e6,e7,e8,hop⟩,hK⟩;have hMut:Muts base [130,114,115] w [g.d.B,g.d.A,g.d.C]:=fun k hk=>by
  simp only[List.mem_cons,List.not_mem_nil,or_false] at hk;rcases hk with rfl|rfl|rfl
  ·exact⟨h.d.bB,_,h.d.hB,fun c t fr e=>by cases e;decide⟩
  ·exact⟨h.d.bA,_,h.d.hA,fun c t fr e=>by cases e;decide⟩
  ·exact⟨h.d.bC,_,h.d.hC,fun c t fr e=>by cases e;decide⟩
 have hheld:Held w' base (qB2 d') g.hs:=Held.cast (Held.kp h.held hK (fun k hk=>by
  obtain⟨_,c,h2⟩:=qE5 h.held.li k (by simp[show (qB2 g.d).li.ownBlock=some k from hk]);exact hMut.not h2 (by decide)) (fun k hk=>by
  obtain⟨_,c,h2⟩:=qE5 h.held.wa k (by simp[show (qB2 g.d).wa.ownBlock=some k from hk]);exact hMut.not h2 (by decide)) (hMut.apt (by decide))) e7 e8
 have hrow:w'.ownsRow base 132 1 d'.ts 0 []:=by
  rw[e6];exact World.ownsRow_nil _ _ _ _
 have hlen:=h.hlen;have hmut:∀ so k,(∀ k∈qG4 so,w.heap.size≤k)→k∈qM0 ⟨d',so,[],g.hs⟩→k∈qM0 g∨w.heap.size≤k:=fun so k hso hk=>by
  rcases qB0.1 hk with hk|hk|hk|hk|hk|hk|hk
  ·rw[e1,e2,e3] at hk;exact .inl (qB0.2 (.inl hk))
  ·rw[show d'.ts=.slice none 0 0 from e6] at hk;cases hk
  ·rw[show d'.li=g.d.li from e7] at hk;exact .inl (qB0.2 (.inr (.inr (.inl hk))))
  ·rw[show d'.wa=g.d.wa from e8] at hk;exact .inl (qB0.2 (.inr (.inr (.inr (.inl hk)))))
  ·exact .inr (hso k hk)
  ·cases hk
  ·cases hk
 rcases hop with hx|⟨Db,St,V,M,N,hx,hst,l1,l2,l3,l4⟩
 ·refine⟨rfl,⟨d',none,[],g.hs⟩,[g.d.B,g.d.A,g.d.C],?_,e1,fun k hk=>hmut none k (by simp[qG4]) hk,hK,fun k hk=>qB0.2 (.inl (by simpa using hk))⟩;exact⟨hd,hheld,by show ((g.hs.length:Nat):Int)≤T+2;omega,fun x hx=>by have:=h.hps x hx;omega,hrow,by show ((0:Nat):Int)≤T+2;omega,.inl ⟨hx,rfl,rfl⟩,List.nodup_nil,List.nodup_nil⟩
 ·obtain⟨h1,h2,h3,D,h4,h5,h6⟩:=hst;refine⟨rfl,⟨d',some ⟨Db,St,V,M,1,(qJ2 V M N).read.left 1,D⟩,[],g.hs⟩,[g.d.B,g.d.A,g.d.C],?_,e1,fun k hk=>hmut _ k (by simp[qG4];omega) hk,hK,fun k hk=>qB0.2 (.inl (by simpa using hk))⟩;refine⟨hd,hheld,by show ((g.hs.length:Nat):Int)≤T+2;omega,fun x hx=>by have:=h.hps x hx;omega,hrow,by show ((0:Nat):Int)≤T+2;omega,.inr ⟨_,rfl,hx,?_,fun y hy=>by cases hy⟩,List.nodup_nil,List.nodup_nil⟩;exact⟨by show base≤St;omega,by show base≤M;omega,h1,h2,h3,rfl,rfl,rfl,rfl,rfl,rfl,by show (0:Int)≤0+1;decide,by show (0:Int)+1≤T+2;omega,h4,by show ((1:Nat):Int)≤T+2;omega,Books.none h5 h6 rfl⟩
theorem xK4(base:Nat)(T:Int)(w:World)(g:TG)(h:TOk base T w g)(hT0:0≤T)(hT:T≤50000):
  Calls prog 84 #[.pointer (some ⟨g.d.B,0,none⟩)] w fun e w'=>e=.returned (.bool true)∧Kp [] w w':=
 xK5 g.d.B base (qB2 g.d) g.hs w h.d.hB h.held (by have:=h.hlen;omega) (fun x hx=>by have:=h.hps x hx;omega)
theorem qX6(wr:Bool){base:Nat}{T:Int}{w:World}{St V:Nat}:∀ ys:List YG,(∀ y∈ys,YOk base T w St V y)→qC3 wr (qF6 ys)=cnt wr (ys.map kOf)
 | [],_=>rfl
 | y::ys,h=>by
  have ih:=qX6 wr ys (fun z hz=>h z (List.mem_cons_of_mem _ hz));have hy:=h y (by simp);rw[cnt] at ih ⊢;simp only[qF6,List.map_cons,qC3,List.countP_cons];rw[show ys.map (fun y=>(y.f,y.ps.length))=qF6 ys from rfl,ih];have e1:=hy.dn;have e2:=hy.wr;rw[e1,e2];by_cases h1:y.t.over=false∧y.t.wrt=wr
  ·rw[if_pos h1,if_pos (show (!(kOf y).over && (kOf y).wrt == wr)=true by simp[kOf,h1.1,h1.2])];omega
  ·rw[if_neg h1,if_neg (show ¬(!(kOf y).over && (kOf y).wrt == wr)=true from fun hh=>h1 (by simpa [kOf] using hh))];omega
theorem TOk.born{base:Nat}{T:Int}{w w':World}{g:TG}{q q':SG}{wrt:Bool}{nr:Int}(h:TOk base T w g)(hb:0<base)(hbs:base≤w.heap.size)(hT0:0≤T)(e1:g.so=some q)(e2:g.d.x=some ⟨q.Db,0,none⟩)(hS:SOk base T w g.d.A g.d.n q g.ys)(hY:∀ y∈g.ys,YOk base T w q.St q.V y)
  (eSt:q'.St=q.St) (eM:q'.M=q.M) (eV:q'.V=q.V) (eD:q'.Db=q.Db) (eN:q'.nM≤q.nM+1) (es1:q'.s.V=q.s.V) (es2:q'.s.M=q.s.M) (es3:q'.s.po=false) (es4:q'.s.rb=q.s.rb) (es5:q'.s.rs=q.s.rs) (es6:q'.s.bl=q.s.bl) (es7:q'.s.bg=q.s.bg+1) (hbk:Books q'.s q'.D (g.ys.map kOf++[⟨false,wrt,nr⟩]))
  (hd:zD4 (qB2 g.d) g.d.B base 0 wrt (qB8 g) (fun xo w1=>∃ x,xo=some ⟨x,0,none⟩∧w.heap.size≤x∧w1.heap[x]?=some (ψ ⟨q.St,nr,wrt,false,some ⟨q.V,0,none⟩,⟨⟨#[]⟩,0,0,none⟩,0⟩)∧w1.heap[q.St]?=some (μ 0 q'.s)∧RM w1 q.V q.M q'.nM q'.D) [q.St,q.M] w w'):DStep qC7 base (T+2) w w' g:=by
 obtain⟨w1,x,tb,v',L,⟨x2,hxe,hx1,hx2,hSt1,hRM1⟩,hK1,htb,hT',hB',hrow',hK2,hL,hown⟩:=hd;cases hxe;obtain⟨es,mc,hM⟩:=Gen.RM.obj hS.rm;obtain⟨es',mc',hM1⟩:=Gen.RM.obj hRM1;have hs1:=hK1.size;have rowT:∀ k,g.d.ts.ownBlock=some k→base≤k∧∃ c,w.heap[k]?=some (.cells c 132):=fun k hk=>qE5 h.row k (by simp[hk]);have hBn:g.d.B ∉ [q.St,q.M]:=by
  simp only[List.mem_cons,List.not_mem_nil,or_false,not_or];exact⟨qA8 h.d.hB hS.hSt (by decide),qG8 h.d.hB hM⟩
 have rowT1:∀ k,g.d.ts.ownBlock=some k→∃ c,w1.heap[k]?=some (.cells c 132):=fun k hk=>by
  obtain⟨_,c,h2⟩:=rowT k hk;refine⟨c,hK1.heap h2 ?_⟩;simp only[List.mem_cons,List.not_mem_nil,or_false,not_or];exact⟨qA8 h2 hS.hSt (by decide),qG8 h2 hM⟩
 have hB1:=hK1.heap h.d.hB hBn;have hL1:∀ {k:Nat} {c:Array Value} {t:TypeId} {fr:Nat × Nat},w1.heap[k]?=some (.cells c t fr)→t≠130→t≠132→k ∉ L:=fun hk n1 n2 hm=>by
  rcases hL _ hm with rfl|e
  ·exact qA8 hk hB1 n1 rfl
  ·obtain⟨c,h2⟩:=rowT1 _ e;exact qA8 hk h2 n2 rfl
 have hML:q.M ∉ L:=fun hm=>by
  rcases hL _ hm with e|e
  ·rw[e,hB1] at hM1;cases hM1
  ·obtain⟨c,h2⟩:=rowT1 _ e;rw[hM1] at h2;cases h2
 have hKK:Kp (q.St::q.M::L) w w':=(hK1.mono (S':=q.St::q.M::L) (fun k hk _=>by simp at hk ⊢;rcases hk with h | h<;>simp[h])).trans hK2 (fun k hk _=>by simp[hk]);have hMut:Muts base [169,130,132] w (q.St::q.M::L):=fun k hk=>by
  simp only[List.mem_cons] at hk;rcases hk with rfl|rfl|hk
  ·exact⟨hS.bSt,_,hS.hSt,fun c t fr e=>by cases e;decide⟩
  ·exact⟨hS.bM,_,hM,fun c t fr e=>by cases e⟩
  ·rcases hL k hk with rfl|hk
   ·exact⟨h.d.bB,_,h.d.hB,fun c t fr e=>by cases e;decide⟩
   ·obtain⟨h1,c,h2⟩:=rowT k hk;exact⟨h1,_,h2,fun c t fr e=>by cases e;decide⟩
 have hx':=hK2.heap hx2 (hL1 hx2 (by decide) (by decide));have hSt':=hK2.heap hSt1 (hL1 hSt1 (by decide) (by decide));have hRM':=hRM1.kp hK2 hML;have hd:=h.d;have hd':Gen.DOk base (T+2) w' { g.d with ts:=v' }:=by
  have hS':∀ k c t fr,w.heap[k]?=some (.cells c t fr)→k∈q.St::q.M::L→t≠126:=fun k c t fr e hk et=>(hMut.apt (Us:=[126]) (by decide)) k hk c t fr e (by simp[et]);exact⟨hd.bB,hd.bA,hd.bC,hB',hKK.heap hd.hA (hMut.not hd.hA (by decide)),hKK.heap hd.hC (hMut.not hd.hC (by decide)),hd.len,hd.n1000,hd.calls0,by have:=hd.calls1;show g.d.calls≤6*(T+2);omega,hd.writes0,by have:=hd.writes1;show g.d.writes≤2*(T+2);omega,by have:=hd.k1;show ((g.d.k:Nat):Int)≤T+2;omega,hd.may.kp hKK hS',hd.were.kp hKK hS',by
   rcases hd.st with h|⟨h1,h2,h3⟩
   ·exact .inl h
   ·exact .inr ⟨h1,by show g.d.N≤2*(T+2);omega,h3⟩⟩
 have hbg:=hS.bg0;have hbg1:=hS.bg1;have hnM:=hS.nM;have hlen:=h.hlen;have hyl:=h.ylen;refine⟨{ g with d:={ g.d with ts:=v' },so:=some q',ys:=g.ys++[⟨tb,TF.born (qB2 g.d) x 0 wrt,⟨q.St,nr,wrt,false,some ⟨q.V,0,none⟩,⟨⟨#[]⟩,0,0,none⟩,0⟩,.none,[]⟩] },q.St::q.M::L,?_,rfl,fun k hk=>?_,hKK,fun k hk=>?_⟩
 ·refine⟨hd',Held.cast (Held.kp h.held hKK (fun k hk=>?_) (fun k hk=>?_) (hMut.apt (by decide))) rfl rfl,by show ((g.hs.length:Nat):Int)≤T+2;omega,fun z hz=>by have:=h.hps z hz;omega,?_,by show (((g.ys++[_]).length:Nat):Int)≤T+2;simp;omega,.inr ⟨q',rfl,by show g.d.x=_;rw[eD];exact e2,?_,fun z hz=>?_⟩,?_,?_⟩
  ·obtain⟨_,c,h2⟩:=qE5 h.held.li k (by simp[show (qB2 g.d).li.ownBlock=some k from hk]);exact hMut.not h2 (by decide)
  ·obtain⟨_,c,h2⟩:=qE5 h.held.wa k (by simp[show (qB2 g.d).wa.ownBlock=some k from hk]);exact hMut.not h2 (by decide)
  ·have e:qB8 { g with d:={ g.d with ts:=v' },so:=some q',ys:=g.ys++[⟨tb,TF.born (qB2 g.d) x 0 wrt,⟨q.St,nr,wrt,false,some ⟨q.V,0,none⟩,⟨⟨#[]⟩,0,0,none⟩,0⟩,.none,[]⟩] }=qB8 g++[tb]:=by simp[qB8]
   rw[e,List.length_append];exact hrow'
  ·refine⟨by rw[eSt];exact hS.bSt,by rw[eM];exact hS.bM,?_,by rw[eSt];exact hSt',?_,by rw[es1,eV];exact hS.sV,by rw[es2,eM];exact hS.sM,es3,by rw[es4];exact hS.rb,by rw[es5];exact hS.rs,by rw[es6];exact hS.bl,by omega,by omega,by rw[eV,eM];exact hRM',by omega,?_⟩
   ·rw[eD,eSt];exact hKK.heap hS.hD (hMut.not hS.hD (by decide))
   ·rw[eV];exact hKK.heap hS.hV (hMut.not hS.hV (by decide))
   ·rw[List.map_append];exact hbk
  ·rw[eSt,eV];rcases List.mem_append.1 hz with hz|hz
   ·have hz':=hY z hz;exact hz'.kp hKK (by omega) (hMut.not hz'.hT (by decide)) (hMut.not hz'.hx (by decide)) (hMut.apt (by decide))
   ·rw[List.mem_singleton.1 hz];refine⟨by show base≤tb;omega,by show base≤x;omega,hT',hx',rfl,SPR.nil _,by show ((0:Nat):Int)≤T+2;omega,by show (0:Int)≤((0:Nat):Int);simp,by show ((0:Nat):Int)≤T+2;omega,by show (0:Int)≤0;simp,by show (0:Int)≤T+2;omega,by show (0:Int)≤0;simp,by show (0:Int)≤T+2;omega,rfl,rfl,rfl,by show (0:Int)≤0;simp,by show (0:Int)≤T+2;omega,fun _=>⟨rfl,?_,Gen.RGood.none,rfl⟩⟩;exact rfl
  ·have e:qB8 { g with d:={ g.d with ts:=v' },so:=some q',ys:=g.ys++[⟨tb,TF.born (qB2 g.d) x 0 wrt,⟨q.St,nr,wrt,false,some ⟨q.V,0,none⟩,⟨⟨#[]⟩,0,0,none⟩,0⟩,.none,[]⟩] }=qB8 g++[tb]:=by simp[qB8]
   rw[e,List.nodup_append];refine⟨h.tbs,by simp,fun a ha b hb' e=>?_⟩;obtain⟨z,hz,rfl⟩:=List.mem_map.1 ha;have:=ζ (hY z hz).hT;simp at hb';omega
  ·have e:qH4 { g with d:={ g.d with ts:=v' },so:=some q',ys:=g.ys++[⟨tb,TF.born (qB2 g.d) x 0 wrt,⟨q.St,nr,wrt,false,some ⟨q.V,0,none⟩,⟨⟨#[]⟩,0,0,none⟩,0⟩,.none,[]⟩] }=qH4 g++[x]:=by simp[qH4,TF.born]
   rw[e,List.nodup_append];refine⟨h.xs,by simp,fun a ha b hb' e=>?_⟩;obtain⟨z,hz,rfl⟩:=List.mem_map.1 ha;have:=ζ (hY z hz).hx;simp at hb';omega
 ·rcases qB0.1 hk with hk|hk|hk|hk|hk|hk|hk
  ·exact .inl (qB0.2 (.inl hk))
  ·rcases hown k hk with hk|hk
   ·exact .inl (qB0.2 (.inr (.inl hk)))
   ·exact .inr (by omega)
  ·exact .inl (qB0.2 (.inr (.inr (.inl hk))))
  ·exact .inl (qB0.2 (.inr (.inr (.inr (.inl hk)))))
  ·refine .inl (qB0.2 (.inr (.inr (.inr (.inr (.inl ?_))))));rw[e1];simp only[qG4,eSt,eM] at hk ⊢;exact hk
  ·have e:qB8 { g with d:={ g.d with ts:=v' },so:=some q',ys:=g.ys++[⟨tb,TF.born (qB2 g.d) x 0 wrt,⟨q.St,nr,wrt,false,some ⟨q.V,0,none⟩,⟨⟨#[]⟩,0,0,none⟩,0⟩,.none,[]⟩] }=qB8 g++[tb]:=by simp[qB8]
   rw[e] at hk;rcases List.mem_append.1 hk with hk|hk
   ·exact .inl (qB0.2 (.inr (.inr (.inr (.inr (.inr (.inl hk)))))))
   ·simp at hk;exact .inr (by omega)
  ·have e:qH4 { g with d:={ g.d with ts:=v' },so:=some q',ys:=g.ys++[⟨tb,TF.born (qB2 g.d) x 0 wrt,⟨q.St,nr,wrt,false,some ⟨q.V,0,none⟩,⟨⟨#[]⟩,0,0,none⟩,0⟩,.none,[]⟩] }=qH4 g++[x]:=by simp[qH4,TF.born]
   rw[e] at hk;rcases List.mem_append.1 hk with hk|hk
   ·exact .inl (qB0.2 (.inr (.inr (.inr (.inr (.inr (.inr hk)))))))
   ·simp at hk;exact .inr (by omega)
 ·refine qB0.2 ?_;simp only[List.mem_cons] at hk;rcases hk with rfl|rfl|hk
  ·exact .inr (.inr (.inr (.inr (.inl (by rw[e1];simp[qG4])))))
  ·exact .inr (.inr (.inr (.inr (.inl (by rw[e1];simp[qG4])))))
  ·rcases hL k hk with rfl|hk
   ·exact .inl (.inl rfl)
   ·exact .inr (.inl hk)
theorem TOk.lock{base:Nat}{T T':Int}{w w':World}{g:TG}{q:SG}{L:List Nat}(h:TOk base T w g)(e1:g.so=some q)(e2:g.d.x=some ⟨q.Db,0,none⟩)(hS:SOk base T w g.d.A g.d.n q g.ys)(hY:∀ y∈g.ys,YOk base T w q.St q.V y)(hK:Kp L w w')(hL:∀ k∈L,k=q.St)(hT:T≤T')(h1:w'.heap[q.St]?=some (μ 0 q.s)):DStep qC7 base T' w w' g:=by
 obtain⟨es,mc,hM⟩:=Gen.RM.obj hS.rm;have hMut:Muts base [169] w L:=fun k hk=>by
  rw[hL k hk];exact⟨hS.bSt,_,hS.hSt,fun c t fr e=>by cases e;decide⟩
 refine⟨g,L,?_,rfl,fun k hk=>.inl hk,hK,fun k hk=>qB0.2 (.inr (.inr (.inr (.inr (.inl (by rw[e1];simp[qG4,hL k hk]))))))⟩;refine⟨DOk.kp h.d hK hT (hMut.not h.d.hB (by decide)) (hMut.not h.d.hA (by decide)) (hMut.not h.d.hC (by decide)) (hMut.apt (by decide)),Held.kp h.held hK (fun k hk=>?_) (fun k hk=>?_) (hMut.apt (by decide)),by have:=h.hlen;omega,fun x hx=>by have:=h.hps x hx;omega,?_,by have:=h.ylen;omega,.inr ⟨q,e1,e2,hS.same hK hT h1 (fun hm=>?_) (hMut.apt (by decide)) rfl,fun y hy=>?_⟩,h.tbs,h.xs⟩
 ·obtain⟨_,c,h2⟩:=qE5 h.held.li k (by simpa using hk);exact hMut.not h2 (by decide)
 ·obtain⟨_,c,h2⟩:=qE5 h.held.wa k (by simpa using hk);exact hMut.not h2 (by decide)
 ·refine qQ1 h.row hK (fun k hk=>?_);obtain⟨_,c,h2⟩:=qE5 h.row k (by simp[show g.d.ts.ownBlock=some k from hk]);exact hMut.not h2 (by decide)
 ·rw[hL _ hm,hS.hSt] at hM;cases hM
 ·have hy':=hY y hy;exact hy'.kp hK hT (hMut.not hy'.hT (by decide)) (hMut.not hy'.hx (by decide)) (hMut.apt (by decide))
theorem zV3(base:Nat)(T:Int)(w:World)(g:TG)(h:TOk base T w g)(hT0:0≤T)(hT:T≤40000)(hb:0<base)(hbs:base≤w.heap.size)(hg:w.cell? ⟨0,0,none⟩=some qC1)(hx:g.d.x≠none)(wrt:Bool):
  Calls prog 82 #[.pointer (some ⟨g.d.B,0,none⟩),.bool wrt] w fun e w'=>e=.returned (.bool true)∧DStep qC7 base (T+2) w w' g:=by
 obtain⟨q,e1,e2,hS,hY⟩:=h.store hx;obtain⟨es,mc,hM⟩:=Gen.RM.obj hS.rm;have hyl:=h.ylen;have hMS:q.M≠q.St:=fun e=>qG8 hS.hSt hM e.symm;have hDS:q.Db≠q.St:=qA8 hS.hD hS.hSt (by decide);have hDM:q.Db≠q.M:=qG8 hS.hD hM;have hsV:=hS.sV;have hsM:=hS.sM;have hbg0:=hS.bg0;have hbg1:=hS.bg1;have hnM:=hS.nM;have hrm:=hS.rm;have hTF:TFs w (qB2 g.d) (qB8 g) (qF6 g.ys):=⟨PRow.of h.row,by simp[qB8,qF6],fun j h1 h2=>by
  have hj:j<g.ys.length:=by simpa [qB8] using h1
  have hyj:=hY _ (List.getElem_mem hj);obtain⟨b,c,e⟩:=hyj.sp.form;exact⟨by simpa [qB8,qF6] using hyj.hT,b,c,by simpa [qF6] using e⟩⟩
 have hI:BgIn w g.d.B g.d.A g.d.n g.d.C (.slice none 0 0) g.d.calls g.d.writes (qB2 g.d) q.Db base (qB8 g) (qF6 g.ys) none 0 0:=⟨h.d.hB,rfl,rfl,h.d.hA,e2,rfl,hTF,h.row,hbs,by simp[qB8];omega,hg⟩;have hP1:ProgS w [q.St]:=fun k hk=>by
  simp at hk;subst hk;exact⟨by have:=hS.bSt;omega,fun c t fr e=>by rw[hS.hSt] at e;cases e;decide⟩
 have hP2:ProgS w [q.St,q.M]:=fun k hk=>by
  simp only[List.mem_cons,List.not_mem_nil,or_false] at hk;rcases hk with rfl|rfl
  ·exact hP1 _ (by simp)
  ·exact⟨by have:=hS.bM;omega,fun c t fr e=>by rw[hM] at e;cases e⟩
 have hbw:=qX6 true g.ys hY;have hbr:=qX6 false g.ys hY;have hsz:=hS.bk.size;have hfour:=hS.bk.four;have hq:∀ w',qN1 (fun w1=>w1.heap[q.St]?=some (μ 0 q.s)) [q.St] w w'→DStep qC7 base (T+2) w w' g:=fun w' ⟨w1,b,c,d⟩=>h.lock e1 e2 hS hY (c.tr d) (by simp) (by omega) (d.hp b)
 cases wrt with
 | true=>
  by_cases hw:q.s.wr=0
  ·refine (zE8 g.d.B g.d.A g.d.n g.d.C (.slice none 0 0) g.d.calls g.d.writes (qB2 g.d) q.Db base (qB8 g) (qF6 g.ys) none 0 0 true none rfl [q.St,q.M] (fun xo w1=>∃ x,xo=some ⟨x,0,none⟩∧w.heap.size≤x∧w1.heap[x]?=some (ψ ⟨q.St,q.s.bg+1,true,false,some ⟨q.V,0,none⟩,⟨⟨#[]⟩,0,0,none⟩,0⟩)∧w1.heap[q.St]?=some (μ 0 q.s.wrote)∧RM w1 q.V q.M q.nM q.D) w hI hP2 (fun xo w1 ⟨x,e,_⟩=>⟨x,e⟩) (.inl ⟨rfl,by rw[hbw];exact hS.bk.busyW.1 hw⟩) ((zV8 q.Db q.St q.nM q.s q.D w hS.hD hS.hSt (by rw[hsV,hsM];exact hrm) hS.po hDS (by rw[hsM];exact hMS) (by rw[hsM];exact ζ hM) hw hbg0 (by omega)).mono ?_)).mono fun e w' ⟨a,b⟩=>⟨a,h.born (q':={ q with s:=q.s.wrote }) hb hbs hT0 e1 e2 hS hY rfl rfl rfl rfl (Nat.le_succ _) rfl rfl hS.po rfl rfl rfl rfl (hS.bk.born_write hw hbg0) b⟩;rintro e w' ⟨x,rfl,c1,c2,c3,c4,c5⟩;rw[hsV,hS.rb,hS.rs] at c2;rw[hsV,hsM] at c4;exact⟨_,_,rfl,rfl,⟨x,rfl,c1,c2,c3,c4⟩,c5.mono (fun k hk _=>by simp at hk;simp[hk])⟩
  ·refine (zE7 g.d.B g.d.A g.d.n g.d.C (.slice none 0 0) g.d.calls g.d.writes (qB2 g.d) q.Db base (qB8 g) (qF6 g.ys) none 0 0 true (some 4) rfl [q.St] (fun xo w1=>xo=none∧w1.heap[q.St]?=some (μ 0 q.s)) w hI hP1 (fun xo w1 h=>h.1) (.inl ⟨rfl,by rw[hbw];exact Nat.pos_of_ne_zero (fun e=>hw (hS.bk.busyW.2 e))⟩) ((zV7 q.Db q.St q.s w hS.hD hS.hSt hS.po hDS hw).mono ?_)).mono fun e w' ⟨a,w1,b,c,d⟩=>⟨a,hq w' ⟨w1,b.2,c,d⟩⟩;rintro e w' ⟨v,rfl,c1,c2,c3⟩;exact⟨none,v,rfl,c1,⟨rfl,c2⟩,c3⟩
 | false=>
  by_cases hw:Maps.size q.D<4
  ·refine (zE8 g.d.B g.d.A g.d.n g.d.C (.slice none 0 0) g.d.calls g.d.writes (qB2 g.d) q.Db base (qB8 g) (qF6 g.ys) none 0 0 false none rfl [q.St,q.M] (fun xo w1=>∃ x,xo=some ⟨x,0,none⟩∧w.heap.size≤x∧w1.heap[x]?=some (ψ ⟨q.St,q.s.bg+1,false,false,some ⟨q.V,0,none⟩,⟨⟨#[]⟩,0,0,none⟩,0⟩)∧w1.heap[q.St]?=some (μ 0 q.s.read)∧RM w1 q.V q.M (q.nM+1) (q.D.put (qC0 (q.s.bg+1)) (qL6 ⟨⟨#[]⟩,0,0,none⟩))) w hI hP2 (fun xo w1 ⟨x,e,_⟩=>⟨x,e⟩) (.inr ⟨rfl,by rw[hbr,←hsz];exact hw⟩) ((zE6 q.Db q.St q.nM q.s q.D w hS.hD hS.hSt (by rw[hsV,hsM];exact hrm) hS.po hDS (by rw[hsM];exact hMS) (by rw[hsM];exact hDM) (by rw[hsM];exact ζ hM) hw (by omega) hbg0 (by omega)).mono ?_)).mono fun e w' ⟨a,b⟩=>⟨a,h.born (q':={ q with s:=q.s.read,nM:=q.nM+1,D:=q.D.put (qC0 (q.s.bg+1)) (qL6 ⟨⟨#[]⟩,0,0,none⟩) }) hb hbs hT0 e1 e2 hS hY rfl rfl rfl rfl (Nat.le_refl _) rfl rfl hS.po rfl rfl rfl rfl (hS.bk.born_read (World.ownsMap.tidy hrm qU0) hbg0 hw) b⟩;rintro e w' ⟨x,rfl,c1,c2,c3,c4,c5⟩;rw[hsV,hS.rb,hS.rs] at c2;rw[hsV,hsM,hS.rb,hS.rs] at c4;rw[hsM] at c5;exact⟨_,_,rfl,rfl,⟨x,rfl,c1,c2,c3,c4⟩,c5⟩
  ·have h4:Maps.size q.D=4:=by omega
   refine (zE7 g.d.B g.d.A g.d.n g.d.C (.slice none 0 0) g.d.calls g.d.writes (qB2 g.d) q.Db base (qB8 g) (qF6 g.ys) none 0 0 false (some 4) rfl [q.St] (fun xo w1=>xo=none∧w1.heap[q.St]?=some (μ 0 q.s)) w hI hP1 (fun xo w1 h=>h.1) (.inr ⟨rfl,by rw[hbr,←hsz];exact h4⟩) ((zV6 q.Db q.St q.nM q.s q.D w hS.hD hS.hSt (by rw[hsV,hsM];exact hrm) hS.po hDS (by rw[hsM];exact hMS) h4).mono ?_)).mono fun e w' ⟨a,w1,b,c,d⟩=>⟨a,hq w' ⟨w1,b.2,c,d⟩⟩;rintro e w' ⟨v,rfl,c1,c2,c3⟩;exact⟨none,v,rfl,c1,⟨rfl,c2⟩,c3⟩
def qO2:List Int:=[10,11,12,13,14,15,16,18]
theorem At.same{base:Nat}{T:Int}{w w':World}{g:TG}{q:SG}{i:Nat}{y:YG}(h:At base T w g q i y)(hK:Kp [] w w'):At base T w' g q i y:=
 ⟨h.ok.keep hK (Muts.nil _ _ _) (by simp) (Int.le_refl _),h.T0,h.T1,h.hb,Nat.le_trans h.hbs hK.size,qT5 h.g0 hK h.hb h.hbs (by simp),h.e1,h.e2,h.S.kp hK (Int.le_refl _) (by simp) (by simp) (Apt.nil _ _),fun y hy=>(h.Y y hy).kp hK (Int.le_refl _) (by simp) (by simp) (Apt.nil _ _),h.hi,h.hy⟩
theorem xM1(base:Nat)(T:Int)(w:World)(g:TG)(q:SG)(i:Nat)(y:YG)(h:At base T w g q i y)(o:SOp)(hk:o.k=13∨o.k=14∨o.k=15∨o.k=16∨o.k=18)(hf:SFits o):
  Calls prog 83 #[.pointer (some ⟨g.d.B,0,none⟩),.pointer (some ⟨y.tb,0,none⟩),.agg #[.int .i64 o.k,.int .i64 o.x,.int .i64 o.y,.int .i64 o.a,.int .i64 o.b,.string o.s,.string o.t]] w fun e w'=>e=.returned (.bool true)∧DStep qC7 base (T+2) w w' g:=by
 obtain⟨k,ox,oy,oa,ob,os,ot⟩:=o;have HF:=zh hf;have HA:Hid (At base T (w.alloc (.cells #[.int .i64 k,.int .i64 ox,.int .i64 oy,.int .i64 oa,.int .i64 ob,.string os,.string ot] 66)) g q i y):=h.same ((Kp.refl _ _).alloc _);simp only at hk;clear hf;rcases hk with rfl|rfl|rfl|rfl|rfl
 ·go_enter func83,ntmps83;go_wp2_with fail;refine (xP2 base T _ g q i y os ot HA.out).mono ?_;rintro e w2 ⟨rfl,hs⟩;have HX:Hid (DStep qC7 base (T+2) w w2 g):=DStep.from ((Kp.refl _ _).alloc _) hs h.ok.muts;clear hs;go_wp2;go_ret;exact⟨rfl,HX.out⟩
 ·go_enter func83,ntmps83;go_wp2_with fail;refine (zZ8 base T _ g q i y os ot HA.out).mono ?_;rintro e w2 ⟨rfl,hs⟩;have HX:Hid (DStep qC7 base (T+2) w w2 g):=DStep.from ((Kp.refl _ _).alloc _) hs h.ok.muts;clear hs;go_wp2;go_ret;exact⟨rfl,HX.out⟩
 ·go_enter func83,ntmps83;go_wp2_with fail;refine (qR0 base T _ g q i y os HA.out).mono ?_;rintro e w2 ⟨rfl,hs⟩;have HX:Hid (DStep qC7 base (T+2) w w2 g):=DStep.from ((Kp.refl _ _).alloc _) hs h.ok.muts;clear hs;go_wp2;go_ret;exact⟨rfl,HX.out⟩
 ·go_enter func83,ntmps83;go_wp2_with fail;refine (xR4 base T _ g q i y os ot oa HF.out.a.1 HF.out.a.2 HA.out).mono ?_;rintro e w2 ⟨rfl,hs⟩;have HX:Hid (DStep qC7 base (T+2) w w2 g):=DStep.from ((Kp.refl _ _).alloc _) hs h.ok.muts;clear hs;go_wp2;go_ret;exact⟨rfl,HX.out⟩
 ·go_enter func83,ntmps83;go_wp2_with fail;refine (zR2 base T _ g q i y HA.out).mono ?_;rintro e w2 ⟨rfl,hs⟩;have HX:Hid (DStep qC7 base (T+2) w w2 g):=DStep.from ((Kp.refl _ _).alloc _) hs h.ok.muts;clear hs;go_wp2;go_ret;exact⟨rfl,HX.out⟩
theorem xW7:DOps qC7 qO2 where
 fmt:=fun base T w g h hT0 hT hb hbs hg=>xE1 base T w g h hT0 hT hb hbs hg
 opn:=fun base T w g h hT0 hT hb hbs hg=>xN1 base T w g h hT0 hT hb hbs hg
 beg:=fun base T w g h hT0 hT hb hbs hg hx wrt=>zV3 base T w g h hT0 hT hb hbs hg hx wrt
 txn:=fun base T w g h hT0 hT hb hbs hg hx j hj o hk hkk hf=>by
  obtain⟨q,e1,e2,hS,hY⟩:=TOk.store h hx;have hj':j<g.ys.length:=by simpa [qC7,qB8] using hj
  have hkk':o.k=13∨o.k=14∨o.k=15∨o.k=16∨o.k=18:=by
   simp only[qO2,List.mem_cons,List.not_mem_nil,or_false] at hkk;omega
  have:=xM1 base T w g q j g.ys[j] ⟨h,hT0,hT,hb,hbs,hg,e1,e2,hS,hY,hj',rfl⟩ o hkk' hf;have e:(qC7.tbs g)[j]=g.ys[j].tb:=by simp[qC7,qB8]
  rw[e];exact this
 looks:=fun base T w g h hT0 hT=>xK4 base T w g h hT0 hT
theorem xX6:qW8 qC7 qO2:=xT2 qC7 qO2 (by decide) xW7
theorem xZ0(p:Option Addr)(n cap:Nat)(f:Nat→SOp)(w:World)(hS:Script w p n f)(hf:∀ i,i<n→SFits (f i))(h0:0<w.heap.size)(hg:w.cell? ⟨0,0,none⟩=some qC1):
  Calls prog 4 #[.slice p n cap] w fun e w'=>e=.returned (.bool true)∧Kp [] w w':=by
 have hK0:Kp [] w (w.alloc (.cells (qO2.map (.int .i64)).toArray 3)):=(Kp.refl _ _).alloc _;go_enter func4,ntmps4;go_wp2_with fail;refine (xO6 qO2 8 (by decide) rfl (fun p n cap f w=>xZ8 qC7 qO2 xX6 p n cap f w) p n cap f _ (hS.keep hK0) hf (by simp) ((hK0.cell (a:=⟨0,0,none⟩) h0 (by simp)).trans hg) w.heap.size (κ _ _)).mono ?_;rintro e w1 ⟨rfl,hK1⟩;go_wp2;go_ret;exact⟨rfl,hK0.tr hK1⟩
end Go.Proofs.YtdohpenfkdckiaaGreatDoor.Gw
namespace Go.Proofs.YtdohpenfkdckiaaGreatDoor.Gw
open Go.Proofs.Tryz
open Go Go.ChangeShapes Go.WideShapes Go.RowKit Go.Deep
theorem xY9(os:Os)(started:os.Started)(H:Type)(enc:TypeId × Value→H):
  ReturnsInHanded {} checked os 4 .any (fun w args=>(Rows.txnsSpec.pre enc prog f4 [] false w args∧laidMetH prog Rows.txnsRow.laid w)∧sizedMet enc prog f4 (OpenSpec.ofChange Rows.txnsSpec) false w args)
   (Rows.txnsSpec.post enc prog f4 false true false false):=by
 refine returnsInHanded_of_change_and (C:=checked) (X:=fun w _=>laidMetH prog Rows.txnsRow.laid w) (fun _ _ _ hh h=>h.of_heap hh) xQ0 started (by kernel_rfl) func4 (xZ2 os H enc) ?_;intro W base args ds gs before hval0 hW _ _ hL _;have hval:∀ (j:Nat) t v,f4.params[j]?=some t→args[j]?=some v→Value.okWide prog W .any base t v:=hval0;have hW':=hW;obtain⟨p,q,hA0,hV,rfl,_,_⟩:=hW;have hA:DataW.TrodAll enc prog W 0 (fun _=>true) true f4.params.toList args.toList ds p:=hA0;rw[params4] at hA hval;obtain⟨v0,d0,rfl,rfl,h0⟩:=trodAll_one hA;obtain⟨rfl,rfl⟩:=trodVars_none hV;have h0k:=h0;obtain⟨fuel,hf⟩:=h0;clear hA0 hval0;simp only[List.append_nil] at hW';have hlt:∀ x∈p,x.block<W.heap.size:=fun x hx=>by simpa using hW'.lt x hx
 obtain⟨a0,len,cap,rfl⟩:=okWide_slice underlying22 (hval 0 22 v0 rfl rfl);have hg:=xY8 hL;have h0s:0<W.heap.size:=by
  unfold World.cell? at hg
  cases hb:W.heap[0]? with
  | none=>simp[hb] at hg
  | some o=>exact ζ hb
 obtain⟨p',n',cap',f,hc,hS,hfit⟩:=xM8 (c0:=.slice a0 len cap) (by simpa [Value.cells] using hf);cases hc;have e1:Rows.txnsSpec.fn H ([d0]++[])={ results:=[.lit (.bool true)],args:=[d0] }:=by simp[Rows.txnsSpec]
 refine (xZ0 a0 len cap f W hS hfit h0s hg).mono fun e W' ⟨he,hK⟩=>?_;subst he;have hb:Below W.heap.size W W':=hK.below (Nat.le_refl _) (by simp);refine⟨_,rfl,_,_,_,[],p,[],hW',?_,?_,?_,hb.frame _,fun h=>by cases h⟩
 ·rw[e1];exact trodAll_mk1 (shut_bool underlying4 true)
 ·rw[e1];exact trodAll_mk1 (Below.trod zJ6 (by kernel_rfl) (of_decide_eq_true (by kernel_rfl)) h0k hb hlt)
 ·rw[e1];rfl
end Go.Proofs.YtdohpenfkdckiaaGreatDoor.Gw
