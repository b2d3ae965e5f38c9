import Derived.Test.YtdohpenfkdckiabGreatDoorP09
import Derived.Maps.OwnSet
import Derived.Lib.Strings
import Derived.Lib.BufferWrite
import Derived.Lib.UnsafeStr
import Derived.Laws.MakeOwn
import Derived.Lib.AppendStr
set_option linter.all false
set_option maxRecDepth 100000
set_option maxHeartbeats 20000000
namespace Go.Proofs.YtdohpenfkdckiabGreatDoor
open Go.Proofs.Tryz
open Go.RowKit
theorem xU0(E:Env)(n:Nat)(g:Nat)(cap:Array Value)(f:ByteArray→Bool)(hup:Up f)(hcf:∀ (args:Array Value) (W:World),Sem.run prog (callFunc g args) W=.ok (.enter g args) W)
  (ih:∀ (r:HL) (l:Lnk (Tn n)) (q:Nat) (w:World),E.Dev w→RN E.O n w q l.sub→Good n l.key l.sub→1≤cnt n l.sub→Asks E w g cap f→Calls prog 178 #[τ E.V r,.pointer (some ⟨q,0,none⟩),.func (.func g) #[] cap] w fun e w'=>e=.returned (qF3 ((cont n l.sub).find? fun q=>f q.k))∧E.To w w')
  (r:HL) (l:Lnk (Tn (n+1))) (q:Nat) (w:World) (hd:E.Dev w) (hN:RN E.O (n+1) w q l.sub) (hg:Good (n+1) l.key l.sub) (hne:1≤cnt (n+1) l.sub) (ha:Asks E w g cap f):
  Calls prog 178 #[τ E.V r,.pointer (some ⟨q,0,none⟩),.func (.func g) #[] cap] w fun e w'=>e=.returned (qF3 ((cont (n+1) l.sub).find? fun q=>f q.k))∧E.To w w':=by
 have hmf:=zM;have hcl:(η l.sub).length≤10000:=(qJ9 (n+1) l.key l.sub hg).1;have hne':1≤(η l.sub).length:=hne;have HSK:Hid ((cont (n+1) l.sub).find? (fun q=>f q.k)=(((η l.sub).drop ((η l.sub).findIdx (fun l=>f l.key)-1)).flatMap fun l=>cont n l.sub).find? (fun q=>f q.k)):=xU3 hup hg.row;have HGA:Hid (∀ z∈η l.sub,Good n z.key z.sub∧1≤cnt n z.sub):=fun z hz=>⟨(hg.all z hz).1,by have:=(hg.all z hz).2.1;omega⟩;have HPA:Hid ((η l.sub).Pairwise (qQ8 n)):=hg.pair;have HUP:=zh hup;have HD:=zh hd;have HA:=zh ha;have HIH:=ih;clear hd hup ha hg hne ih;obtain⟨vl,hq0,hs,hsl0,hb0⟩:=hN;obtain⟨ls,hls⟩:∃ ls,η l.sub=ls:=⟨_,rfl⟩;rw[hls] at hb0 hcl hne' HSK HGA HPA;clear hls;have HBL:=zh hb0.1;have hhl:hs.length≤10000:=by rw[hb0.1];exact hcl
 have hh1:1≤hs.length:=by rw[hb0.1];exact hne'
 obtain⟨gb,off,cp,cur,fr,rfl,hcp,hrow0,hcur⟩:=hsl0.link hh1;obtain⟨lv,hlv⟩:∃ lv:Int,((n+1:Nat):Int)=lv:=⟨_,rfl⟩;rw[hlv] at hq0;have HLV:Hid (((n:Nat):Int)<lv):=by show _<_;omega
 have hlv0:¬lv=0:=by omega
 have hqs:=ζ hq0;have hqs1:q<w.heap.size+1:=by omega
 have hqs2:q<w.heap.size+1+1:=by omega
 have q0:=ξ hq0 0;simp only[υ,zG,zH,zI] at q0;have HB0:=zh hb0;have HSL0:=zh hsl0;have HCUR:=zh hcur;clear hb0 hsl0 hcur hlv;rw[τ];go_enter func178,ntmps178;go_wp2_with fail;obtain⟨w1,hw1,hB1,hF1,hR1,hK1,hs1⟩:∃ w1,w1=((w.alloc (.cells #[.pointer (some ⟨E.V,0,none⟩),.string r.key,.int .i64 r.b,.int .u64 r.s,.pointer r.ptr] 83)).alloc (.cells #[.func (.func g) #[] cap] 227)).alloc (.cells #[.string ⟨#[]⟩,.string ⟨#[]⟩] 64)∧w1.heap[w.heap.size]?=some (.cells #[.pointer (some ⟨E.V,0,none⟩),.string r.key,.int .i64 r.b,.int .u64 r.s,.pointer r.ptr] 83)∧w1.heap[w.heap.size+1]?=some (.cells #[.func (.func g) #[] cap] 227)∧w1.heap[w.heap.size+1+1]?=some (.cells #[.string ⟨#[]⟩,.string ⟨#[]⟩] 64)∧Kp [] w w1∧w1.heap.size=w.heap.size+3:=by
  refine⟨_,rfl,θ _ (θ _ (μ _ _)),θ _ ?_,?_,(((Kp.refl _ _).alloc _).alloc _).alloc _,by simp⟩
  ·have e:=μ (w.alloc (.cells #[.pointer (some ⟨E.V,0,none⟩),.string r.key,.int .i64 r.b,.int .u64 r.s,.pointer r.ptr] 83)) (.cells #[.func (.func g) #[] cap] 227);simpa using e
  ·have e:=μ ((w.alloc (.cells #[.pointer (some ⟨E.V,0,none⟩),.string r.key,.int .i64 r.b,.int .u64 r.s,.pointer r.ptr] 83)).alloc (.cells #[.func (.func g) #[] cap] 227)) (.cells #[.string ⟨#[]⟩,.string ⟨#[]⟩] 64);simpa using e
 rw[←hw1];clear hw1 q0 hqs hqs1 hqs2;have hT1':=Env.To.of0 HD.out hK1;have hq:=hK1.hp hq0;have hsl:=HSL0.out.keep0 hK1;have hrow:=hK1.hp hrow0;have hb:Both (RL E.O n w1) hs ls:=HB0.out.mono fun x y hr=>RL.keep hr hK1 (Apt.nil _ _);clear hq0 HSL0 hrow0 HB0;have HB:=zh hb;have HSL:=zh hsl;have hmap:hs.findIdx (fun p=>f p.key)=ls.findIdx (fun p=>f p.key):=by
  have e:hs.map HL.key=ls.map Lnk.key:=hb.map_eq fun x y hr=>hr.1;have h1:∀ (l:List HL),l.findIdx (fun l=>f l.key)=(l.map HL.key).findIdx f:=fun l=>by rw[List.findIdx_map];rfl
  have h2:∀ (l:List (Lnk (Tn n))),l.findIdx (fun l=>f l.key)=(l.map Lnk.key).findIdx f:=fun l=>by rw[List.findIdx_map];rfl
  rw[h1,h2,e]
 have HDN:Hid (∀ i j (hi:i<hs.length) (hj:j<hs.length),i≤j→(!f hs[j].key)=true→(!f hs[i].key)=true):=by
  show ∀ i j (hi:i<hs.length) (hj:j<hs.length),_;intro i j hi hj hij hp;by_cases e:i=j
  ·subst e;exact hp
  ·have hk:=(zC7 hb HPA.out).at hi hj (by omega);by_cases e2:f hs[i].key=true
   ·rw[HUP.out _ _ hk e2] at hp;cases hp
   ·simpa using e2
 obtain⟨i,hi0⟩:∃ i,ls.findIdx (fun p=>f p.key)-1=i:=⟨_,rfl⟩;have hil:i<hs.length:=by
  have:ls.findIdx (fun p=>f p.key)≤ls.length:=List.findIdx_le_length;have:=hb.1;omega
 have HLAST:Hid (∀ W,Kp [] w1 W→Calls prog 124 #[.slice (some ⟨gb,off,none⟩) hs.length cp,.func (.func 199) #[] #[.pointer (some ⟨w.heap.size+1,0,none⟩)]] W fun e w'=>e=.returned (.int .i64 (i:Nat))∧Kp [] W w'):=by
  show ∀ W,_;intro W hKW;have:=zZ3 199 #[.pointer (some ⟨w.heap.size+1,0,none⟩)] (.slice (some ⟨gb,off,none⟩) hs.length cp) hs (fun p=>!f p.key) W (hsl.keep0 hKW) (by omega) HDN.out (fun args W=>by simp[go_sem,func199])
   (fun W2 hK2 j hj=>xT6 g (w.heap.size+1) cap hs[j] (f hs[j].key) W2 ((hKW.tr hK2).hp hF1) hcf (fun W' hK'=>HA.out W' _ ((hT1'.tail (hKW.tr hK2)).tail hK')))
  simp only[Bool.not_not] at this;rw[hmap,hi0] at this;exact this
 have HI0:=zh hi0;clear hK1 hb hsl hmap hi0;have hS0:w1.heap[q]?=some (υ lv (.slice none 0 0) (.slice (some ⟨gb,off,none⟩) hs.length cp)):=hq;refine wp_region_held_drew (S:=fun W=>W.heap[q]?=some (υ lv (.slice none 0 0) (.slice (some ⟨gb,off,none⟩) hs.length cp))) (by kernel_rfl) hS0 (fun _=>?_);refine zP 0 q 0 hS0 ?_;refine zP 1 q 0 hS0 ?_;refine zP 2 q 2 hS0 ?_;refine zV 3 (.slice (some ⟨gb,off,none⟩) hs.length cp) rfl (fun W hS=>by have c:=ξ hS 2;simp[υ] at c;clear hS;go_simp) hS0 ?_;refine zP 4 q 0 hS0 ?_;refine zP 5 q 0 hS0 ?_;refine zP 6 q 2 hS0 ?_;refine zV 7 (.slice (some ⟨gb,off,none⟩) hs.length cp) rfl (fun W hS=>by have c:=ξ hS 2;simp[υ] at c;clear hS;go_simp) hS0 ?_;refine zU 8 (.func (.func 199) #[] #[.pointer (some ⟨w.heap.size+1,0,none⟩)]) hS0 ?_;refine zU 12 (.int .i64 0) hS0 ?_;refine zq 9 fun K hK=>?_;go_simp;refine (HLAST.out w1.drew ((Kp.refl _ _).drew)).mono ?_;rintro e w2 ⟨rfl,hK2⟩;have hK2':Kp [] w1 w2:=((Kp.refl _ w1).drew).tr hK2;have hS2:=hK2'.hp hS0;refine hK.out _ _ hS2 (fun _=>?_);clear hK K hK2
 try simp only[zZ]
 have hicp:¬cp=i:=by omega
 have hji:(i:Int)≤(hs.length:Int):=by omega
 have hjc:(i:Int)≤(cp:Int):=by omega
 have hncp:(hs.length:Int)≤(cp:Int):=by omega
 refine zU 10 (.slice (some ⟨gb,off+i*4,none⟩) (hs.length-i) (cp-i)) hS2 ?_;obtain⟨m,hm⟩:∃ m,m=hs.length-i:=⟨_,rfl⟩;rw[←hm];refine zU 11 (.int .i64 m) hS2 ?_;refine zd ?_;have hT2:=hT1'.tail hK2';have HM:=zh hm;have HROW:=zh hrow;have HT2:=zh hT2;have HT1:=zh hT1';have HB2:Hid (w2.heap[w.heap.size]?=some (.cells #[.pointer (some ⟨E.V,0,none⟩),.string r.key,.int .i64 r.b,.int .u64 r.s,.pointer r.ptr] 83)):=hK2'.hp hB1;have HF2:Hid (w2.heap[w.heap.size+1]?=some (.cells #[.func (.func g) #[] cap] 227)):=hK2'.hp hF1;have HR2:Hid (w2.heap[w.heap.size+1+1]?=some (.cells #[.string ⟨#[]⟩,.string ⟨#[]⟩] 64)):=hK2'.hp hR1;have hml:i+m=hs.length:=by omega
 have HK12:=zh hK2';have HQ2:=zh hS2;clear hS2 hS0 hT2 hT1' hB1 hF1 hR1 hrow hK2' hq hm hicp hji hjc hncp;go_wp2
 go_loopw [52] (fun s wr=>∃ (j:Nat),j≤m∧s=.int .i64 j∧Hid ((((ls.drop i).take j).flatMap fun l=>cont n l.sub).find? (fun q=>f q.k)=none)∧Hid (E.To w wr)∧Hid (E.To w2 wr)∧wr.heap[w.heap.size]?=some (.cells #[.pointer (some ⟨E.V,0,none⟩),.string r.key,.int .i64 r.b,.int .u64 r.s,.pointer r.ptr] 83)∧wr.heap[w.heap.size+1]?=some (.cells #[.func (.func g) #[] cap] 227)∧wr.heap[w.heap.size+1+1]?=some (.cells #[.string ⟨#[]⟩,.string ⟨#[]⟩] 64)) (fun s _=>m-(intOf s).toNat)
 case atStart=>exact⟨0,Nat.zero_le _,rfl,(by simp:_=none),HT2.out,⟨HT2.out.dev,Kp.refl _ _⟩,HB2.out,HF2.out,HR2.out⟩
 case round=>
  obtain⟨j,hj,rfl,hnone,hTw,hT2w,hBw,hFw,hRw⟩:=hrel;by_cases hlt:j<m
  ·have hjb:(j:Int)<(m:Int):=by omega
   have hijl:i+j<ls.length:=by have:=HBL.out;omega
   obtain⟨z,hz⟩:∃ z,ls[i+j]?=some z:=⟨_,List.getElem?_eq_getElem hijl⟩;obtain⟨x,_,hrx,c0,c1,c2,c3⟩:=qR8 HB.out HCUR.out hz;have hrw:=hT2w.out.kp.heap (HK12.out.hp HROW.out) (fun hm=>E.apt w2 HT2.out.dev _ hm _ _ _ (HK12.out.hp HROW.out) (by decide));rw[show off+(i+j)*4=off+i*4+j*4 by omega] at c0 c1 c2 c3;have a0:=ξ hrw (off+i*4+j*4);rw[c0] at a0;have a1:=ξ hrw (off+i*4+j*4+1);rw[c1] at a1;have a2:=ξ hrw (off+i*4+j*4+2);rw[c2] at a2;have a3:=ξ hrw (off+i*4+j*4+3);rw[c3] at a3;have hgs:=ζ hrw;have hBs:=ζ hBw;have hFs:=ζ hFw;have hRs:=ζ hRw;have t0:=ξ hBw;have f0:=ξ hFw 0;simp only[zG,zH,zI] at f0;have HRX:=zh hrx;have HZ:=zh hz;have HZG:Hid (Good n z.key z.sub∧1≤cnt n z.sub):=HGA.out z (List.mem_of_getElem? hz);have hqr:=hT2w.out.kp.heap HQ2.out (fun hm=>E.apt w2 HT2.out.dev _ hm _ _ _ HQ2.out (by decide));have hT12:E.To w1 wr:=(Env.To.of0 HT1.out.dev HK12.out).trans hT2w.out;have HRXW:Hid (RL E.O n wr x z):=Env.RL HRX.out HT1.out.dev hT12;have hw2r:w2.heap.size≤wr.heap.size:=hT2w.out.kp.size;have hstep:((ls.drop i).take (j+1)).flatMap (fun l=>cont n l.sub)=((ls.drop i).take j).flatMap (fun l=>cont n l.sub)++cont n z.sub:=by
    have hd:(ls.drop i)[j]?=some z:=by rw[List.getElem?_drop];exact HZ.out
    obtain⟨hlt',he⟩:=List.getElem?_eq_some_iff.1 hd;rw[List.take_succ_eq_append_getElem hlt',he,List.flatMap_append];simp
   have HST:=zh hstep;clear hrx hz hrw hT12 c0 c1 c2 c3 hstep;go_wp2_with fail;clear a0 a1 a2 a3 hgs t0 f0 hBs hFs;obtain⟨w3,hw3,hX3,hK3⟩:∃ w3,w3=wr.alloc (.cells #[.string x.key,.int .i64 x.b,.int .u64 x.s,.pointer x.ptr] 81)∧w3.heap[wr.heap.size]?=some (.cells #[.string x.key,.int .i64 x.b,.int .u64 x.s,.pointer x.ptr] 81)∧Kp [] wr w3:=⟨_,rfl,μ _ _,(Kp.refl _ _).alloc _⟩;rw[←hw3];clear hw3;obtain⟨X,hX0⟩:∃ X,wr.heap.size=X:=⟨_,rfl⟩;rw[hX0] at hX3 hw2r hRs ⊢;have hXs:=ζ hX3;have hT3:=hTw.out.tail hK3;have hT23:=hT2w.out.tail hK3;have hR3:=hK3.hp hRw;have hRX3:RL E.O n w3 x z:=RL.keep HRXW.out hK3 (Apt.nil _ _);have hS0:w3.heap[w.heap.size]?=some (.cells #[.pointer (some ⟨E.V,0,none⟩),.string r.key,.int .i64 r.b,.int .u64 r.s,.pointer r.ptr] 83)∧w3.heap[w.heap.size+1]?=some (.cells #[.func (.func g) #[] cap] 227)∧w3.heap[X]?=some (.cells #[.string x.key,.int .i64 x.b,.int .u64 x.s,.pointer x.ptr] 81)∧w3.heap[q]?=some (υ lv (.slice none 0 0) (.slice (some ⟨gb,off,none⟩) hs.length cp)):=⟨hK3.hp hBw,hK3.hp hFw,hX3,hK3.hp hqr⟩;clear hK3 hX3 hBw hFw hRw hqr hX0 HRXW HRX;obtain⟨fk,fv,fb,hfv⟩:∃ fk fv fb,qF3 ((cont n z.sub).find? fun q=>f q.k)=.tuple #[.agg #[.string fk,.string fv],.bool fb]:=by
    cases (cont n z.sub).find? fun q=>f q.k with
    | none=>exact⟨_,_,_,rfl⟩
    | some p=>exact⟨_,_,_,rfl⟩
   have HFV:=zh hfv;clear hfv;refine wp_region_held_drew (S:=fun W=>W.heap[w.heap.size]?=some (.cells #[.pointer (some ⟨E.V,0,none⟩),.string r.key,.int .i64 r.b,.int .u64 r.s,.pointer r.ptr] 83)∧W.heap[w.heap.size+1]?=some (.cells #[.func (.func g) #[] cap] 227)∧W.heap[X]?=some (.cells #[.string x.key,.int .i64 x.b,.int .u64 x.s,.pointer x.ptr] 81)∧W.heap[q]?=some (υ lv (.slice none 0 0) (.slice (some ⟨gb,off,none⟩) hs.length cp))) (by kernel_rfl) hS0 (fun _=>?_);refine zW 0 (.agg #[.pointer (some ⟨E.V,0,none⟩),.string r.key,.int .i64 r.b,.int .u64 r.s,.pointer r.ptr]) hS0 (·.1) ?_;refine zW 1 (.agg #[.pointer (some ⟨E.V,0,none⟩),.string r.key,.int .i64 r.b,.int .u64 r.s,.pointer r.ptr]) hS0 (·.1) ?_;refine zW 2 (.agg #[.string x.key,.int .i64 x.b,.int .u64 x.s,.pointer x.ptr]) hS0 (·.2.2.1) ?_;refine zP 3 q 0 hS0 ?_;refine zP 4 q 0 hS0 ?_;refine zP 5 q 0 hS0 ?_;refine zV 6 (.int .i64 lv) rfl (fun W hS=>by have c:=ξ hS.2.2.2 0;simp[υ] at c;clear hS;go_simp) hS0 ?_;refine zV 8 (.func (.func g) #[] cap) rfl (fun W hS=>by have c:=ξ hS.2.1 0;simp only[zG,zH] at c;clear hS;go_simp) hS0 ?_;have hTd:E.To w w3.drew:=hT3.tail ((Kp.refl _ _).drew);have hT2d:E.To w2 w3.drew:=hT23.tail ((Kp.refl _ _).drew);have hRd:w3.drew.heap[w.heap.size+1+1]?=some (.cells #[.string ⟨#[]⟩,.string ⟨#[]⟩] 64):=hR3;have hSd:w3.drew.heap[w.heap.size]?=some (.cells #[.pointer (some ⟨E.V,0,none⟩),.string r.key,.int .i64 r.b,.int .u64 r.s,.pointer r.ptr] 83)∧w3.drew.heap[w.heap.size+1]?=some (.cells #[.func (.func g) #[] cap] 227)∧w3.drew.heap[X]?=some (.cells #[.string x.key,.int .i64 x.b,.int .u64 x.s,.pointer x.ptr] 81)∧w3.drew.heap[q]?=some (υ lv (.slice none 0 0) (.slice (some ⟨gb,off,none⟩) hs.length cp)):=hS0;have hRXd:RL E.O n w3.drew x z:=RL.keep hRX3 ((Kp.refl [] _).drew) (Apt.nil _ _);have hsd:X<w3.drew.heap.size:=hXs;clear hT3 hT23 hR3 hRX3;refine zr 7 13 (fun K hK=>?_) fun K hK=>?_
   ·go_simp;refine (qK4 E n x r z lv w3.drew hTd.dev hRXd HLV.out).mono ?_;rintro e w4 ⟨q1,rfl,hN1,hTn⟩;have hT4:=hTd.trans hTn;have hT24:=hT2d.trans hTn;have hR4:=hTn.new (k:=w.heap.size+1+1) HD.out (by omega) hRd;have hS4:w4.heap[w.heap.size]?=some (.cells #[.pointer (some ⟨E.V,0,none⟩),.string r.key,.int .i64 r.b,.int .u64 r.s,.pointer r.ptr] 83)∧w4.heap[w.heap.size+1]?=some (.cells #[.func (.func g) #[] cap] 227)∧w4.heap[X]?=some (.cells #[.string x.key,.int .i64 x.b,.int .u64 x.s,.pointer x.ptr] 81)∧w4.heap[q]?=some (υ lv (.slice none 0 0) (.slice (some ⟨gb,off,none⟩) hs.length cp)):=⟨hTn.new (k:=w.heap.size) HD.out (by omega) hSd.1,hTn.new (k:=w.heap.size+1) HD.out (by omega) hSd.2.1,hTn.new (k:=X) HD.out (by omega) hSd.2.2.1,hTn.kp.heap (k:=q) hSd.2.2.2 (fun hm=>E.apt _ hTd.dev _ hm _ _ _ hSd.2.2.2 (by decide))⟩;refine hK.out _ _ hS4 (fun _=>?_);clear hK K
    try simp only[zZ]
    refine zr 9 13 (fun K hK=>?_) fun K hK=>?_
    ·go_simp;refine (HIH r z q1 w4 hT4.dev hN1 HZG.out.1 HZG.out.2 (HA.out.to hT4)).mono ?_;rintro e w5 ⟨rfl,hTn⟩;rw[HFV.out];have hT5:=hT4.trans hTn;have hT25:=hT24.trans hTn;have hR5:=hTn.new (k:=w.heap.size+1+1) HD.out (by omega) hR4;have hS5:w5.heap[w.heap.size]?=some (.cells #[.pointer (some ⟨E.V,0,none⟩),.string r.key,.int .i64 r.b,.int .u64 r.s,.pointer r.ptr] 83)∧w5.heap[w.heap.size+1]?=some (.cells #[.func (.func g) #[] cap] 227)∧w5.heap[X]?=some (.cells #[.string x.key,.int .i64 x.b,.int .u64 x.s,.pointer x.ptr] 81)∧w5.heap[q]?=some (υ lv (.slice none 0 0) (.slice (some ⟨gb,off,none⟩) hs.length cp)):=⟨hTn.new (k:=w.heap.size) HD.out (by omega) hS4.1,hTn.new (k:=w.heap.size+1) HD.out (by omega) hS4.2.1,hTn.new (k:=X) HD.out (by omega) hS4.2.2.1,hTn.kp.heap (k:=q) hS4.2.2.2 (fun hm=>E.apt _ hT4.dev _ hm _ _ _ hS4.2.2.2 (by decide))⟩;refine hK.out _ _ hS5 (fun _=>?_);clear hK K
     try simp only[zZ]
     refine zU 10 (.tuple #[.agg #[.string fk,.string fv],.bool fb]) hS5 ?_;refine zU 11 (.agg #[.string fk,.string fv]) hS5 ?_;refine zU 12 (.bool fb) hS5 ?_;refine zq 13 fun K hK=>?_;go_simp;obtain⟨w6,hwa,hP6,hKa⟩:∃ w',w'=w5.alloc (.cells #[.string ⟨#[]⟩,.string ⟨#[]⟩] 64)∧w'.heap[w5.heap.size]?=some (.cells #[.string ⟨#[]⟩,.string ⟨#[]⟩] 64)∧Kp [] w5 w':=⟨_,rfl,μ _ _,(Kp.refl _ _).alloc _⟩;rw[←hwa];clear hwa;have hT6:=hT5.tail hKa;have hT26:=hT25.tail hKa;have hR6:=hKa.hp hR5;have hS6:w6.heap[w.heap.size]?=some (.cells #[.pointer (some ⟨E.V,0,none⟩),.string r.key,.int .i64 r.b,.int .u64 r.s,.pointer r.ptr] 83)∧w6.heap[w.heap.size+1]?=some (.cells #[.func (.func g) #[] cap] 227)∧w6.heap[X]?=some (.cells #[.string x.key,.int .i64 x.b,.int .u64 x.s,.pointer x.ptr] 81)∧w6.heap[q]?=some (υ lv (.slice none 0 0) (.slice (some ⟨gb,off,none⟩) hs.length cp)):=⟨hKa.hp hS5.1,hKa.hp hS5.2.1,hKa.hp hS5.2.2.1,hKa.hp hS5.2.2.2⟩;refine hK.out _ _ hS6 (fun _=>?_);clear hK K
     try simp only[zZ]
     have hlb:X<w5.heap.size:=ζ hS5.2.2.1;have hPs:=ζ hP6;have z0:=ξ hP6;have fz0:=ψ hP6;refine zq 14 fun K hK=>?_;go_simp;have hts:=qN2 (.string fk) (.string fv) hP6;obtain⟨w7,hw7,hP7,hK7⟩:∃ w7,w7=(w6.setCell ⟨w5.heap.size,0,none⟩ (.string fk)).setCell ⟨w5.heap.size,1,none⟩ (.string fv)∧w7.heap[w5.heap.size]?=some (.cells #[.string fk,.string fv] 64)∧Kp [w5.heap.size] w6 w7:=⟨_,rfl,hts.1,hts.2⟩;rw[←hw7];clear hw7 hts z0 fz0;have hT7:=hT6.store' (by omega) hP6 (by decide) hK7;have hT27:=hT26.store' (by omega) hP6 (by decide) hK7;have hR7:=hK7.ho hR6;have hS7:w7.heap[w.heap.size]?=some (.cells #[.pointer (some ⟨E.V,0,none⟩),.string r.key,.int .i64 r.b,.int .u64 r.s,.pointer r.ptr] 83)∧w7.heap[w.heap.size+1]?=some (.cells #[.func (.func g) #[] cap] 227)∧w7.heap[X]?=some (.cells #[.string x.key,.int .i64 x.b,.int .u64 x.s,.pointer x.ptr] 81)∧w7.heap[q]?=some (υ lv (.slice none 0 0) (.slice (some ⟨gb,off,none⟩) hs.length cp)):=⟨hK7.ho hS6.1,hK7.ho hS6.2.1,hK7.ho hS6.2.2.1,hK7.heap hS6.2.2.2 (by intro hm;rw[List.mem_singleton.1 hm,hP6] at hS6;simp[υ] at hS6)⟩;refine hK.out _ _ hS7 (fun _=>?_);clear hK K
     try simp only[zZ]
     refine zq 15 fun K hK=>?_;go_simp;refine hK.out _ _ hS7 (fun _=>?_);clear hK K
     try simp only[zZ]
     refine zd ?_;have HT7:Hid (E.To w w7∧E.To w2 w7):=⟨hT7,hT27⟩;have HR7:Hid (w7.heap[w.heap.size]?=some (.cells #[.pointer (some ⟨E.V,0,none⟩),.string r.key,.int .i64 r.b,.int .u64 r.s,.pointer r.ptr] 83)∧w7.heap[w.heap.size+1]?=some (.cells #[.func (.func g) #[] cap] 227)∧w7.heap[w.heap.size+1+1]?=some (.cells #[.string ⟨#[]⟩,.string ⟨#[]⟩] 64)):=⟨hS7.1,hS7.2.1,hR7⟩;have hPs7:=ζ hP7;have hRs7:=ζ hR7;have y0:=ξ hP7;have z0:=ξ hR7;have fz0:=ψ hR7;clear hS7 hS6 hP6 hP7 hR7 hR6 hT7 hT27 hT6 hT26 hK7 hS0 hSd hRd hTd hT2d hRXd
     cases hfd:(cont n z.sub).find? (fun q=>f q.k) with
     | none=>
      have hfv:=HFV.out;rw[hfd] at hfv;simp only[qF3,Value.tuple.injEq,Array.mk.injEq,List.cons.injEq,Value.agg.injEq,Value.string.injEq,Value.bool.injEq,and_true] at hfv;obtain⟨⟨rfl,rfl⟩,rfl⟩:=hfv;have HFD:=zh hfd;clear hfd HFV;go_wp2;refine⟨⟨j+1,by omega,by go_num,?_,HT7.out.1,HT7.out.2,HR7.out.1,HR7.out.2.1,HR7.out.2.2⟩,by simp[intOf];omega⟩;show _=none;rw[HST.out,List.find?_append,hnone.out,HFD.out];rfl
     | some p=>
      have hfv:=HFV.out;rw[hfd] at hfv;simp only[qF3,Value.tuple.injEq,Array.mk.injEq,List.cons.injEq,Value.agg.injEq,Value.string.injEq,Value.bool.injEq,and_true] at hfv;obtain⟨⟨rfl,rfl⟩,rfl⟩:=hfv;have HFD:=zh hfd;clear hfd HFV;go_wp2;have hts:=qN2 (.string p.k) (.string p.v) HR7.out.2.2;have hT5:=HT7.out.1.store' (by omega) HR7.out.2.2 (by decide) hts.2;have t0:=ξ hts.1 0;have t1:=ξ hts.1 1;simp only[zG,zH,zI] at t0 t1;refine bodyPost_ret (v:=qF3 (some p)) ?_ rfl ⟨?_,hT5⟩
      ·simp[results,results178,go_sem,t0,t1,qF3]
      ·have hall:(ls.drop i).flatMap (fun l=>cont n l.sub)=((ls.drop i).take (j+1)).flatMap (fun l=>cont n l.sub)++((ls.drop i).drop (j+1)).flatMap (fun l=>cont n l.sub):=by rw[←List.flatMap_append,List.take_append_drop]
       rw[HSK.out,HI0.out,hall,HST.out,List.find?_append,List.find?_append,hnone.out,HFD.out];rfl
    ·go_simp;obtain⟨w5,hwa,hP5,hKa⟩:∃ w',w'=w4.alloc (.cells #[.string ⟨#[]⟩,.string ⟨#[]⟩] 64)∧w'.heap[w4.heap.size]?=some (.cells #[.string ⟨#[]⟩,.string ⟨#[]⟩] 64)∧Kp [] w4 w':=⟨_,rfl,μ _ _,(Kp.refl _ _).alloc _⟩;rw[←hwa];clear hwa;have hT5:=hT4.tail hKa;have hT25:=hT24.tail hKa;have hR5:=hKa.hp hR4;have hS5:w5.heap[w.heap.size]?=some (.cells #[.pointer (some ⟨E.V,0,none⟩),.string r.key,.int .i64 r.b,.int .u64 r.s,.pointer r.ptr] 83)∧w5.heap[w.heap.size+1]?=some (.cells #[.func (.func g) #[] cap] 227)∧w5.heap[X]?=some (.cells #[.string x.key,.int .i64 x.b,.int .u64 x.s,.pointer x.ptr] 81)∧w5.heap[q]?=some (υ lv (.slice none 0 0) (.slice (some ⟨gb,off,none⟩) hs.length cp)):=⟨hKa.hp hS4.1,hKa.hp hS4.2.1,hKa.hp hS4.2.2.1,hKa.hp hS4.2.2.2⟩;refine hK.out _ _ hS5 (fun _=>?_);clear hK K
     try simp only[zZ]
     have hlb:X<w4.heap.size:=ζ hS4.2.2.1;have hN1b:=RN.keep hKa (Apt.nil _ _) n q1 _ hN1;clear hN1;have hN1:=hN1b;refine zq 9 fun K hK=>?_;go_simp;refine (HIH r z q1 w5 hT5.dev hN1 HZG.out.1 HZG.out.2 (HA.out.to hT5)).mono ?_;rintro e w6 ⟨rfl,hTn⟩;rw[HFV.out];have hT6:=hT5.trans hTn;have hT26:=hT25.trans hTn;have hR6:=hTn.new (k:=w.heap.size+1+1) HD.out (by omega) hR5;have hS6:w6.heap[w.heap.size]?=some (.cells #[.pointer (some ⟨E.V,0,none⟩),.string r.key,.int .i64 r.b,.int .u64 r.s,.pointer r.ptr] 83)∧w6.heap[w.heap.size+1]?=some (.cells #[.func (.func g) #[] cap] 227)∧w6.heap[X]?=some (.cells #[.string x.key,.int .i64 x.b,.int .u64 x.s,.pointer x.ptr] 81)∧w6.heap[q]?=some (υ lv (.slice none 0 0) (.slice (some ⟨gb,off,none⟩) hs.length cp)):=⟨hTn.new (k:=w.heap.size) HD.out (by omega) hS5.1,hTn.new (k:=w.heap.size+1) HD.out (by omega) hS5.2.1,hTn.new (k:=X) HD.out (by omega) hS5.2.2.1,hTn.kp.heap (k:=q) hS5.2.2.2 (fun hm=>E.apt _ hT5.dev _ hm _ _ _ hS5.2.2.2 (by decide))⟩;refine hK.out _ _ hS6 (fun _=>?_);clear hK K
     try simp only[zZ]
     have hP6:=hTn.new HD.out (by omega) hP5;refine zU 10 (.tuple #[.agg #[.string fk,.string fv],.bool fb]) hS6 ?_;refine zU 11 (.agg #[.string fk,.string fv]) hS6 ?_;refine zU 12 (.bool fb) hS6 ?_;have hPs:=ζ hP6;have z0:=ξ hP6;have fz0:=ψ hP6;refine zq 14 fun K hK=>?_;go_simp;have hts:=qN2 (.string fk) (.string fv) hP6;obtain⟨w7,hw7,hP7,hK7⟩:∃ w7,w7=(w6.setCell ⟨w4.heap.size,0,none⟩ (.string fk)).setCell ⟨w4.heap.size,1,none⟩ (.string fv)∧w7.heap[w4.heap.size]?=some (.cells #[.string fk,.string fv] 64)∧Kp [w4.heap.size] w6 w7:=⟨_,rfl,hts.1,hts.2⟩;rw[←hw7];clear hw7 hts z0 fz0;have hT7:=hT6.store' (by omega) hP6 (by decide) hK7;have hT27:=hT26.store' (by omega) hP6 (by decide) hK7;have hR7:=hK7.ho hR6;have hS7:w7.heap[w.heap.size]?=some (.cells #[.pointer (some ⟨E.V,0,none⟩),.string r.key,.int .i64 r.b,.int .u64 r.s,.pointer r.ptr] 83)∧w7.heap[w.heap.size+1]?=some (.cells #[.func (.func g) #[] cap] 227)∧w7.heap[X]?=some (.cells #[.string x.key,.int .i64 x.b,.int .u64 x.s,.pointer x.ptr] 81)∧w7.heap[q]?=some (υ lv (.slice none 0 0) (.slice (some ⟨gb,off,none⟩) hs.length cp)):=⟨hK7.ho hS6.1,hK7.ho hS6.2.1,hK7.ho hS6.2.2.1,hK7.heap hS6.2.2.2 (by intro hm;rw[List.mem_singleton.1 hm,hP6] at hS6;simp[υ] at hS6)⟩;refine hK.out _ _ hS7 (fun _=>?_);clear hK K
     try simp only[zZ]
     refine zq 15 fun K hK=>?_;go_simp;refine hK.out _ _ hS7 (fun _=>?_);clear hK K
     try simp only[zZ]
     refine zd ?_;have HT7:Hid (E.To w w7∧E.To w2 w7):=⟨hT7,hT27⟩;have HR7:Hid (w7.heap[w.heap.size]?=some (.cells #[.pointer (some ⟨E.V,0,none⟩),.string r.key,.int .i64 r.b,.int .u64 r.s,.pointer r.ptr] 83)∧w7.heap[w.heap.size+1]?=some (.cells #[.func (.func g) #[] cap] 227)∧w7.heap[w.heap.size+1+1]?=some (.cells #[.string ⟨#[]⟩,.string ⟨#[]⟩] 64)):=⟨hS7.1,hS7.2.1,hR7⟩;have hPs7:=ζ hP7;have hRs7:=ζ hR7;have y0:=ξ hP7;have z0:=ξ hR7;have fz0:=ψ hR7;clear hS7 hS6 hP6 hP7 hR7 hR6 hT7 hT27 hT6 hT26 hK7 hS0 hSd hRd hTd hT2d hRXd
     cases hfd:(cont n z.sub).find? (fun q=>f q.k) with
     | none=>
      have hfv:=HFV.out;rw[hfd] at hfv;simp only[qF3,Value.tuple.injEq,Array.mk.injEq,List.cons.injEq,Value.agg.injEq,Value.string.injEq,Value.bool.injEq,and_true] at hfv;obtain⟨⟨rfl,rfl⟩,rfl⟩:=hfv;have HFD:=zh hfd;clear hfd HFV;go_wp2;refine⟨⟨j+1,by omega,by go_num,?_,HT7.out.1,HT7.out.2,HR7.out.1,HR7.out.2.1,HR7.out.2.2⟩,by simp[intOf];omega⟩;show _=none;rw[HST.out,List.find?_append,hnone.out,HFD.out];rfl
     | some p=>
      have hfv:=HFV.out;rw[hfd] at hfv;simp only[qF3,Value.tuple.injEq,Array.mk.injEq,List.cons.injEq,Value.agg.injEq,Value.string.injEq,Value.bool.injEq,and_true] at hfv;obtain⟨⟨rfl,rfl⟩,rfl⟩:=hfv;have HFD:=zh hfd;clear hfd HFV;go_wp2;have hts:=qN2 (.string p.k) (.string p.v) HR7.out.2.2;have hT5:=HT7.out.1.store' (by omega) HR7.out.2.2 (by decide) hts.2;have t0:=ξ hts.1 0;have t1:=ξ hts.1 1;simp only[zG,zH,zI] at t0 t1;refine bodyPost_ret (v:=qF3 (some p)) ?_ rfl ⟨?_,hT5⟩
      ·simp[results,results178,go_sem,t0,t1,qF3]
      ·have hall:(ls.drop i).flatMap (fun l=>cont n l.sub)=((ls.drop i).take (j+1)).flatMap (fun l=>cont n l.sub)++((ls.drop i).drop (j+1)).flatMap (fun l=>cont n l.sub):=by rw[←List.flatMap_append,List.take_append_drop]
       rw[HSK.out,HI0.out,hall,HST.out,List.find?_append,List.find?_append,hnone.out,HFD.out];rfl
   ·go_simp;obtain⟨w4,hwa,hP4,hKa⟩:∃ w',w'=(w3.alloc (.cells #[.string ⟨#[]⟩,.string ⟨#[]⟩] 64)).drew∧w'.heap[w3.heap.size]?=some (.cells #[.string ⟨#[]⟩,.string ⟨#[]⟩] 64)∧Kp [] w3.drew w':=⟨_,rfl,μ _ _,((Kp.refl _ w3.drew).alloc _)⟩;rw[←hwa];clear hwa;have hT4:=hTd.tail hKa;have hT24:=hT2d.tail hKa;have hR4:=hKa.hp hRd;have hS4:w4.heap[w.heap.size]?=some (.cells #[.pointer (some ⟨E.V,0,none⟩),.string r.key,.int .i64 r.b,.int .u64 r.s,.pointer r.ptr] 83)∧w4.heap[w.heap.size+1]?=some (.cells #[.func (.func g) #[] cap] 227)∧w4.heap[X]?=some (.cells #[.string x.key,.int .i64 x.b,.int .u64 x.s,.pointer x.ptr] 81)∧w4.heap[q]?=some (υ lv (.slice none 0 0) (.slice (some ⟨gb,off,none⟩) hs.length cp)):=⟨hKa.hp hSd.1,hKa.hp hSd.2.1,hKa.hp hSd.2.2.1,hKa.hp hSd.2.2.2⟩;refine hK.out _ _ hS4 (fun _=>?_);clear hK K
    try simp only[zZ]
    have hRX4:=RL.keep hRXd hKa (Apt.nil _ _);refine zq 7 fun K hK=>?_;go_simp;refine (qK4 E n x r z lv w4 hT4.dev hRX4 HLV.out).mono ?_;rintro e w5 ⟨q1,rfl,hN1,hTn⟩;have hT5:=hT4.trans hTn;have hT25:=hT24.trans hTn;have hR5:=hTn.new (k:=w.heap.size+1+1) HD.out (by omega) hR4;have hS5:w5.heap[w.heap.size]?=some (.cells #[.pointer (some ⟨E.V,0,none⟩),.string r.key,.int .i64 r.b,.int .u64 r.s,.pointer r.ptr] 83)∧w5.heap[w.heap.size+1]?=some (.cells #[.func (.func g) #[] cap] 227)∧w5.heap[X]?=some (.cells #[.string x.key,.int .i64 x.b,.int .u64 x.s,.pointer x.ptr] 81)∧w5.heap[q]?=some (υ lv (.slice none 0 0) (.slice (some ⟨gb,off,none⟩) hs.length cp)):=⟨hTn.new (k:=w.heap.size) HD.out (by omega) hS4.1,hTn.new (k:=w.heap.size+1) HD.out (by omega) hS4.2.1,hTn.new (k:=X) HD.out (by omega) hS4.2.2.1,hTn.kp.heap (k:=q) hS4.2.2.2 (fun hm=>E.apt _ hT4.dev _ hm _ _ _ hS4.2.2.2 (by decide))⟩;refine hK.out _ _ hS5 (fun _=>?_);clear hK K
    try simp only[zZ]
    have hP5:=hTn.new HD.out (by omega) hP4;refine zq 9 fun K hK=>?_;go_simp;refine (HIH r z q1 w5 hT5.dev hN1 HZG.out.1 HZG.out.2 (HA.out.to hT5)).mono ?_;rintro e w6 ⟨rfl,hTn⟩;rw[HFV.out];have hT6:=hT5.trans hTn;have hT26:=hT25.trans hTn;have hR6:=hTn.new (k:=w.heap.size+1+1) HD.out (by omega) hR5;have hS6:w6.heap[w.heap.size]?=some (.cells #[.pointer (some ⟨E.V,0,none⟩),.string r.key,.int .i64 r.b,.int .u64 r.s,.pointer r.ptr] 83)∧w6.heap[w.heap.size+1]?=some (.cells #[.func (.func g) #[] cap] 227)∧w6.heap[X]?=some (.cells #[.string x.key,.int .i64 x.b,.int .u64 x.s,.pointer x.ptr] 81)∧w6.heap[q]?=some (υ lv (.slice none 0 0) (.slice (some ⟨gb,off,none⟩) hs.length cp)):=⟨hTn.new (k:=w.heap.size) HD.out (by omega) hS5.1,hTn.new (k:=w.heap.size+1) HD.out (by omega) hS5.2.1,hTn.new (k:=X) HD.out (by omega) hS5.2.2.1,hTn.kp.heap (k:=q) hS5.2.2.2 (fun hm=>E.apt _ hT5.dev _ hm _ _ _ hS5.2.2.2 (by decide))⟩;refine hK.out _ _ hS6 (fun _=>?_);clear hK K
    try simp only[zZ]
    have hP6:=hTn.new HD.out (by omega) hP5;have hlb:X<w3.heap.size:=hXs;refine zU 10 (.tuple #[.agg #[.string fk,.string fv],.bool fb]) hS6 ?_;refine zU 11 (.agg #[.string fk,.string fv]) hS6 ?_;refine zU 12 (.bool fb) hS6 ?_;have hPs:=ζ hP6;have z0:=ξ hP6;have fz0:=ψ hP6;refine zq 14 fun K hK=>?_;go_simp;have hts:=qN2 (.string fk) (.string fv) hP6;obtain⟨w7,hw7,hP7,hK7⟩:∃ w7,w7=(w6.setCell ⟨w3.heap.size,0,none⟩ (.string fk)).setCell ⟨w3.heap.size,1,none⟩ (.string fv)∧w7.heap[w3.heap.size]?=some (.cells #[.string fk,.string fv] 64)∧Kp [w3.heap.size] w6 w7:=⟨_,rfl,hts.1,hts.2⟩;rw[←hw7];clear hw7 hts z0 fz0;have hT7:=hT6.store' (by omega) hP6 (by decide) hK7;have hT27:=hT26.store' (by omega) hP6 (by decide) hK7;have hR7:=hK7.ho hR6;have hS7:w7.heap[w.heap.size]?=some (.cells #[.pointer (some ⟨E.V,0,none⟩),.string r.key,.int .i64 r.b,.int .u64 r.s,.pointer r.ptr] 83)∧w7.heap[w.heap.size+1]?=some (.cells #[.func (.func g) #[] cap] 227)∧w7.heap[X]?=some (.cells #[.string x.key,.int .i64 x.b,.int .u64 x.s,.pointer x.ptr] 81)∧w7.heap[q]?=some (υ lv (.slice none 0 0) (.slice (some ⟨gb,off,none⟩) hs.length cp)):=⟨hK7.ho hS6.1,hK7.ho hS6.2.1,hK7.ho hS6.2.2.1,hK7.heap hS6.2.2.2 (by intro hm;rw[List.mem_singleton.1 hm,hP6] at hS6;simp[υ] at hS6)⟩;refine hK.out _ _ hS7 (fun _=>?_);clear hK K
    try simp only[zZ]
    refine zq 15 fun K hK=>?_;go_simp;refine hK.out _ _ hS7 (fun _=>?_);clear hK K
    try simp only[zZ]
    refine zd ?_;have HT7:Hid (E.To w w7∧E.To w2 w7):=⟨hT7,hT27⟩;have HR7:Hid (w7.heap[w.heap.size]?=some (.cells #[.pointer (some ⟨E.V,0,none⟩),.string r.key,.int .i64 r.b,.int .u64 r.s,.pointer r.ptr] 83)∧w7.heap[w.heap.size+1]?=some (.cells #[.func (.func g) #[] cap] 227)∧w7.heap[w.heap.size+1+1]?=some (.cells #[.string ⟨#[]⟩,.string ⟨#[]⟩] 64)):=⟨hS7.1,hS7.2.1,hR7⟩;have hPs7:=ζ hP7;have hRs7:=ζ hR7;have y0:=ξ hP7;have z0:=ξ hR7;have fz0:=ψ hR7;clear hS7 hS6 hP6 hP7 hR7 hR6 hT7 hT27 hT6 hT26 hK7 hS0 hSd hRd hTd hT2d hRXd
    cases hfd:(cont n z.sub).find? (fun q=>f q.k) with
    | none=>
     have hfv:=HFV.out;rw[hfd] at hfv;simp only[qF3,Value.tuple.injEq,Array.mk.injEq,List.cons.injEq,Value.agg.injEq,Value.string.injEq,Value.bool.injEq,and_true] at hfv;obtain⟨⟨rfl,rfl⟩,rfl⟩:=hfv;have HFD:=zh hfd;clear hfd HFV;go_wp2;refine⟨⟨j+1,by omega,by go_num,?_,HT7.out.1,HT7.out.2,HR7.out.1,HR7.out.2.1,HR7.out.2.2⟩,by simp[intOf];omega⟩;show _=none;rw[HST.out,List.find?_append,hnone.out,HFD.out];rfl
    | some p=>
     have hfv:=HFV.out;rw[hfd] at hfv;simp only[qF3,Value.tuple.injEq,Array.mk.injEq,List.cons.injEq,Value.agg.injEq,Value.string.injEq,Value.bool.injEq,and_true] at hfv;obtain⟨⟨rfl,rfl⟩,rfl⟩:=hfv;have HFD:=zh hfd;clear hfd HFV;go_wp2;have hts:=qN2 (.string p.k) (.string p.v) HR7.out.2.2;have hT5:=HT7.out.1.store' (by omega) HR7.out.2.2 (by decide) hts.2;have t0:=ξ hts.1 0;have t1:=ξ hts.1 1;simp only[zG,zH,zI] at t0 t1;refine bodyPost_ret (v:=qF3 (some p)) ?_ rfl ⟨?_,hT5⟩
     ·simp[results,results178,go_sem,t0,t1,qF3]
     ·have hall:(ls.drop i).flatMap (fun l=>cont n l.sub)=((ls.drop i).take (j+1)).flatMap (fun l=>cont n l.sub)++((ls.drop i).drop (j+1)).flatMap (fun l=>cont n l.sub):=by rw[←List.flatMap_append,List.take_append_drop]
      rw[HSK.out,HI0.out,hall,HST.out,List.find?_append,List.find?_append,hnone.out,HFD.out];rfl
  ·have hjb:¬(j:Int)<(m:Int):=by omega
   have hRs:=ζ hRw;have z0:=ξ hRw;have fz0:=ψ hRw;have HRW:=zh hRw;clear hBw hFw hRw;go_wp2;have hts:=qN2 (.string ⟨#[]⟩) (.string ⟨#[]⟩) HRW.out;have hT3:=hTw.out.store' (by omega) HRW.out (by decide) hts.2;have t0:=ξ hts.1 0;have t1:=ξ hts.1 1;simp only[zG,zH,zI] at t0 t1;refine bodyPost_ret (v:=qF3 none) ?_ rfl ⟨?_,hT3⟩
   ·simp[results,results178,go_sem,t0,t1,qF3]
   ·have hx:=hnone.out;rw[List.take_of_length_le (by have:=HBL.out;simp;omega)] at hx;rw[HSK.out,HI0.out,hx]
theorem xU2(E:Env)(g:Nat)(cap:Array Value)(f:ByteArray→Bool)(hup:Up f)(hcf:∀ (args:Array Value) (W:World),Sem.run prog (callFunc g args) W=.ok (.enter g args) W):∀ (n:Nat) (r:HL) (l:Lnk (Tn n)) (q:Nat) (w:World),E.Dev w→RN E.O n w q l.sub→Good n l.key l.sub→1≤cnt n l.sub→Asks E w g cap f→
  Calls prog 178 #[τ E.V r,.pointer (some ⟨q,0,none⟩),.func (.func g) #[] cap] w fun e w'=>e=.returned (qF3 ((cont n l.sub).find? fun q=>f q.k))∧E.To w w':=by
 intro n
 induction n with
 | zero=>intro r l q w hd hr hg _ ha;exact xU1 E r l q g cap f w hd hr hg hup ha hcf
 | succ n ih=>intro r l q w hd hr hg hc ha;exact xU0 E n g cap f hup hcf (fun r l q w hd hr hg h1 ha=>ih r l q w hd hr hg h1 ha) r l q w hd hr hg hc ha
theorem jV2(E:Env)(r:Root)(h:HL)(g:Nat)(cap:Array Value)(f:ByteArray→Bool)(w:World)(hd:E.Dev w)(hR:RR E w h r)(hg:RGood r)(hup:Up f)(ha:Asks E w g cap f)
  (hcf:∀ (args:Array Value) (W:World),Sem.run prog (callFunc g args) W=.ok (.enter g args) W):
  Calls prog 142 #[τ E.V h,.func (.func g) #[] cap] w fun e w'=>e=.returned (qF3 (r.cont.find? fun q=>f q.k))∧E.To w w':=by
 have HD:=zh hd;have HRR:=zh hR;have HG:=zh hg;have HA:=zh ha;have HUP:=zh hup;clear hd hR hg ha hup;rw[τ];go_enter func142,ntmps142;go_wp2_with fail;obtain⟨w0,hw0,hB0,hR0,hK0,hs0⟩:∃ w0,w0=(w.alloc (.cells #[.pointer (some ⟨E.V,0,none⟩),.string h.key,.int .i64 h.b,.int .u64 h.s,.pointer h.ptr] 83)).alloc (.cells #[.string ⟨#[]⟩,.string ⟨#[]⟩] 64)∧w0.heap[w.heap.size]?=some (.cells #[.pointer (some ⟨E.V,0,none⟩),.string h.key,.int .i64 h.b,.int .u64 h.s,.pointer h.ptr] 83)∧w0.heap[w.heap.size+1]?=some (.cells #[.string ⟨#[]⟩,.string ⟨#[]⟩] 64)∧Kp [] w w0∧w0.heap.size=w.heap.size+2:=by
  refine⟨_,rfl,θ _ (μ _ _),?_,((Kp.refl _ _).alloc _).alloc _,by simp⟩;have e:=μ (w.alloc (.cells #[.pointer (some ⟨E.V,0,none⟩),.string h.key,.int .i64 h.b,.int .u64 h.s,.pointer h.ptr] 83)) (.cells #[.string ⟨#[]⟩,.string ⟨#[]⟩] 64);simpa using e
 rw[←hw0];clear hw0;have hT0:=Env.To.of0 HD.out hK0
 cases r with
 | none=>
  have hh:h=⟨⟨#[]⟩,0,0,none⟩:=HRR.out;have hem:Calls prog 85 #[τ E.V h] w0 fun e w'=>e=.returned (.bool true)∧Kp [] w0 w':=by rw[hh];exact qZ9 E.V w0
  have HEM:=zh hem;clear hh hem;refine (show Calls _ _ _ _ _ from HEM.out).mono ?_;rintro e w1 ⟨rfl,hK1⟩;have hT1:=hT0.tail hK1;have hR1:=hK1.hp hR0;have hRs:=ζ hR1;have z0:=ξ hR1;have fz0:=ψ hR1;have HR1:=zh hR1;clear hR1 hB0 hR0 hK0 hK1 hT0;go_wp2;have hts:=qN2 (.string ⟨#[]⟩) (.string ⟨#[]⟩) HR1.out;have hT3:=hT1.store' (by omega) HR1.out (by decide) hts.2;have t0:=ξ hts.1 0;have t1:=ξ hts.1 1;simp only[zG,zH,zI] at t0 t1;refine bodyPost_ret (v:=qF3 none) ?_ rfl ⟨rfl,hT3⟩;simp[results,results142,go_sem,t0,t1,qF3]
 | «at» n l=>
  have hRL:RL E.O n w h l:=HRR.out;obtain⟨g1,g2,g3⟩:=HG.out;refine (qW2 E n h l w0 (Env.RL hRL HD.out hT0) g1).mono ?_;rintro e w1 ⟨rfl,hK1⟩;have hT1:=hT0.tail hK1;have hB1:=hK1.hp hB0;have hR1:=hK1.hp hR0;have HRL1:Hid (RL E.O n w1 h l):=Env.RL hRL HD.out hT1;have HG2:=zh g2;have hc1:1≤cnt n l.sub:=by omega
  obtain⟨fk,fv,fb,hfv⟩:∃ fk fv fb,qF3 ((cont n l.sub).find? fun q=>f q.k)=.tuple #[.agg #[.string fk,.string fv],.bool fb]:=by
   cases (cont n l.sub).find? fun q=>f q.k with
   | none=>exact⟨_,_,_,rfl⟩
   | some p=>exact⟨_,_,_,rfl⟩
  have HFV:=zh hfv;clear hB0 hR0 hK0 hT0 hK1 hfv hRL g2;go_wp2_with fail;have hS0:w1.heap[w.heap.size]?=some (.cells #[.pointer (some ⟨E.V,0,none⟩),.string h.key,.int .i64 h.b,.int .u64 h.s,.pointer h.ptr] 83):=hB1;refine wp_region_held_drew (S:=fun W=>W.heap[w.heap.size]?=some (.cells #[.pointer (some ⟨E.V,0,none⟩),.string h.key,.int .i64 h.b,.int .u64 h.s,.pointer h.ptr] 83)) (by kernel_rfl) hS0 (fun _=>?_);refine zW 0 (.agg #[.pointer (some ⟨E.V,0,none⟩),.string h.key,.int .i64 h.b,.int .u64 h.s,.pointer h.ptr]) hS0 id ?_;refine zW 1 (.agg #[.pointer (some ⟨E.V,0,none⟩),.string h.key,.int .i64 h.b,.int .u64 h.s,.pointer h.ptr]) hS0 id ?_;refine zU 3 (.func (.func g) #[] cap) hS0 ?_;refine zq 2 fun K hK=>?_;go_simp;have hTd:E.To w w1.drew:=hT1.tail ((Kp.refl _ _).drew);refine (zD8 E n h l w1.drew hTd.dev (RL.keep HRL1.out ((Kp.refl [] _).drew) (Apt.nil _ _))).mono ?_;rintro e w2 ⟨q,rfl,hN2,hTn⟩;have hT2:=hTd.trans hTn;have hS2:=hTn.new (k:=w.heap.size) HD.out (by omega) hS0;have hR2:=hTn.new (k:=w.heap.size+1) HD.out (by omega) hR1;refine hK.out _ _ hS2 (fun _=>?_);clear hK K
  try simp only[zZ]
  clear hTn hTd hS0 hR1 hB1;refine zq 4 fun K hK=>?_;go_simp;refine (xU2 E g cap f HUP.out hcf n h l q w2 hT2.dev hN2 HG2.out hc1 (HA.out.to hT2)).mono ?_;rintro e w3 ⟨rfl,hTn⟩;rw[HFV.out];have hT3:=hT2.trans hTn;have hS3:=hTn.new (k:=w.heap.size) HD.out (by omega) hS2;have hR3:=hTn.new (k:=w.heap.size+1) HD.out (by omega) hR2;refine hK.out _ _ hS3 (fun _=>?_);clear hK K
  try simp only[zZ]
  clear hTn hS2 hR2;refine zU 5 (.agg #[.string fk,.string fv]) hS3 ?_;refine zU 6 (.bool fb) hS3 ?_;have hRs:=ζ hR3;have z0:=ξ hR3;have fz0:=ψ hR3;refine zq 7 fun K hK=>?_;go_simp;have hts:=qN2 (.string fk) (.string fv) hR3;obtain⟨w4,hw4,hR4,hK4⟩:∃ w4,w4=(w3.setCell ⟨w.heap.size+1,0,none⟩ (.string fk)).setCell ⟨w.heap.size+1,1,none⟩ (.string fv)∧w4.heap[w.heap.size+1]?=some (.cells #[.string fk,.string fv] 64)∧Kp [w.heap.size+1] w3 w4:=⟨_,rfl,hts.1,hts.2⟩;rw[←hw4];clear hw4 hts z0 fz0;have hT4:=hT3.store' (by omega) hR3 (by decide) hK4;have hS4:=hK4.hp hS3;refine hK.out _ _ hS4 (fun _=>?_);clear hK K
  try simp only[zZ]
  refine zq 8 fun K hK=>?_;go_simp;refine hK.out _ _ hS4 (fun _=>?_);clear hK K
  try simp only[zZ]
  refine zd ?_;have HT4:=zh hT4;clear hS4 hS3 hT4 hT3 hK4 hR3;go_wp2;have t0:=ξ hR4 0;have t1:=ξ hR4 1;simp only[zG,zH,zI] at t0 t1;refine bodyPost_ret (v:=.tuple #[.agg #[.string fk,.string fv],.bool fb]) ?_ rfl ⟨?_,HT4.out⟩
  ·simp[results,results142,go_sem,t0,t1]
  ·rw[show (Root.at n l).cont=cont n l.sub from rfl,HFV.out]
structure Tx where
 St:Nat
 nr:Int
 wrt:Bool
 over:Bool
 on:Option Addr
 h:HL
 ch:Int
def qA3(t:Tx):Obj:=
 .cells #[.pointer (some ⟨t.St,0,none⟩),.int .u64 t.nr,.bool t.wrt,.bool t.over,.pointer t.on,.string t.h.key,.int .i64 t.h.b,.int .u64 t.h.s,.pointer t.h.ptr,.int .u64 t.ch] 85
theorem zG0(args:Array Value)(W:World):Sem.run prog (callFunc 64 args) W=.ok (.enter 64 args) W:=by
 simp[go_sem,func64]
theorem zW3(k:Option Int)(S F x f:Nat)(t:Tx)(first cap:Array Value)(w:World)(R:World→Prop)(hS:w.heap[S]?=some (.cells #[.pointer (some ⟨x,0,none⟩)] 29))(hF:w.heap[F]?=some (.cells #[.func (.func f) first cap] 1))(hx:w.heap[x]?=some (qA3 t))(ho:t.over=false)
  (hcf:∀ W:World,Sem.run prog (callFunc f (first++cap)) W=.ok (.enter f (first++cap)) W)
  (hw:Calls prog f (first++cap) w fun e w'=>e=qC6 k∧R w'):
  Calls prog 64 #[.pointer (some ⟨S,0,none⟩),.pointer (some ⟨F,0,none⟩)] w fun e w'=>e=qC6 k∧R w':=by
 have s0:=ξ hS 0;have f0:=ξ hF 0;have p2:=ξ hx 3;simp[ho] at s0 f0 p2;clear hS hF hx;have HW:=zh hw;clear hw;go_enter func64,ntmps64;go_wp2_with fail;refine (show Calls _ _ _ _ _ from HW.out).mono ?_;rintro e w1 ⟨rfl,hR⟩
 cases k with
 | none=>
  simp only[qC6];go_wp2
  go_end0
  exact⟨rfl,hR⟩
 | some k=>
  simp only[qC6];go_wp2;exact⟨rfl,rfl,hR⟩
theorem xX2(S F x:Nat)(t:Tx)(w:World)(hS:w.heap[S]?=some (.cells #[.pointer (some ⟨x,0,none⟩)] 29))(hx:w.heap[x]?=some (qA3 t))(ho:t.over=true):
  Calls prog 64 #[.pointer (some ⟨S,0,none⟩),.pointer (some ⟨F,0,none⟩)] w fun e w'=>e=qC6 (some 5)∧w'=w:=by
 have s0:=ξ hS 0;have p2:=ξ hx 3;simp[ho] at s0 p2;clear hS hx;go_enter func64,ntmps64;go_wp2;exact⟨rfl,rfl,rfl,rfl⟩
theorem zW4(k:Option Int)(hk8:k≠some 8)(x St f:Nat)(t:Tx)(s s':Sto)(first cap:Array Value)(call:ByteArray)(X:List Nat)(Q:World→World→Prop)(w:World)(hx:w.heap[x]?=some (qA3 t))(htS:t.St=St)(hSt:w.heap[St]?=some (ν 0 s))(hpo:s.po=false)(hX:∀ i,i∈X→i<w.heap.size)
  (hw:∀ W:World,Kp [St] w W→W.heap[St]?=some (ν 1 s)→W.heap[w.heap.size]?=some (.cells #[.pointer (some ⟨x,0,none⟩)] 29)→W.heap[w.heap.size+1]?=some (.cells #[.func (.func f) first cap] 1)→Calls prog 64 #[.pointer (some ⟨w.heap.size,0,none⟩),.pointer (some ⟨w.heap.size+1,0,none⟩)] W fun e w1=>e=qC6 k∧Q W w1∧Kp (St::X) W w1∧w1.heap[St]?=some (ν 1 s')):
  Calls prog 38 #[.pointer (some ⟨x,0,none⟩),.string call,.func (.func f) first cap] w fun e w'=>∃ v,e=.returned v∧qI6 w' v k∧w'.heap[St]?=some (ν 0 s')∧Kp (St::X) w w'∧∃ W w1 B,Q W w1∧Kp [St] w W∧w.heap.size≤B∧B<W.heap.size∧w1.heap[B]?=some (.cells #[.nilIface] 35)∧Kp [St,B] w1 w':=by
 have hmf:=zM;have HW:=zh hw;have HX:=zh hX;have HK8:=zh hk8;have HPO:=zh hpo;clear hw hX hk8 hpo;have hSs:=ζ hSt;have hxs:=ζ hx;subst htS;have d0:=ξ (θ (.cells #[.func (Fn.func f) first cap] 1) (θ (.cells #[.pointer (some ⟨x,0,none⟩)] 29) hx)) 0;simp only[zG,zH] at d0;go_enter func38,ntmps38;go_wp2_with fail;obtain⟨W0,hW0,hK0,hs0,hB0,hF0⟩:∃ W0,W0=(w.alloc (.cells #[.pointer (some ⟨x,0,none⟩)] 29)).alloc (.cells #[.func (Fn.func f) first cap] 1)∧Kp [] w W0∧W0.heap.size=w.heap.size+2∧W0.heap[w.heap.size]?=some (.cells #[.pointer (some ⟨x,0,none⟩)] 29)∧W0.heap[w.heap.size+1]?=some (.cells #[.func (Fn.func f) first cap] 1):=by
  refine⟨_,rfl,((Kp.refl _ _).alloc _).alloc _,by simp,θ _ (μ _ _),?_⟩;have e:=μ (w.alloc (.cells #[.pointer (some ⟨x,0,none⟩)] 29)) (.cells #[.func (Fn.func f) first cap] 1);simpa using e
 rw[←hW0];clear hW0;have hSt0:=hK0.hp hSt;refine (zO9 k HK8.out t.St 64 s s' #[] #[.pointer (some ⟨w.heap.size,0,none⟩),.pointer (some ⟨w.heap.size+1,0,none⟩)] _ X Q W0 hSt0 HPO.out (zG0 _) (fun i hi=>by have:=HX.out i hi;omega) ?_).mono ?_
 ·intro W hK hS;exact HW.out W ((hK0.mono (S':=[t.St]) (by simp)).trans hK (fun _ h _=>h)) hS (hK.ho hB0) (hK.ho hF0)
 rintro e w2 ⟨v,rfl,hv,hSt2,hK2,W,w1,B,hQ,hKW,hB1,hB2,hB3,hKB⟩;have HV:=zh hv;have HR:Hid (Q W w1∧Kp [t.St,B] w1 w2):=⟨hQ,hKB⟩;clear hv hQ hKB;go_wp2;go_ret;exact⟨v,rfl,HV.out,hSt2,(hK0.mono (S':=t.St::X) (by simp)).trans hK2 (fun _ h _=>h),W,w1,B,HR.out.1,(hK0.mono (S':=[t.St]) (by simp)).trans hKW (fun _ h _=>h),by omega,hB2,hB3,HR.out.2⟩
theorem zA6(k:Option Int)(hk8:k≠some 8)(x St f:Nat)(t:Tx)(s s':Sto)(first cap:Array Value)(call:ByteArray)(X:List Nat)(Q:World→World→Prop)(w:World)(hx:w.heap[x]?=some (qA3 t))(ho:t.over=false)(htS:t.St=St)(hSt:w.heap[St]?=some (ν 0 s))(hpo:s.po=false)(hne:x≠St)
  (hcf:∀ W:World,Sem.run prog (callFunc f (first++cap)) W=.ok (.enter f (first++cap)) W) (hX:∀ i,i∈X→i<w.heap.size)
  (hw:∀ W:World,Kp [St] w W→W.heap[St]?=some (ν 1 s)→Calls prog f (first++cap) W fun e w1=>e=qC6 k∧Q W w1∧Kp (St::X) W w1∧w1.heap[St]?=some (ν 1 s')):
  Calls prog 38 #[.pointer (some ⟨x,0,none⟩),.string call,.func (.func f) first cap] w fun e w'=>∃ v,e=.returned v∧qI6 w' v k∧w'.heap[St]?=some (ν 0 s')∧Kp (St::X) w w'∧∃ W w1 B,Q W w1∧Kp [St] w W∧w.heap.size≤B∧B<W.heap.size∧w1.heap[B]?=some (.cells #[.nilIface] 35)∧Kp [St,B] w1 w':=
 zW4 k hk8 x St f t s s' first cap call X Q w hx htS hSt hpo hX fun W hK hS hB hF=>
  zW3 k _ _ x f t first cap W (fun w1=>Q W w1∧Kp (St::X) W w1∧w1.heap[St]?=some (ν 1 s')) hB hF (hK.heap hx (by simp;exact hne)) ho hcf (hw W hK hS)
theorem xX6(x St f:Nat)(t:Tx)(s:Sto)(first cap:Array Value)(call:ByteArray)(w:World)(hx:w.heap[x]?=some (qA3 t))(ho:t.over=true)(htS:t.St=St)(hSt:w.heap[St]?=some (ν 0 s))(hpo:s.po=false)(hne:x≠St):
  Calls prog 38 #[.pointer (some ⟨x,0,none⟩),.string call,.func (.func f) first cap] w fun e w'=>∃ v,e=.returned v∧qI6 w' v (some 5)∧w'.heap[St]?=some (ν 0 s)∧Kp [St] w w':=
 (zW4 (some 5) (by decide) x St f t s s first cap call [] (fun _ _=>True) w hx htS hSt hpo (by simp) fun W hK hS hB hF=>
  (xX2 _ _ x t W hB (hK.heap hx (by simp;exact hne)) ho).mono fun e w1 h=>⟨h.1,trivial,by rw[h.2];exact Kp.refl _ _,by rw[h.2];exact hS⟩).mono fun e w' ⟨v,h1,h2,h3,h4,_⟩=>⟨v,h1,h2,h3,h4⟩
end Go.Proofs.YtdohpenfkdckiabGreatDoor
namespace Go.Proofs.YtdohpenfkdckiabGreatDoor
open Go.Proofs.Tryz
open Go.RowKit
open Go.Maps (Keyed)
open Go.ChangeMaps
theorem zR1(V:Nat)(b s:Int)(w:World):
  Calls prog 74 #[.pointer (some ⟨V,0,none⟩),.agg #[.int .i64 b,.int .u64 s]] w fun e w'=>e=.returned (τ V ⟨⟨#[]⟩,b,s,none⟩)∧Kp [] w w':=by
 go_enter func74,ntmps74;go_wp2;refine bodyPost_ret (results_cell_row results74 _ _ (w.heap.size+1) 83 #[.pointer (some ⟨V,0,none⟩),.string ⟨#[]⟩,.int .i64 b,.int .u64 s,.pointer none] (0,0) _ rfl ?_ underlying83 rfl (by kernel_rfl)) rfl ⟨rfl,((Kp.refl _ _).alloc _).alloc _⟩;have e:=μ (w.alloc (.cells #[.int .i64 b,.int .u64 s] 78)) (.cells #[.pointer (some ⟨V,0,none⟩),.string ⟨#[]⟩,.int .i64 b,.int .u64 s,.pointer none] 83);simpa using e
theorem zB9(St:Nat)(lk:Int)(s:Sto)(w:World)(hSt:w.heap[St]?=some (ν lk s)):
  Calls prog 46 #[.pointer (some ⟨St,0,none⟩)] w fun e w'=>e=.returned (τ s.V ⟨⟨#[]⟩,s.rb,s.rs,none⟩)∧Kp [] w w':=by
 have hSs:=ζ hSt;have HS:=zh hSt;clear hSt;go_enter func46,ntmps46;go_wp2_with fail;obtain⟨w0,hw0,hR0,hK0⟩:∃ w0,w0=w.alloc (.cells #[.pointer none,.string ⟨#[]⟩,.int .i64 0,.int .u64 0,.pointer none] 83)∧w0.heap[w.heap.size]?=some (.cells #[.pointer none,.string ⟨#[]⟩,.int .i64 0,.int .u64 0,.pointer none] 83)∧Kp [] w w0:=⟨_,rfl,μ _ _,(Kp.refl _ _).alloc _⟩;rw[←hw0];clear hw0;have hS0:=hK0.hp HS.out;refine wp_region_held_drew (S:=fun W=>W.heap[St]?=some (ν lk s)) (by kernel_rfl) hS0 (fun _=>?_);refine zP 0 St 0 hS0 ?_;refine zP 1 St 0 hS0 ?_;refine zP 2 St 2 hS0 ?_;refine zV 3 (.pointer (some ⟨s.V,0,none⟩)) rfl (fun W hS=>by have c:=ξ hS 2;simp only[ν,zG,zH,zI] at c;clear hS;go_simp) hS0 ?_;refine zP 4 St 0 hS0 ?_;refine zP 5 St 0 hS0 ?_;refine zP 6 St 3 hS0 ?_;refine zP 7 St 4 hS0 ?_;refine zV 8 (.agg #[.int .i64 s.rb,.int .u64 s.rs]) rfl (fun W hS=>by have c:=ξ hS 4;have d:=ξ hS 5;simp only[ν,zG,zH,zI] at c d;clear hS;go_simp) hS0 ?_;refine zq 9 fun K hK=>?_;go_simp;refine (zR1 s.V s.rb s.rs w0.drew).mono ?_;rintro e w1 ⟨rfl,hK1⟩;have hK1':Kp [] w0 w1:=((Kp.refl _ w0).drew).tr hK1;have hS1:=hK1'.hp hS0;have hR1:=hK1'.hp hR0;have hRs:=ζ hR1;refine hK.out _ _ hS1 (fun _=>?_);clear hK K hK1
 try simp only[zZ]
 have r0:=ξ hR1;have fr0:=ψ hR1;refine zq 10 fun K hK=>?_;rw[τ];go_simp;have hts:=qM3 (.pointer (some ⟨s.V,0,none⟩)) (.string ⟨#[]⟩) (.int .i64 s.rb) (.int .u64 s.rs) (.pointer none) hR1;obtain⟨w2,hw2,hR2,hK2⟩:∃ w2,w2=((((w1.setCell ⟨w.heap.size,0,none⟩ (.pointer (some ⟨s.V,0,none⟩))).setCell ⟨w.heap.size,1,none⟩ (.string ⟨#[]⟩)).setCell ⟨w.heap.size,2,none⟩ (.int .i64 s.rb)).setCell ⟨w.heap.size,3,none⟩ (.int .u64 s.rs)).setCell ⟨w.heap.size,4,none⟩ (.pointer none)∧w2.heap[w.heap.size]?=some (.cells #[.pointer (some ⟨s.V,0,none⟩),.string ⟨#[]⟩,.int .i64 s.rb,.int .u64 s.rs,.pointer none] 83)∧Kp [w.heap.size] w1 w2:=⟨_,rfl,hts.1,hts.2⟩;have hptr:HL.ptr ⟨⟨#[]⟩,s.rb,s.rs,none⟩=none:=rfl
 try simp only[hptr]
 rw[←hw2];clear hw2 hts r0 fr0;have hS2:=hK2.ho hS1;refine hK.out _ _ hS2 (fun _=>?_);clear hK K;refine zd ?_;have HK2:Hid (Kp [] w w2):=(hK0.tr hK1').trans hK2 (by intro i hi hlt;simp at hi;omega);clear hS2 hS1 hS0 hR1 hK2 hK1' hK0 hR0;go_wp2;exact bodyPost_ret (results_cell_row results46 _ _ (w.heap.size) 83 #[.pointer (some ⟨s.V,0,none⟩),.string ⟨#[]⟩,.int .i64 s.rb,.int .u64 s.rs,.pointer none] (0,0) _ rfl hR2 underlying83 rfl (by kernel_rfl)) rfl ⟨rfl,HK2.out⟩
def qT4(V:Nat):Value→Option (DataW Unit × List MemPlace)
 | .agg c=>match c.toList with
  | [.pointer (some a),.string k,.int .i64 x,.int .u64 y,.pointer none]=>if a.block=V∧a.off=0∧a.spot=none then some (.agg [.lit (.string k.data.toList),.lit (.int .i64 x),.lit (.int .u64 y)],[]) else none
  | _=>none
 | _=>none
def RM(w:World)(V M n:Nat)(D:DataW Unit):Prop:=w.ownsMap prog 75 (qT4 V) M n D
theorem qO0:Keyed prog 75:=Maps.int_keyed underlying75
theorem RM.kp{S:List Nat}{w w':World}{V M n:Nat}{D:DataW Unit}(h:RM w V M n D)(hK:Kp S w w')(hM:M ∉ S):RM w' V M n D:=by
 obtain⟨es,cl,hb,hf⟩:=h;exact⟨es,cl,hK.heap hb hM,hf⟩
theorem Kp.turned{w w':World}{M:Nat}(h:w.mapTurned w' M):Kp [M] w w':=
 (Kp.refl [M] w).grown h.grown (fun k hk=>by cases hk;exact .inl (by simp))
theorem qX1:prog.underlying 124=some (.map 75 83):=underlying124
def ι(n:Int):Lit:=.int .u64 n
theorem zY3{n:Int}(h0:0≤n)(h1:n≤1000000000):keyOf prog 75 (.int .u64 n)=some (ι n):=
 Maps.keyOf_int_mk underlying75 (by simp[Lit.wf,IntKind.min,IntKind.max,IntKind.signed,IntKind.bits];omega)
theorem RM.len{w:World}{V M n:Nat}{D:DataW Unit}(h:RM w V M n D)(ty:TypeId):(Builtin.len_ #[124] ty #[.map (some M)]).run prog w=.ok (.int .i64 (Maps.size D)) w:=
 World.ownsMap.len h qX1 ty
theorem RM.drop{w:World}{V M n:Nat}{D:DataW Unit}(h:RM w V M n D){x:Int}(h0:0≤x)(h1:x≤1000000000)(ty:TypeId):
  ∃ w',(Builtin.delete_ #[124,75] ty #[.map (some M),.int .u64 x]).run prog w=.ok (.tuple #[]) w'∧RM w' V M n (D.del (ι x))∧Kp [M] w w':=by
 obtain⟨w',h1,h2,h3⟩:=World.ownsMap.drop h qO0 qX1 (zY3 h0 h1) ty;exact⟨w',h1,h2,Kp.turned h3⟩
def qE4(h:HL):DataW Unit:=.agg [.lit (.string h.key.data.toList),.lit (.int .i64 h.b),.lit (.int .u64 h.s)]
theorem RM.store{w:World}{V M n:Nat}{D:DataW Unit}(h:RM w V M n D){x:Int}(h0:0≤x)(h1:x≤1000000000)(hn:n≤1000000000)(r:HL)(hr:r.p=none):
  ∃ w',(Instr.mapUpdate 124 (.map (some M)) (.int .u64 x) (τ V r)).run prog w=.ok () w'∧RM w' V M (n+1) (D.put (ι x) (qE4 r))∧Kp [M] w w':=by
 have hv:qT4 V (τ V r)=some (qE4 r,[]):=by
  have hp:r.ptr=none:=by simp[HL.ptr,hr]
  rw[τ,hp];simp[qT4,qE4]
 obtain⟨w',h1,h2,h3⟩:=World.ownsMap.store h qO0 qX1 (by simp[maxLen];omega) (zY3 h0 h1) hv;exact⟨w',h1,h2,Kp.turned h3⟩
end Go.Proofs.YtdohpenfkdckiabGreatDoor
namespace Go.Proofs.YtdohpenfkdckiabGreatDoor
open Go.Proofs.Tryz
open Go.RowKit
def Sto.wrote(s:Sto):Sto:={ s with bg:=s.bg+1,wr:=s.bg+1 }
def Sto.read(s:Sto):Sto:={ s with bg:=s.bg+1 }
def Sto.left(s:Sto)(nr:Int):Sto:={ s with wr:=if nr=s.wr then 0 else s.wr }
theorem xS6(St:Nat)(s:Sto)(w:World)(hSt:w.heap[St]?=some (ν 1 s))(hwr:s.wr=0)(h0:0≤s.bg)(h1:s.bg≤100000000):
  Calls prog 47 #[.pointer (some ⟨St,0,none⟩),.bool true] w fun e w'=>e=.returned (.int .u64 (s.bg+1))∧w'.heap[St]?=some (ν 1 s.wrote)∧Kp [St] w w':=by
 have hSs:=ζ hSt;have p8:=ξ hSt 8;have p9:=ξ hSt 9;simp only[ν,zG,zH,zI] at p8 p9;have f8:=ψ hSt;rw[hwr] at p9;have HS:=zh hSt;clear hSt;go_enter func47,ntmps47;go_wp2;go_ret;exact⟨rfl,φ (φ HS.out 8 _) 9 _,((Kp.refl _ _).sc _).sc _⟩
theorem xS5(St n:Nat)(s:Sto)(D:DataW Unit)(w:World)(hSt:w.heap[St]?=some (ν 1 s))(hM:RM w s.V s.M n D)(h4:Maps.size D<4)(hn:n≤100000000)(h0:0≤s.bg)(h1:s.bg≤100000000)(hne:s.M≠St):
  Calls prog 47 #[.pointer (some ⟨St,0,none⟩),.bool false] w fun e w'=>e=.returned (.int .u64 (s.bg+1))∧w'.heap[St]?=some (ν 1 s.read)∧RM w' s.V s.M (n+1) (D.put (ι (s.bg+1)) (qE4 ⟨⟨#[]⟩,s.rb,s.rs,none⟩))∧Kp [St,s.M] w w':=by
 have hSs:=ζ hSt;have p8:=ξ hSt 8;have p10:=ξ hSt 10;simp only[ν,zG,zH,zI] at p8 p10;have f8:=ψ hSt 8;have hl:=hM.len 3;have h4':¬((Maps.size D:Nat):Int)=4:=by omega
 have HM:=zh hM;have HN:=zh hne;have HS:=zh hSt;clear hSt hM h4 hne;go_enter func47,ntmps47;go_wp2_with fail;obtain⟨w0,hw0,hS0,hK0⟩:∃ w0,w0=w.setCell ⟨St,8,none⟩ (.int .u64 (s.bg+1))∧w0.heap[St]?=some (ν 1 s.read)∧Kp [St] w w0:=⟨_,rfl,φ HS.out 8 _,(Kp.refl _ _).sc _⟩;rw[←hw0];clear hw0;have hM0:=HM.out.kp hK0 (by simp;exact HN.out);have hMs:=hM0;refine wp_region_held_drew (S:=fun W=>W.heap[St]?=some (ν 1 s.read)) (by kernel_rfl) hS0 (fun _=>?_);refine zP 0 St 0 hS0 ?_;refine zP 1 St 0 hS0 ?_;refine zP 2 St 10 hS0 ?_;refine zV 3 (.map (some s.M)) rfl (fun W hS=>by have c:=ξ hS 10;simp only[ν,Sto.read,zG,zH,zI] at c;clear hS;go_simp) hS0 ?_;refine zP 4 St 0 hS0 ?_;refine zP 5 St 0 hS0 ?_;refine zP 6 St 8 hS0 ?_;refine zV 7 (.int .u64 (s.bg+1)) rfl (fun W hS=>by have c:=ξ hS 8;simp only[ν,Sto.read,zG,zH,zI] at c;clear hS;go_simp) hS0 ?_;refine zP 8 St 0 hS0 ?_;refine zq 9 fun K hK=>?_;go_simp;refine (zB9 St 1 s.read w0.drew hS0).mono ?_;rintro e w1 ⟨rfl,hK1⟩;have hK1':Kp [] w0 w1:=((Kp.refl _ w0).drew).tr hK1;have hS1:=hK1'.hp hS0;have hM1:=hM0.kp hK1' (by simp);refine hK.out _ _ hS1 (fun _=>?_);clear hK K hK1
 try simp only[zZ]
 obtain⟨w2,hr2,hM2,hK2⟩:=hM1.store (x:=s.bg+1) (by omega) (by omega) (by omega) ⟨⟨#[]⟩,s.rb,s.rs,none⟩ rfl;have hS2:=hK2.heap hS1 (by simp;exact fun h=>HN.out h.symm);refine zq 10 fun K hK=>?_;have hVe:τ s.read.V ⟨⟨#[]⟩,s.read.rb,s.read.rs,none⟩=τ s.V ⟨⟨#[]⟩,s.rb,s.rs,none⟩:=rfl;rw[hVe];rw[τ] at hr2 ⊢;go_simp;refine hK.out _ _ hS2 (fun _=>?_);clear hK K;refine zd ?_;have HR:Hid (RM w2 s.V s.M (n+1) (D.put (ι (s.bg+1)) (qE4 ⟨⟨#[]⟩,s.rb,s.rs,none⟩))∧Kp [St,s.M] w w2):=⟨hM2,((hK0.mono (S':=[St,s.M]) (by simp +contextual)).tr hK1').trans hK2 (by simp +contextual)⟩;have HS2:=zh hS2;have hS2s:=ζ hS2;have q8:=ξ hS2 8;simp only[ν,Sto.read,zG,zH,zI] at q8;clear hS2 hS1 hS0 hM2 hM1 hM0 hMs hK2 hK1' hK0 hr2;go_wp2;go_ret;exact⟨rfl,HS2.out,HR.out.1,HR.out.2⟩
theorem jG3(St n:Nat)(s:Sto)(nr:Int)(D:DataW Unit)(w:World)(hSt:w.heap[St]?=some (ν 1 s))(hM:RM w s.V s.M n D)(h0:0≤nr)(h1:nr≤1000000000)(hne:s.M≠St):
  Calls prog 65 #[.pointer (some ⟨St,0,none⟩),.int .u64 nr] w fun e w'=>e=.returned (.tuple #[])∧w'.heap[St]?=some (ν 1 (s.left nr))∧RM w' s.V s.M n (D.del (ι nr))∧Kp [St,s.M] w w':=by
 have hSs:=ζ hSt;by_cases hw:nr=s.wr
 ·obtain⟨w0,hw0,hS0,hK0⟩:∃ w0,w0=w.setCell ⟨St,9,none⟩ (.int .u64 0)∧w0.heap[St]?=some (ν 1 (s.left nr))∧Kp [St] w w0:=⟨_,rfl,by rw[Sto.left,if_pos hw];exact φ hSt 9 _,(Kp.refl _ _).sc _⟩;have hM0:=hM.kp hK0 (by simp;exact hne);obtain⟨w1,hr1,hM1,hK1⟩:=hM0.drop h0 h1 0;have HE:Hid (w1.heap[St]?=some (ν 1 (s.left nr))∧RM w1 s.V s.M n (D.del (ι nr))∧Kp [St,s.M] w w1):=⟨hK1.heap hS0 (by simp;exact fun h=>hne h.symm),hM1,(hK0.mono (by simp +contextual)).trans hK1 (by simp +contextual)⟩;have p9:=ξ hSt 9;have p10:=ξ hSt 10;simp only[ν,zG,zH,zI] at p9 p10;have q10:=ξ hS0 10;simp only[ν,Sto.left,zG,zH,zI] at q10;have f9:=ψ hSt 9;rw[hw0] at q10 hr1;rw[←hw] at p9;clear hSt hM hS0 hM0 hM1 hK0 hK1 hne hw0 hw;go_enter func65,ntmps65;go_wp2
  go_end0
  exact⟨rfl,HE.out⟩
 ·obtain⟨w1,hr1,hM1,hK1⟩:=hM.drop h0 h1 0;have HE:Hid (w1.heap[St]?=some (ν 1 (s.left nr))∧RM w1 s.V s.M n (D.del (ι nr))∧Kp [St,s.M] w w1):=⟨by rw[Sto.left,if_neg hw];exact hK1.heap hSt (by simp;exact fun h=>hne h.symm),hM1,hK1.mono (by simp +contextual)⟩;have p9:=ξ hSt 9;have p10:=ξ hSt 10;simp only[ν,zG,zH,zI] at p9 p10;have hwb:(nr == s.wr)=false:=by simp[hw]
  clear hSt hM hM1 hK1 hne;go_enter func65,ntmps65;go_wp2
  go_end0
  exact⟨rfl,HE.out⟩
theorem xL7(X B T Db St:Nat)(wrt:Bool)(s s':Sto)(nr:Int)(L:List Nat)(R:World→Prop)(w:World)(hX:w.heap[X]?=some (.cells #[.pointer (some ⟨Db,0,none⟩)] 24))(hB:w.heap[B]?=some (.cells #[.bool wrt] 4))(hT:w.heap[T]?=some (.cells #[.pointer none] 29))
  (hD:w.heap[Db]?=some (.cells #[.pointer (some ⟨St,0,none⟩)] 95)) (hSt:w.heap[St]?=some (ν 1 s))
  (hL:X ∉ St::L∧B ∉ St::L∧Db ∉ St::L∧T ∉ St::L) (hne:T≠X∧T≠B∧T≠Db∧T≠St)
  (hE:∀ W:World,Kp [] w W→Calls prog 47 #[.pointer (some ⟨St,0,none⟩),.bool wrt] W fun e w'=>e=.returned (.int .u64 nr)∧w'.heap[St]?=some (ν 1 s')∧R w'∧Kp (St::L) W w')
  (hR:∀ a b:World,R a→Kp [T] a b→R b):
  Calls prog 45 #[.pointer (some ⟨X,0,none⟩),.pointer (some ⟨B,0,none⟩),.pointer (some ⟨T,0,none⟩)] w fun e w'=>e=qC6 none∧(∃ x,w.heap.size≤x∧w'.heap[x]?=some (qA3 ⟨St,nr,wrt,false,some ⟨s.V,0,none⟩,⟨⟨#[]⟩,s.rb,s.rs,none⟩,0⟩)∧w'.heap[T]?=some (.cells #[.pointer (some ⟨x,0,none⟩)] 29))∧R w'∧Kp (St::T::L) w w'∧w'.heap[St]?=some (ν 1 s'):=by
 have HN:=zh hne;have HL:=zh hL;have HE:=zh hE;have HR:=zh hR;clear hne hL hE hR;have hTs:=ζ hT;go_enter func45,ntmps45;go_wp2_with fail;have hS0:w.heap[X]?=some (.cells #[.pointer (some ⟨Db,0,none⟩)] 24)∧w.heap[B]?=some (.cells #[.bool wrt] 4)∧w.heap[Db]?=some (.cells #[.pointer (some ⟨St,0,none⟩)] 95):=⟨hX,hB,hD⟩;refine wp_region_held_drew (S:=fun W=>W.heap[X]?=some (.cells #[.pointer (some ⟨Db,0,none⟩)] 24)∧W.heap[B]?=some (.cells #[.bool wrt] 4)∧W.heap[Db]?=some (.cells #[.pointer (some ⟨St,0,none⟩)] 95)) (by kernel_rfl) hS0 (fun _=>?_);refine zV 0 (.pointer (some ⟨Db,0,none⟩)) rfl (fun W hS=>by have c:=ξ hS.1 0;simp at c;clear hS;go_simp) hS0 ?_;refine zP 1 Db 0 hS0 ?_;refine zP 2 Db 0 hS0 ?_;refine zV 3 (.pointer (some ⟨St,0,none⟩)) rfl (fun W hS=>by have c:=ξ hS.2.2 0;simp at c;clear hS;go_simp) hS0 ?_;refine zV 4 (.bool wrt) rfl (fun W hS=>by have c:=ξ hS.2.1 0;simp at c;clear hS;go_simp) hS0 ?_;refine zV 5 (.pointer (some ⟨Db,0,none⟩)) rfl (fun W hS=>by have c:=ξ hS.1 0;simp at c;clear hS;go_simp) hS0 ?_;refine zP 6 Db 0 hS0 ?_;refine zP 7 Db 0 hS0 ?_;refine zV 8 (.pointer (some ⟨St,0,none⟩)) rfl (fun W hS=>by have c:=ξ hS.2.2 0;simp at c;clear hS;go_simp) hS0 ?_;refine zV 10 (.pointer (some ⟨Db,0,none⟩)) rfl (fun W hS=>by have c:=ξ hS.1 0;simp at c;clear hS;go_simp) hS0 ?_;refine zP 11 Db 0 hS0 ?_;refine zP 12 Db 0 hS0 ?_;refine zV 13 (.pointer (some ⟨St,0,none⟩)) rfl (fun W hS=>by have c:=ξ hS.2.2 0;simp at c;clear hS;go_simp) hS0 ?_;refine zV 14 (.bool wrt) rfl (fun W hS=>by have c:=ξ hS.2.1 0;simp at c;clear hS;go_simp) hS0 ?_;refine zq 9 fun K hK=>?_;go_simp;refine (zB9 St 1 s w.drew hSt).mono ?_;rintro e w1 ⟨rfl,hK1⟩;have hK1':Kp [] w w1:=((Kp.refl _ w).drew).tr hK1;have hS1:=And.intro (hK1'.hp hX) (And.intro (hK1'.hp hB) (hK1'.hp hD));have hSt1:=hK1'.hp hSt;have hT1:=hK1'.hp hT;refine hK.out _ _ hS1 (fun _=>?_);clear hK K hK1
 try simp only[zZ]
 refine zq 15 fun K hK=>?_;go_simp;refine (HE.out w1 hK1').mono ?_;rintro e w2 ⟨rfl,hSt2,hR2,hK2⟩;have hS2:=And.intro (hK2.heap hS1.1 HL.out.1) (And.intro (hK2.heap hS1.2.1 HL.out.2.1) (hK2.heap hS1.2.2 HL.out.2.2.1));have hT2:=hK2.heap hT1 HL.out.2.2.2;refine hK.out _ _ hS2 (fun _=>?_);clear hK K hS1 hT1 hSt1 hS0
 try simp only[zZ]
 refine zV 16 (.agg #[.pointer (some ⟨St,0,none⟩),.int .u64 nr,.bool wrt,.bool false,.pointer (some ⟨s.V,0,none⟩),.string ⟨#[]⟩,.int .i64 s.rb,.int .u64 s.rs,.pointer none,.int .u64 0]) rfl (fun W hS=>by clear hS;rw[τ];go_simp;rfl) hS2 ?_;refine zq 17 fun K hK=>?_;go_simp;obtain⟨w3,hw3,hx3,hK3,hs3⟩:∃ w3,w3=w2.alloc (.cells #[.pointer (some ⟨St,0,none⟩),.int .u64 nr,.bool wrt,.bool false,.pointer (some ⟨s.V,0,none⟩),.string ⟨#[]⟩,.int .i64 s.rb,.int .u64 s.rs,.pointer none,.int .u64 0] 85)∧w3.heap[w2.heap.size]?=some (qA3 ⟨St,nr,wrt,false,some ⟨s.V,0,none⟩,⟨⟨#[]⟩,s.rb,s.rs,none⟩,0⟩)∧Kp [] w2 w3∧w3.heap.size=w2.heap.size+1:=
  ⟨_,rfl,μ _ _,(Kp.refl _ _).alloc _,by simp⟩
 rw[←hw3];clear hw3;have hS3:=And.intro (hK3.hp hS2.1) (And.intro (hK3.hp hS2.2.1) (hK3.hp hS2.2.2));have hT3:=hK3.hp hT2;refine hK.out _ _ hS3 (fun _=>?_);clear hK K hS2 hT2
 try simp only[zZ]
 refine zq 18 fun K hK=>?_;have t0:=ξ hT3 0;simp only[zG,zH,zI] at t0;have f0:=ψ hT3 0;have hTs3:=ζ hT3;go_simp;obtain⟨w4,hw4,hT4,hK4⟩:∃ w4,w4=w3.setCell ⟨T,0,none⟩ (.pointer (some ⟨w2.heap.size,0,none⟩))∧w4.heap[T]?=some (.cells #[.pointer (some ⟨w2.heap.size,0,none⟩)] 29)∧Kp [T] w3 w4:=⟨_,rfl,φ hT3 0 _,(Kp.refl _ _).sc _⟩;rw[←hw4];clear hw4;have hS4:=And.intro (hK4.heap hS3.1 (by simp;exact fun h=>HN.out.1 h.symm)) (And.intro (hK4.heap hS3.2.1 (by simp;exact fun h=>HN.out.2.1 h.symm)) (hK4.heap hS3.2.2 (by simp;exact fun h=>HN.out.2.2.1 h.symm)));refine hK.out _ _ hS4 (fun _=>?_);clear hK K;refine zd ?_;have hs2:=hK2.size;have hs1:=hK1'.size;have HF:Hid ((∃ x,w.heap.size≤x∧w4.heap[x]?=some (qA3 ⟨St,nr,wrt,false,some ⟨s.V,0,none⟩,⟨⟨#[]⟩,s.rb,s.rs,none⟩,0⟩)∧w4.heap[T]?=some (.cells #[.pointer (some ⟨x,0,none⟩)] 29))∧R w4∧Kp (St::T::L) w w4∧w4.heap[St]?=some (ν 1 s')):=
  ⟨⟨w2.heap.size,by omega,hK4.ho hx3,hT4⟩,HR.out _ _ (HR.out _ _ hR2 (hK3.mono (by simp))) hK4,
   (((hK1'.mono (S':=St::T::L) (by simp)).trans hK2 (by intro i hi _;simp at hi ⊢;rcases hi with h | h<;>simp[h])).tr hK3).trans hK4 (by intro i hi _;simp at hi;simp[hi]),
   hK4.heap (hK3.hp hSt2) (by simp;exact fun h=>HN.out.2.2.2 h.symm)⟩
 clear hS4 hS3 hT4 hT3 hx3 hK4 hK3 hK2 hK1' hR2 hSt2 t0 f0;go_wp2
 go_end0
 exact⟨rfl,HF.out⟩
theorem xO6(args:Array Value)(W:World):Sem.run prog (callFunc 45 args) W=.ok (.enter 45 args) W:=by
 simp[go_sem,func45]
theorem zR4(Db St:Nat)(wrt:Bool)(s s':Sto)(nr:Int)(L:List Nat)(R:World→Prop)(w:World)(hD:w.heap[Db]?=some (.cells #[.pointer (some ⟨St,0,none⟩)] 95))(hSt:w.heap[St]?=some (ν 0 s))(hpo:s.po=false)(hne:Db ∉ St::L)(hLs:∀ i∈L,i<w.heap.size)
  (hE:∀ W:World,Kp [St] w W→W.heap[St]?=some (ν 1 s)→Calls prog 47 #[.pointer (some ⟨St,0,none⟩),.bool wrt] W fun e w'=>e=.returned (.int .u64 nr)∧w'.heap[St]?=some (ν 1 s')∧R w'∧Kp (St::L) W w')
  (hR:∀ (a b:World) (k:List Nat),(∀ i∈k,i=St∨w.heap.size≤i)→R a→Kp k a b→R b):
  Calls prog 22 #[.pointer (some ⟨Db,0,none⟩),.bool wrt] w fun e w'=>∃ x,e=.returned (.tuple #[.pointer (some ⟨x,0,none⟩),.nilIface])∧w.heap.size≤x∧w'.heap[x]?=some (qA3 ⟨St,nr,wrt,false,some ⟨s.V,0,none⟩,⟨⟨#[]⟩,s.rb,s.rs,none⟩,0⟩)∧w'.heap[St]?=some (ν 0 s')∧R w'∧Kp (St::L) w w':=by
 have HE:=zh hE;have HN:=zh hne;have HLS:=zh hLs;have HR:=zh hR;have HPO:=zh hpo;clear hE hne hLs hR hpo;have hmf:=zM;have hDs:=ζ hD;have hSs:=ζ hSt;have d0:=ξ (θ (.cells #[.pointer none] 29) (θ (.cells #[.bool wrt] 4) (θ (.cells #[.pointer (some ⟨Db,0,none⟩)] 24) hD))) 0;simp only[zG,zH] at d0;go_enter func22,ntmps22;go_wp2_with fail;obtain⟨W0,hW0,hK0,hs0,hX0,hB0,hT0⟩:∃ W0,W0=((w.alloc (.cells #[.pointer (some ⟨Db,0,none⟩)] 24)).alloc (.cells #[.bool wrt] 4)).alloc (.cells #[.pointer none] 29)∧Kp [] w W0∧W0.heap.size=w.heap.size+3∧W0.heap[w.heap.size]?=some (.cells #[.pointer (some ⟨Db,0,none⟩)] 24)∧W0.heap[w.heap.size+1]?=some (.cells #[.bool wrt] 4)∧W0.heap[w.heap.size+2]?=some (.cells #[.pointer none] 29):=by
  refine⟨_,rfl,(((Kp.refl _ _).alloc _).alloc _).alloc _,by simp,θ _ (θ _ (μ _ _)),θ _ ?_,?_⟩
  ·have e:=μ (w.alloc (.cells #[.pointer (some ⟨Db,0,none⟩)] 24)) (.cells #[.bool wrt] 4);simpa using e
  ·have e:=μ ((w.alloc (.cells #[.pointer (some ⟨Db,0,none⟩)] 24)).alloc (.cells #[.bool wrt] 4)) (.cells #[.pointer none] 29);simpa using e
 rw[←hW0];clear hW0;have hD0:=hK0.hp hD;have hSt0:=hK0.hp hSt;have hout:∀ i,w.heap.size≤i→i ∉ St::L:=fun i hi hm=>by
  rcases List.mem_cons.1 hm with h|h
  ·omega
  ·have:=HLS.out _ h;omega
 refine (zO9 none (by decide) St 45 s s' #[] _ _ ((w.heap.size+2)::L) (fun W w1=>R w1∧∃ x,W.heap.size≤x∧w1.heap[x]?=some (qA3 ⟨St,nr,wrt,false,some ⟨s.V,0,none⟩,⟨⟨#[]⟩,s.rb,s.rs,none⟩,0⟩)∧w1.heap[w.heap.size+2]?=some (.cells #[.pointer (some ⟨x,0,none⟩)] 29)) W0 hSt0 HPO.out (xO6 _) (by intro i hi;rcases List.mem_cons.1 hi with h | h;omega;have:=HLS.out _ h;omega) ?_).mono ?_
 ·intro W hK hS;have hX:=hK.ho hX0;have hB:=hK.ho hB0;have hT:=hK.ho hT0;have hDW:=hK.heap hD0 (by simp;exact fun h=>HN.out (by simp[h]));have hKW:Kp [St] w W:=(hK0.mono (S':=[St]) (by simp)).trans hK (fun _ h _=>h);refine (xL7 w.heap.size (w.heap.size+1) (w.heap.size+2) Db St wrt s s' nr L R W hX hB hT hDW hS ⟨hout _ (by omega),hout _ (by omega),HN.out,hout _ (by omega)⟩ ⟨by omega,by omega,by omega,by omega⟩ (fun W' hK'=>HE.out W' (hKW.tr hK') (hK'.hp hS)) (fun a b ha hab=>HR.out a b [w.heap.size+2] (by simp) ha hab)).mono ?_;rintro e w1 ⟨rfl,hx,hr,hk,hst⟩;exact⟨rfl,⟨hr,hx⟩,hk,hst⟩
 rintro e w2 ⟨v,rfl,hv,hSt2,hK2,W,w1,Bb,⟨hr,x,hx1,hx2,hx3⟩,hKW,hB1,hB2,hB3,hKB⟩;have hv':v=.nilIface:=hv;subst hv';have hT2:w2.heap[w.heap.size+2]?=some (.cells #[.pointer (some ⟨x,0,none⟩)] 29):=hKB.ho hx3;have hxb:w2.heap[x]?=some (qA3 ⟨St,nr,wrt,false,some ⟨s.V,0,none⟩,⟨⟨#[]⟩,s.rb,s.rs,none⟩,0⟩):=hKB.ho hx2;have hTs:=ζ hT2;have t0:=ξ hT2 0;simp only[zG,zH,zI] at t0;have HX:Hid (w2.heap[x]?=some (qA3 ⟨St,nr,wrt,false,some ⟨s.V,0,none⟩,⟨⟨#[]⟩,s.rb,s.rs,none⟩,0⟩)∧R w2∧Kp (St::L) w w2):=⟨hxb,HR.out _ _ [St,Bb] (by simp;omega) hr hKB,(hK0.mono (S':=St::L) (by simp)).trans hK2 (by intro i hi hlt;simp at hi ⊢;rcases hi with h | h | h;simp[h];omega;simp[h])⟩;have hxw:w.heap.size≤x:=by have:=hKW.size;omega
 clear hv hr hx2 hx3 hKW hB3 hKB hK2 hT2 hxb;go_wp2
 go_ret2
 exact⟨x,rfl,hxw,HX.out.1,hSt2,HX.out.2.1,HX.out.2.2⟩
end Go.Proofs.YtdohpenfkdckiabGreatDoor
namespace Go.Proofs.YtdohpenfkdckiabGreatDoor
open Go.Proofs.Tryz
open Go.RowKit
open Go.Maps (Keyed)
theorem xM2(Db St n:Nat)(s:Sto)(D:DataW Unit)(w:World)(hD:w.heap[Db]?=some (.cells #[.pointer (some ⟨St,0,none⟩)] 95))(hSt:w.heap[St]?=some (ν 0 s))(hM:RM w s.V s.M n D)(hpo:s.po=false)(hDS:Db≠St)(hMS:s.M≠St)(hMs:s.M<w.heap.size)(hwr:s.wr=0)(h0:0≤s.bg)(h1:s.bg≤100000000):
  Calls prog 22 #[.pointer (some ⟨Db,0,none⟩),.bool true] w fun e w'=>∃ x,e=.returned (.tuple #[.pointer (some ⟨x,0,none⟩),.nilIface])∧w.heap.size≤x∧w'.heap[x]?=some (qA3 ⟨St,s.bg+1,true,false,some ⟨s.V,0,none⟩,⟨⟨#[]⟩,s.rb,s.rs,none⟩,0⟩)∧w'.heap[St]?=some (ν 0 s.wrote)∧RM w' s.V s.M n D∧Kp [St] w w':=
 zR4 Db St true s s.wrote (s.bg+1) [] (fun w'=>RM w' s.V s.M n D) w hD hSt hpo (by simp;exact hDS) (by simp)
  (fun W hK hS=>(xS6 St s W hS hwr h0 h1).mono fun e w' ⟨a,b,c⟩=>⟨a,b,(hM.kp hK (by simp;exact hMS)).kp c (by simp;exact hMS),c⟩)
  (fun a b k hk ha hab=>ha.kp hab (fun hm=>by rcases hk _ hm with h | h;exact hMS h;omega))
theorem xL9(Db St n:Nat)(s:Sto)(D:DataW Unit)(w:World)(hD:w.heap[Db]?=some (.cells #[.pointer (some ⟨St,0,none⟩)] 95))(hSt:w.heap[St]?=some (ν 0 s))(hM:RM w s.V s.M n D)(hpo:s.po=false)(hDS:Db≠St)(hMS:s.M≠St)(hMD:Db≠s.M)(hMs:s.M<w.heap.size)(h4:Maps.size D<4)(hn:n≤100000000)(h0:0≤s.bg)(h1:s.bg≤100000000):
  Calls prog 22 #[.pointer (some ⟨Db,0,none⟩),.bool false] w fun e w'=>∃ x,e=.returned (.tuple #[.pointer (some ⟨x,0,none⟩),.nilIface])∧w.heap.size≤x∧w'.heap[x]?=some (qA3 ⟨St,s.bg+1,false,false,some ⟨s.V,0,none⟩,⟨⟨#[]⟩,s.rb,s.rs,none⟩,0⟩)∧w'.heap[St]?=some (ν 0 s.read)∧RM w' s.V s.M (n+1) (D.put (ι (s.bg+1)) (qE4 ⟨⟨#[]⟩,s.rb,s.rs,none⟩))∧Kp [St,s.M] w w':=
 zR4 Db St false s s.read (s.bg+1) [s.M] (fun w'=>RM w' s.V s.M (n+1) (D.put (ι (s.bg+1)) (qE4 ⟨⟨#[]⟩,s.rb,s.rs,none⟩))) w hD hSt hpo (by simp;exact⟨hDS,hMD⟩) (by simp;exact hMs)
  (fun W hK hS=>(xS5 St n s D W hS (hM.kp hK (by simp;exact hMS)) h4 hn h0 h1 hMS).mono fun e w' ⟨a,b,c,d⟩=>⟨a,b,c,d⟩)
  (fun a b k hk ha hab=>ha.kp hab (fun hm=>by rcases hk _ hm with h | h;exact hMS h;omega))
def Tx.ended(t:Tx):Tx:={ t with over:=true,on:=none,h:=⟨⟨#[]⟩,0,0,none⟩ }
theorem zG3(x n:Nat)(t:Tx)(s:Sto)(D:DataW Unit)(w:World)(hx:w.heap[x]?=some (qA3 t))(hSt:w.heap[t.St]?=some (ν 1 s))(hM:RM w s.V s.M n D)(h0:0≤t.nr)(h1:t.nr≤1000000000)(hMS:s.M≠t.St)(hxS:x≠t.St)(hxM:x≠s.M):
  Calls prog 40 #[.pointer (some ⟨x,0,none⟩)] w fun e w'=>e=.returned (.tuple #[])∧w'.heap[x]?=some (qA3 t.ended)∧w'.heap[t.St]?=some (ν 1 (s.left t.nr))∧RM w' s.V s.M n (D.del (ι t.nr))∧Kp [t.St,x,s.M] w w':=by
 have hxs:=ζ hx;have x0:=ξ hx;simp only[qA3,zG,zH,zI] at x0;have f3:=ψ hx;obtain⟨w0,hw0,hx0,hK0⟩:∃ w0,w0=(((((w.setCell ⟨x,3,none⟩ (.bool true)).setCell ⟨x,4,none⟩ (.pointer none)).setCell ⟨x,5,none⟩ (.string ⟨#[]⟩)).setCell ⟨x,6,none⟩ (.int .i64 0)).setCell ⟨x,7,none⟩ (.int .u64 0)).setCell ⟨x,8,none⟩ (.pointer none)∧w0.heap[x]?=some (qA3 t.ended)∧Kp [x] w w0:=
  ⟨_,rfl,φ (φ (φ (φ (φ (φ hx 3 _) 4 _) 5 _) 6 _) 7 _) 8 _,((((((Kp.refl _ _).sc _).sc _).sc _).sc _).sc _).sc _⟩
 have HX0:=zh hx0;have HS0:Hid (w0.heap[t.St]?=some (ν 1 s)):=hK0.heap hSt (by simp;exact fun h=>hxS h.symm);have HM0:Hid (RM w0 s.V s.M n D):=hM.kp hK0 (by simp;exact fun h=>hxM h.symm);have HK0:=zh hK0;have HN:Hid (s.M≠t.St∧x≠t.St∧x≠s.M):=⟨hMS,hxS,hxM⟩;clear hx hSt hM hMS hxS hxM hx0 hK0;go_enter func40,ntmps40;go_wp2_with fail;rw[←hw0];clear hw0 x0 f3;have hx0s:=ζ HX0.out;have hS0:=HX0.out;refine wp_region_held_drew (S:=fun W=>W.heap[x]?=some (qA3 t.ended)) (by kernel_rfl) hS0 (fun _=>?_);refine zP 0 x 0 hS0 ?_;refine zP 1 x 0 hS0 ?_;refine zP 2 x 0 hS0 ?_;refine zV 3 (.pointer (some ⟨t.St,0,none⟩)) rfl (fun W hS=>by have c:=ξ hS 0;simp only[qA3,Tx.ended,zG,zH,zI] at c;clear hS;go_simp) hS0 ?_;refine zP 4 x 0 hS0 ?_;refine zP 5 x 0 hS0 ?_;refine zP 6 x 1 hS0 ?_;refine zV 7 (.int .u64 t.nr) rfl (fun W hS=>by have c:=ξ hS 1;simp only[qA3,Tx.ended,zG,zH,zI] at c;clear hS;go_simp) hS0 ?_;refine zq 8 fun K hK=>?_;go_simp;refine (jG3 t.St n s t.nr D w0.drew HS0.out (HM0.out.kp ((Kp.refl [] w0).drew) (by simp)) h0 h1 HN.out.1).mono ?_;rintro e w1 ⟨rfl,hSt1,hM1,hK1⟩;have hK1':Kp [t.St,s.M] w0 w1:=((Kp.refl _ w0).drew).trans hK1 (fun _ h _=>h);have hS1:=hK1'.heap hS0 (by simp;exact HN.out.2);refine hK.out _ _ hS1 (fun _=>?_);clear hK K hK1;refine zd ?_;have HE:Hid (w1.heap[x]?=some (qA3 t.ended)∧w1.heap[t.St]?=some (ν 1 (s.left t.nr))∧RM w1 s.V s.M n (D.del (ι t.nr))∧Kp [t.St,x,s.M] w w1):=⟨hS1,hSt1,hM1,(HK0.out.mono (by simp)).trans hK1' (by intro i hi _;simp at hi ⊢;omega)⟩;clear hS1 hS0 hSt1 hM1 hK1';go_wp2
 go_end0
 exact⟨rfl,HE.out⟩
theorem xP5(args:Array Value)(W:World):Sem.run prog (callFunc 40 args) W=.ok (.enter 40 args) W:=by
 simp[go_sem,func40]
theorem xI8(x n:Nat)(t:Tx)(s:Sto)(D:DataW Unit)(w:World)(hx:w.heap[x]?=some (qA3 t))(ho:t.over=false)(hSt:w.heap[t.St]?=some (ν 0 s))(hpo:s.po=false)(hM:RM w s.V s.M n D)(h0:0≤t.nr)(h1:t.nr≤1000000000)(hMS:s.M≠t.St)(hxS:x≠t.St)(hxM:x≠s.M)(hMs:s.M<w.heap.size):
  Calls prog 29 #[.pointer (some ⟨x,0,none⟩)] w fun e w'=>e=.returned .nilIface∧w'.heap[x]?=some (qA3 t.ended)∧w'.heap[t.St]?=some (ν 0 (s.left t.nr))∧RM w' s.V s.M n (D.del (ι t.nr))∧Kp [t.St,x,s.M] w w':=by
 have hmf:=zM;have hxs:=ζ hx;go_enter func29,ntmps29;go_wp2_with fail;refine (zA6 none (by decide) x t.St 40 t s (s.left t.nr) #[.pointer (some ⟨x,0,none⟩)] #[] _ [x,s.M] (fun W w1=>w1.heap[x]?=some (qA3 t.ended)∧RM w1 s.V s.M n (D.del (ι t.nr))) w hx ho rfl hSt hpo hxS (xP5 _) (by intro i hi;simp at hi;omega) ?_).mono ?_
 ·intro W hK hS;refine (zG3 x n t s D W (hK.heap hx (by simp;exact hxS)) hS (hM.kp hK (by simp;exact hMS)) h0 h1 hMS hxS hxM).mono ?_;rintro e w1 ⟨rfl,ha,hb,hc,hd⟩;exact⟨rfl,⟨ha,hc⟩,hd,hb⟩
 rintro e w2 ⟨v,rfl,hv,hSt2,hK2,W,w1,Bb,⟨ha,hb⟩,hKW,hB1,hB2,hB3,hKB⟩;have hv':v=.nilIface:=hv;subst hv';have HE:Hid (w2.heap[x]?=some (qA3 t.ended)∧w2.heap[t.St]?=some (ν 0 (s.left t.nr))∧RM w2 s.V s.M n (D.del (ι t.nr))∧Kp [t.St,x,s.M] w w2):=⟨hKB.heap ha (by simp;exact⟨hxS,by omega⟩),hSt2,hb.kp hKB (by simp;exact⟨hMS,by omega⟩),hK2⟩;clear hv ha hb hSt2 hK2 hKW hKB hB3 hMS hxS hxM;go_wp2;go_ret;exact⟨rfl,HE.out⟩
end Go.Proofs.YtdohpenfkdckiabGreatDoor
namespace Go.Proofs.YtdohpenfkdckiabGreatDoor
open Go.Proofs.Tryz
open Go.RowKit
theorem jS4(s:ByteArray)(w:World)(hlim:s.size≤1000000):
  Calls prog 95 #[.string s] w fun e w'=>e=.returned (.string s)∧Kp [] w w':=by
 by_cases h0:s.size=0
 ·have hs:s=⟨#[]⟩:=by
   apply ByteArray.ext;exact Array.eq_empty_of_size_eq_zero h0
  subst hs;clear h0 hlim;go_enter func95,ntmps95;go_wp2;go_ret;exact⟨rfl,Kp.refl _ _⟩
 ·obtain⟨i0,hi,hz0,hz1,hz2⟩:=info_parts Tryz.info5;have hinfo:(prog.info? 5).map (·.size)=some 1:=by rw[hi];simp[hz1]
  have hco:prog.cellsOf 5=1:=by kernel_rfl
  obtain⟨M,hM⟩:∃ M,M=madeCells (Value.int .u8 0).cells (((s.size:Nat):Int).toNat*i0.size):=⟨_,rfl⟩;have hMs:M.size=s.size:=by rw[hM,size_madeCells,hz1];simp
  have hmk:∀ W:World,(Instr.makeSlice 90 (.int .i64 (s.size:Int)) (.int .i64 (s.size:Int))).run prog W=.ok (.slice (some ⟨W.heap.size,0,none⟩) s.size s.size) (W.alloc (.cells M 5)):=fun W=>by
   have h:=run_make (P:=prog) W 90 5 i0 (.int .u8 0) underlying90 hi hz0 .i64 .i64 (s.size:Int) (s.size:Int) (by omega) (by omega) (by rw[hz2];omega) (by omega);rw[←hM] at h;simpa using h
  clear hM;have hcp:=Lib.run_copy_row_string (P:=prog) (w.alloc (.cells M 5)) 90 9 3 5 w.heap.size 0 s.size s.size s M 5 underlying90 hinfo (heap_alloc_new w _) (Nat.le_refl _) (by omega);obtain⟨Y,hY⟩:∃ Y,Y=(M.toList.take 0++Lib.byteCells s.data.toList++M.toList.drop (0+s.size)).toArray:=⟨_,rfl⟩;rw[←hY] at hcp;have hYl:Y.toList=Lib.byteCells s.data.toList:=by
   rw[hY,List.toList_toArray,List.take_zero,List.nil_append,List.drop_of_length_le (by rw[Array.length_toList];omega),List.append_nil]
  have hYs:Y.size=s.size:=by rw[←Array.length_toList,hYl,Lib.byteCells_length,←Lib.size_eq]
  have hgY:((w.alloc (.cells M 5)).setRow w.heap.size Y).heap[w.heap.size]?=some (.cells Y 5 (0,0)):=setRow_heap _ _ M _ 5 (0,0) (heap_alloc_new w _);have hne:s.data.toList≠[]:=fun e=>h0 (by rw[Lib.size_eq,e];rfl);have hUS:=Lib.run_unsafeString_row (P:=prog) ((w.alloc (.cells M 5)).setRow w.heap.size Y) 222 3 9 5 underlying222 hco w.heap.size Y.size (by unfold World.shape?;rw[hgY]) s.data.toList hne (by rw[←Lib.size_eq];omega) (by rw[←Lib.size_eq];omega)
   (fun j x hx=>Lib.cells_of_row hgY Y.size j _ (by rw[List.take_of_length_le (by rw[Array.length_toList];exact Nat.le_refl _),hYl];simp[Lib.byteCells,hx]))
  rw[←Lib.size_eq] at hUS;clear hY;have hb1:Below w.heap.size w (w.alloc (.cells M 5)):=(Below.refl _ w).alloc (Nat.le_refl _) _;have hb2:Below w.heap.size (w.alloc (.cells M 5)) ((w.alloc (.cells M 5)).setRow w.heap.size Y):=⟨rfl,rfl,rfl,by simp,fun k hk=>setRow_other _ _ _ _ (by omega)⟩;have HB:Hid (Below w.heap.size w ((w.alloc (.cells M 5)).setRow w.heap.size Y)):=hb1.trans hb2;clear hb1 hb2 hgY hne hYl;go_enter func95,ntmps95;go_wp2;go_ret;exact⟨rfl,Kp.of_below (Lib.below_freeze HB.out (p:=⟨w.heap.size,0,none⟩) (Nat.le_refl _) _) (Nat.le_refl _)⟩
theorem qW0(s:ByteArray)(w:World)(hlim:s.size≤1000000):
  Calls prog 57 #[.string s] w fun e w'=>e=.returned (.string s)∧Kp [] w w':=by
 go_enter func57,ntmps57;go_wp2_with fail;refine (jS4 s w hlim).mono ?_;rintro e w1 ⟨rfl,hK1⟩;go_wp2;go_ret;exact⟨rfl,hK1⟩
theorem jZ0{P:Program}{ops:Array Oper}{rest:List Oper}{dst:Option Tmp}{ty:TypeId}{pos:String}{aft:Array Edge}{a:Act}{w w':World}{Q:Exit→Act→World→Prop}{s x:Operand}{t:TypeId}{vs vx v':Value}(hs:a.eval s=vs)(hx:a.eval x=vx)
  (hr:Sem.run P (Builtin.append_ #[t,t] ty #[vs,vx]) w=.ok v' w') (h:wpList P ops Q rest (a.put dst v') w'):
  wpList P ops Q (⟨dst,.call { callee:=.builtin .append,args:=#[s,x],argTypes:=#[t,t] },ty,pos,aft,none⟩::rest) a w:=by
 refine wpList_plain rfl fun K hK=>?_;have hk:=hK _ _ h;unfold Oper.wp execOp;simp only[resolve,invoke,builtin,Sem.run_bind,Sem.run_pure,Result.andThen_ok,List.map_toArray,List.map_cons,List.map_nil,hs,hx,hr];exact hk
def OPA(w:World)(base:Nat)(v:Value)(ps:List KV):Prop:=w.ownsRow base 64 2 v ps.length (qB0 ps)
theorem xZ4:(prog.info? 64).map (fun i=>(i.zero,i.size,i.bytes))=some (some (.agg #[.string ⟨#[]⟩,.string ⟨#[]⟩]),2,32):=by kernel_rfl
theorem OPA.nil(w:World)(base:Nat):OPA w base (.slice none 0 0) []:=World.ownsRow_nil _ _ _ _
theorem OPA.form{w:World}{base:Nat}{v:Value}{ps:List KV}(h:OPA w base v ps):∃ b c,v=.slice b ps.length c:=by
 rcases h.2 with⟨h0,h1⟩|⟨g,cap,cur,h1,h2⟩
 ·exact⟨none,0,by rw[h0,h1]⟩
 ·exact⟨_,cap,h1⟩
theorem xE0(ps:List KV)(p:KV):qB0 (ps++[p])=qB0 ps++[.string p.k,.string p.v]:=by simp[qB0,pcs]
theorem OPA.low{w:World}{base:Nat}{v:Value}{ps:List KV}(h:OPA w base v ps):∀ k,v.ownBlock=some k→base≤k:=fun k hk=>(World.ownsRow.lt h k hk).1
theorem xR5(k:ByteArray)(l:List KV):(del k l).length≤l.length:=List.length_filter_le _ _
def inR(lo hi:ByteArray)(q:KV):Bool:=!kl q.k lo && kl q.k hi
def qG2(ps:List KV)(lo hi:ByteArray)(most:Int):List KV:=(ps.filter (inR lo hi)).take most.toNat
def zI0(k:ByteArray):Bool:=decide (1≤k.size) && decide (k.size≤8)
def qL5:List TypeId:=[72,186,87,89]
def OffD(w:World)(L:List Nat):Prop:=∀ k∈L,∀ c t fr,w.heap[k]?=some (.cells c t fr)→t ∉ qL5
structure SEnv extends Env where
 keepX:∀ w w' L,Dev w→Kp L w w'→OffD w L→Dev w'
 offS:∀ w,Dev w→∀ k∈S,∃ c t fr,w.heap[k]?=some (.cells c t fr)∧t∈qL5
theorem SEnv.nin(E:SEnv){w:World}(hd:E.Dev w){k:Nat}{c:Array Value}{t:TypeId}{fr:Nat × Nat}(h:w.heap[k]?=some (.cells c t fr))(ht:t ∉ qL5):k ∉ E.S:=fun hm=>by
 obtain⟨c',t',fr',h1,h2⟩:=E.offS w hd k hm;rw[h] at h1;cases h1;exact ht h2
theorem SEnv.stay(E:SEnv){w w':World}(hd:E.Dev w)(hT:E.To w w'){k:Nat}{c:Array Value}{t:TypeId}{fr:Nat × Nat}(h:w.heap[k]?=some (.cells c t fr))(ht:t ∉ qL5):w'.heap[k]?=some (.cells c t fr):=
 hT.kp.heap h (E.nin hd h ht)
theorem OffD.one{w:World}{k:Nat}{c:Array Value}{t:TypeId}{fr:Nat × Nat}(h:w.heap[k]?=some (.cells c t fr))(ht:t ∉ qL5):OffD w [k]:=fun i hi c' t' fr' e=>by
 rw[List.mem_singleton.1 hi,h] at e;cases e;exact ht
theorem OffD.cons{w:World}{k:Nat}{L:List Nat}(h:OffD w [k])(h2:OffD w L):OffD w (k::L):=fun i hi=>by
 rcases List.mem_cons.1 hi with hi|hi
 ·exact h i (by simp[hi])
 ·exact h2 i hi
theorem Apt.one{w:World}{k:Nat}{c:Array Value}{t:TypeId}{fr:Nat × Nat}{Ts:List TypeId}(h:w.heap[k]?=some (.cells c t fr))(ht:t ∉ Ts):Apt w [k] Ts:=fun i hi c' t' fr' e=>by
 rw[List.mem_singleton.1 hi,h] at e;cases e;exact ht
theorem Apt.cons{w:World}{k:Nat}{S:List Nat}{Ts:List TypeId}(h:Apt w [k] Ts)(h2:Apt w S Ts):Apt w (k::S) Ts:=fun i hi=>by
 rcases List.mem_cons.1 hi with hi|hi
 ·exact h i (by simp[hi])
 ·exact h2 i hi
theorem xQ0(k:ByteArray)(w:World)(h1:1≤k.size)(h8:k.size≤8):
  Calls prog 49 #[.string k] w fun e w'=>e=qC6 none∧w'=w:=by
 have hb:¬(k.size:Int)<1:=by omega
 have hb8:¬(8:Int)<(k.size:Int):=by omega
 go_enter func49,ntmps49;go_wp2
 go_end0
 exact⟨rfl,rfl⟩
theorem zC8(St A n:Nat)(lk:Int)(s:Sto)(w:World)(hSt:w.heap[St]?=some (ν lk s))(hV:w.heap[s.V]?=some (qC8 A n))(hn:n≤1000000)(h0:0≤s.bl)(h1:s.bl≤1000000):
  Calls prog 59 #[.pointer (some ⟨St,0,none⟩)] w fun e w'=>e=.returned (.int .i64 ((n:Int)-2-s.bl))∧Kp [] w w':=by
 have hSs:=ζ hSt;have hVs:=ζ hV;go_enter func59,ntmps59;go_wp2_with fail;have hS0:w.heap[St]?=some (ν lk s)∧w.heap[s.V]?=some (qC8 A n):=⟨hSt,hV⟩;refine wp_region_held_drew (S:=fun W=>W.heap[St]?=some (ν lk s)∧W.heap[s.V]?=some (qC8 A n)) (by kernel_rfl) hS0 (fun _=>?_);refine zP 0 St 0 hS0 ?_;refine zP 1 St 0 hS0 ?_;refine zP 2 St 2 hS0 ?_;refine zV 3 (.pointer (some ⟨s.V,0,none⟩)) rfl (fun W hS=>by have c:=ξ hS.1 2;simp only[ν,zG,zH,zI] at c;clear hS;go_simp) hS0 ?_;refine zP 6 St 0 hS0 ?_;refine zP 7 St 0 hS0 ?_;refine zP 8 St 6 hS0 ?_;refine zV 9 (.int .i64 s.bl) rfl (fun W hS=>by have c:=ξ hS.1 6;simp only[ν,zG,zH,zI] at c;clear hS;go_simp) hS0 ?_;refine zq 4 fun K hK=>?_;go_simp;refine (zN2 s.V A n w.drew hV).mono ?_;rintro e w1 ⟨rfl,rfl⟩;refine hK.out _ _ hS0 (fun _=>?_);clear hK K
 try simp only[zZ]
 have hwr1:IntKind.i64.wrap ((n:Int)-2)=(n:Int)-2:=by rw[IntKind.wrap_i64];omega
 have hwr2:IntKind.i64.wrap ((n:Int)-2-s.bl)=(n:Int)-2-s.bl:=by rw[IntKind.wrap_i64];omega
 refine zU 5 (.int .i64 ((n:Int)-2)) hS0 ?_;refine zU 10 (.int .i64 ((n:Int)-2-s.bl)) hS0 ?_;refine zU 11 (.int .i64 ((n:Int)-2-s.bl)) hS0 ?_;refine zd ?_;clear hwr1 hwr2;go_wp2;go_ret;exact⟨rfl,(Kp.refl _ _).drew⟩
theorem RGood.slim{n:Nat}{l:Lnk (Tn n)}(h:RGood (.at n l))(hc:(cont n l.sub).length≤1000000):qV6 n l.sub∧qB9 n l.sub≤1000000:=by
 obtain⟨_,h2,_⟩:=h;have:=qX4 n _ _ h2;exact⟨qJ9 n _ _ h2,by omega⟩
theorem qX6(E:Env)(r:Root)(h:HL)(w:World)(hr:RR E w h r)(hg:RGood r)(hsz:r.cont.length≤1000000):
  Calls prog 58 #[τ E.V h] w fun e w'=>e=.returned (.int .i64 (r.news:Nat))∧Kp [] w w':=by
 cases r with
 | none=>
  have hh:h=⟨⟨#[]⟩,0,0,none⟩:=hr;subst hh;have hc:∀ W:World,Calls prog 96 #[.agg #[.string ⟨#[]⟩,.int .i64 0,.int .u64 0,.pointer none]] W fun e w'=>e=.returned (.int .i64 0)∧Kp [] W w':=by
   intro W;go_enter func96,ntmps96;go_wp2;go_ret;exact⟨rfl,(Kp.refl _ _).alloc _⟩
  have HC:=zh hc;clear hc;have hp:HL.ptr ⟨⟨#[]⟩,0,0,none⟩=none:=rfl;rw[τ,hp];go_enter func58,ntmps58;go_wp2_with fail;refine (HC.out _).mono ?_;rintro e w1 ⟨rfl,hK1⟩;have hK1':Kp [] w w1:=((Kp.refl _ _).alloc _).tr hK1;go_wp2;go_ret;exact⟨rfl,hK1'⟩
 | «at» n l=>
  have hs:=RGood.slim hg hsz;exact jV8 E.O E.V n h l w hr hs.1 hs.2
def qL9(s:ByteArray):List Int:=s.data.toList.map (fun b=>(b.toNat:Int))
theorem qR9(s:ByteArray):(qL9 s).length=s.size:=by
 unfold qL9;rw[List.length_map];exact Array.length_toList
theorem zM2(s:ByteArray):∀ x∈qL9 s,0≤x∧x<256:=by
 intro x hx;simp only[qL9,List.mem_map] at hx;obtain⟨b,_,rfl⟩:=hx;have:=b.toNat_lt;omega
theorem zM5(s:ByteArray):Lib.strCells s=u8s (qL9 s):=by
 unfold Lib.strCells u8s qL9;rw[List.map_map];rfl
def qD4(p:KV):List Int:=[(p.k.size:Int)*16+p.v.size]++qL9 p.k++qL9 p.v
theorem qT1(p:KV):(qD4 p).length=ρ p:=by
 simp only[qD4,List.length_append,List.length_cons,List.length_nil,qR9,ρ]
theorem jW9(a b:List Int):u8s (a++b)=u8s a++u8s b:=by simp[u8s]
theorem xG9(a:List Int):(u8s a).length=a.length:=by simp[u8s]
theorem qP6{w w':World}{base:Nat}{T:TypeId}{sz:Nat}{v:Value}{n:Nat}{xs:List Value}{k:Nat}{c:Array Value}{t:TypeId}{fr:Nat × Nat}(h:w.ownsRow base T sz v n xs)(hg:w.grownBy w' v.ownBlock)(hk:w.heap[k]?=some (.cells c t fr))(ht:t≠T):w'.heap[k]?=some (.cells c t fr):=by
 refine (hg.block k (ζ hk) ?_).trans hk;rcases h.2 with⟨rfl,_⟩|⟨g,cap,cur,rfl,_,hh,_⟩
 ·simp[Value.ownBlock]
 ·intro e;simp only[Value.ownBlock,Option.some.injEq] at e;subst e;rw[hk] at hh;simp only[Option.some.injEq,Obj.cells.injEq] at hh;exact ht hh.2.1
def St(w w':World):Prop:=∀ (k:Nat) (c:Array Value) (t:TypeId) (fr:Nat × Nat),w.heap[k]?=some (.cells c t fr)→t≠5→w'.heap[k]?=some (.cells c t fr)
theorem St.refl(w:World):St w w:=fun _ _ _ _ h _=>h
theorem St.trans{a b c:World}(h:St a b)(k:St b c):St a c:=fun q x t fr e ht=>k q x t fr (h q x t fr e ht) ht
theorem St.alloc{a b:World}(h:St a b)(o:Obj):St a (b.alloc o):=fun q x t fr e ht=>θ o (h q x t fr e ht)
theorem St.grown{a w w':World}{base:Nat}{sz:Nat}{v:Value}{n:Nat}{xs:List Value}(s:St a w)(h:w.ownsRow base 5 sz v n xs)(hg:w.grownBy w' v.ownBlock):St a w':=fun q x t fr e ht=>qP6 h hg (s q x t fr e ht) ht
theorem jO4:∀ k<9,∀ v<13,bits BinOp.or .i64 (((k:Nat):Int)*16) ((v:Nat):Int)=((k:Nat):Int)*16+((v:Nat):Int):=by decide
theorem jP0(p:KV)(v:Value)(base k:Nat)(xs:List Int)(w:World)(hk:k≤1000)(hp:qD0 p)(hb:base≤w.heap.size)
  (hown:w.ownsRow base 5 1 v k (u8s xs)):
  Calls prog 261 #[.agg #[.string p.k,.string p.v],v] w fun e w'=>∃ v',e=.returned v'∧w'.ownsRow base 5 1 v' (k+ρ p) (u8s (xs++qD4 p))∧Below base w w'∧St w w':=by
 obtain⟨i0,hi,hz0,hz1,hz2⟩:=info_parts Tryz.info5;obtain⟨hp1,hp2,hp3⟩:=hp;have hor:=jO4 p.k.size (by omega) p.v.size (by omega);obtain⟨x,hx⟩:∃ x:Int,x=(p.k.size:Int)*16+p.v.size:=⟨_,rfl⟩;rw[←hx] at hor;have hxm:x % 256=x:=by omega
 have hw:wrap64 ((p.k.size:Int)*16)=(p.k.size:Int)*16:=by simp only[wrap64];omega
 have HX:=zh hx;have HB:=zh hb;have HP:Hid (p.k.size≤8∧p.v.size≤12):=⟨hp2,hp3⟩;have HK:=zh hk;have HO:=zh hown;clear hx hp1 hp2 hp3 hb hk hown;go_enter func261,ntmps261
 go_wp2_with (at_builtin;refine wpList_append_own _ rfl _ _ 90 rfl base 5 i0 (.int .u8 0) 1 1 underlying90 hi hz0 hz1 hz2 rfl (by decide) _ _ _ rfl ((HO.out.alloc _).alloc _) ⟨w.heap.size+1,0,none⟩ 1 1 [.int .u8 x] rfl rfl ?_ (by simp[Value.oneCell']) (by have:=HK.out;unfold maxLen;omega) (by have:=HK.out;omega) (by have:=HB.out;simp;omega) ?_)
 ·intro j u hu
  cases j with
  | zero=>
   simp only[zH,Option.some.injEq] at hu;subst hu;have h:=ξ (μ (w.alloc (.cells #[.string p.k,.string p.v] 158)) (.cells #[.int .u8 x] 5)) 0;simp[Addr.add]
  | succ j=>simp at hu
 intro v1 w1 hown1 hgrow1 _;have hbx:=θ (.cells #[.int .u8 x] 5) (μ w (.cells #[.string p.k,.string p.v] 158));have hb1:=qP6 ((HO.out.alloc _).alloc _) hgrow1 hbx (by decide);have hs1:=hgrow1.size;have hbl1:Below base w w1:=(((Below.refl base w).alloc HB.out _).alloc (by have:=HB.out;simp;omega) _).grown hgrow1 (by have:=HB.out;simp;omega) (qH7 HO.out);have hst1:St w w1:=(((St.refl w).alloc _).alloc _).grown ((HO.out.alloc _).alloc _) hgrow1;have HS1:=zh hst1;have c0:=ξ hb1;have HO1:=zh hown1;have HL1:=zh hbl1;have HB1:=zh hb1;clear hown1 hgrow1 hbx hb1 hbl1 hs1 hst1
 go_wp2_with (at_builtin;refine Lib.wpList_append_own_string _ rfl _ _ 90 9 rfl base 5 i0 underlying90 underlying9 hi hz0 hz1 hz2 _ _ _ rfl HO1.out p.k rfl (by have:=HK.out;have:=HP.out;unfold maxLen;omega) (by have:=HK.out;have:=HP.out;omega) (by have:=HL1.out.size;have:=HB.out;omega) ?_)
 intro v2 w2 hown2 hgrow2 _;have hb2:=qP6 HO1.out hgrow2 HB1.out (by decide);have hbl2:Below base w w2:=HL1.out.grown hgrow2 (by have:=HL1.out.size;have:=HB.out;omega) (qH7 HO1.out);have c0:=ξ hb2 0;have c1:=ξ hb2 1;simp only[zG,zH,zI] at c0 c1;have HO2:Hid (w2.ownsRow base 5 1 v2 (k+1+p.k.size) (u8s xs++[.int .u8 x]++Lib.strCells p.k)):=by show World.ownsRow _ _ _ _ _ _ _;rw[List.append_assoc];exact hown2
 have HL2:=zh hbl2;have HS2:Hid (St w w2):=HS1.out.grown HO1.out hgrow2;clear hown2 hgrow2 hb2 hbl2 c0
 go_wp2_with (at_builtin;refine Lib.wpList_append_own_string _ rfl _ _ 90 9 rfl base 5 i0 underlying90 underlying9 hi hz0 hz1 hz2 _ _ _ rfl HO2.out p.v rfl (by have:=HK.out;have:=HP.out;unfold maxLen;omega) (by have:=HK.out;have:=HP.out;omega) (by have:=HL2.out.size;have:=HB.out;omega) ?_)
 intro v3 w3 hown3 hgrow3 _;have hbl3:Below base w w3:=HL2.out.grown hgrow3 (by have:=HL2.out.size;have:=HB.out;omega) (qH7 HO2.out);have e1:u8s (xs++qD4 p)=u8s xs++[.int .u8 x]++Lib.strCells p.k++Lib.strCells p.v:=by
  rw[zM5,zM5,qD4,HX.out];simp[u8s]
 have e2:k+ρ p=k+1+p.k.size+p.v.size:=by unfold ρ;omega
 have HE:Hid (w3.ownsRow base 5 1 v3 (k+ρ p) (u8s (xs++qD4 p))):=by show World.ownsRow _ _ _ _ _ _ _;rw[e1,e2];simp only[List.append_assoc,List.singleton_append,List.cons_append,List.nil_append] at hown3 ⊢;exact hown3
 have HL3:=zh hbl3;have HS3:Hid (St w w3):=HS2.out.grown HO2.out hgrow3;clear hown3 hgrow3 hbl3 e1 e2 c1;go_wp2;go_ret;exact⟨v3,rfl,HE.out,HL3.out,HS3.out⟩
theorem zP1(v:Value)(base k:Nat)(xs:List Int)(n:Int)(m:Nat)(w:World)(hx:k≤1000)(hm:m≤100)(hn:0≤n)
  (hb:base≤w.heap.size) (hown:w.ownsRow base 5 1 v k (u8s xs)):
  Calls prog 177 #[v,.int .u64 n,.int .i64 m] w fun e w'=>∃ v',e=.returned v'∧w'.ownsRow base 5 1 v' (k+m) (u8s (xs++qB2 m n))∧Below base w w'∧St w w':=by
 obtain⟨i0,hi,hz0,hz1,hz2⟩:=info_parts Tryz.info5;go_enter func177,ntmps177;go_wp2
 go_loopw [0,1,8] (fun s q i wr=>∃ (j:Nat) (v':Value) (nj:Int),j≤m∧i=.int .i64 j∧q=.int .u64 nj∧nj=n / (256:Int) ^ j∧0≤nj∧nj≤n∧s=v'∧wr.ownsRow base 5 1 v' (k+j) (u8s (xs++qB2 j n))∧Below base w wr∧Hid (St w wr)) (fun _ _ i _=>m-(intOf i).toNat)
 case atStart=>exact⟨0,v,n,Nat.zero_le _,rfl,rfl,by simp,hn,Int.le_refl _,rfl,by simpa [qB2] using hown,Below.refl _ _,St.refl _⟩
 case round=>
  obtain⟨j,v',nj,hj,rfl,rfl,hnj,hnj0,hnj1,rfl,hownr,hbl,HST⟩:=hrel;have HN:=zh hnj;clear hnj;by_cases hlt:j<m
  ·go_wp2_with (at_builtin;refine wpList_append_own _ rfl _ _ 90 rfl base 5 i0 (.int .u8 0) 1 1 underlying90 hi hz0 hz1 hz2 rfl (by decide) _ _ _ rfl (hownr.alloc _) ⟨wr.heap.size,0,none⟩ 1 1 [.int .u8 (nj % 256)] rfl rfl (cell_one_new _ _ _) (by simp[Value.oneCell']) (by unfold maxLen;omega) (by omega) (by have:=hbl.size;simp;omega) ?_;intro v1 w1 hown1 hgrow1 _)
   refine⟨⟨j+1,v1,nj / 256,by omega,by go_num,rfl,?_,by omega,by omega,rfl,?_,?_,(HST.out.alloc _).grown (hownr.alloc _) hgrow1⟩,by simp[intOf];omega⟩
   ·rw[HN.out,Int.ediv_ediv_of_nonneg (by exact Int.pow_nonneg (by decide)),Int.pow_succ]
   ·have e1:u8s (xs++qB2 (j+1) n)=u8s (xs++qB2 j n)++[.int .u8 (nj % 256)]:=by rw[zJ7,←HN.out];simp[u8s]
    rw[e1];exact hown1
   ·exact (hbl.alloc (by have:=hbl.size;omega) _).grown hgrow1 (by have:=hbl.size;simp;omega) (qH7 hownr)
  ·go_wp2;go_ret;have e:j=m:=by omega
   subst e;exact⟨_,rfl,hownr,hbl,HST.out⟩
def qD7(h:HL):List Int:=qB2 2 h.b++qB2 8 h.s++[(h.key.size:Int)]++qL9 h.key
theorem qS7(h:HL):(qD7 h).length=11+h.key.size:=by
 simp only[qD7,List.length_append,List.length_cons,List.length_nil,qR9,qG1]
theorem jF4(h:HL)(v:Value)(base k:Nat)(xs:List Int)(w:World)(hk:k≤900)(hkey:h.key.size≤8)(hb0:0≤h.b)(hb1:h.b≤1000000)(hs0:0≤h.s)(hb:base≤w.heap.size)
  (hown:w.ownsRow base 5 1 v k (u8s xs)):
  Calls prog 255 #[qC2 h,v] w fun e w'=>∃ v',e=.returned v'∧w'.ownsRow base 5 1 v' (k+(11+h.key.size)) (u8s (xs++qD7 h))∧Below base w w'∧St w w':=by
 obtain⟨i0,hi,hz0,hz1,hz2⟩:=info_parts Tryz.info5;obtain⟨x,hx⟩:∃ x:Int,x=(h.key.size:Int):=⟨_,rfl⟩;have hxm:(h.key.size:Int) % 256=x:=by omega
 have hwb:IntKind.u64.wrap h.b=h.b:=by rw[IntKind.wrap_u64];omega
 have HX:=zh hx;have HB:=zh hb;have HKEY:=zh hkey;have HK:=zh hk;have HN:Hid (0≤h.b∧0≤h.s):=⟨hb0,hs0⟩;have HO:=zh hown;clear hx hkey hb hk hown hb0 hs0 hb1;rw[qC2];go_enter func255,ntmps255;go_wp2_with fail;have hL0:=μ w (.cells #[.string h.key,.int .i64 h.b,.int .u64 h.s,.pointer h.ptr] 81);refine (zP1 v base k xs h.b 2 (w.alloc (.cells #[.string h.key,.int .i64 h.b,.int .u64 h.s,.pointer h.ptr] 81)) (by have:=HK.out;omega) (by omega) HN.out.1 (by have:=HB.out;simp;omega) (HO.out.alloc _)).mono ?_;rintro e w1 ⟨v1,rfl,hown1,hbl1,hst1⟩;have hL1:=hst1 _ _ _ _ hL0 (by decide);have HO1:=zh hown1;have HL1:Hid (Below base w w1):=((Below.refl base w).alloc HB.out _).trans hbl1;have HS1:Hid (St w w1):=((St.refl w).alloc _).trans hst1;have HC1:=zh hL1;have c2:=ξ hL1 2;simp only[zG,zH,zI] at c2;clear hown1 hbl1 hst1 hL0 hL1 hwb;go_wp2_with fail;refine (zP1 v1 base (k+2) (xs++qB2 2 h.b) h.s 8 w1 (by have:=HK.out;omega) (by omega) HN.out.2 (by have:=HL1.out.size;have:=HB.out;omega) HO1.out).mono ?_;rintro e w2 ⟨v2,rfl,hown2,hbl2,hst2⟩;have hL2:=hst2 _ _ _ _ HC1.out (by decide);have HO2:=zh hown2;have HL2:Hid (Below base w w2):=HL1.out.trans hbl2;have HS2:Hid (St w w2):=HS1.out.trans hst2;have HC2:=zh hL2;have hs2:=ζ hL2;have c0:=ξ hL2 0;simp only[zG,zH,zI] at c0;clear hown2 hbl2 hst2 hL2 c2
 go_wp2_with (at_builtin;refine wpList_append_own _ rfl _ _ 90 rfl base 5 i0 (.int .u8 0) 1 1 underlying90 hi hz0 hz1 hz2 rfl (by decide) _ _ _ rfl (HO2.out.alloc _) ⟨w2.heap.size,0,none⟩ 1 1 [.int .u8 x] rfl rfl ?_ (by simp[Value.oneCell']) (by have:=HK.out;unfold maxLen;omega) (by have:=HK.out;omega) (by have:=HL2.out.size;have:=HB.out;simp;omega) ?_)
 ·intro j u hu
  cases j with
  | zero=>
   simp only[zH,Option.some.injEq] at hu;subst hu;simp[Addr.add]
  | succ j=>simp at hu
 intro v3 w3 hown3 hgrow3 _;have hL3:=qP6 (HO2.out.alloc _) hgrow3 (θ (.cells #[.int .u8 x] 5) HC2.out) (by decide);have HL3:Hid (Below base w w3):=(HL2.out.alloc (by have:=HL2.out.size;have:=HB.out;omega) _).grown hgrow3 (by have:=HL2.out.size;have:=HB.out;simp;omega) (qH7 HO2.out);have HS3:Hid (St w w3):=(HS2.out.alloc _).grown (HO2.out.alloc _) hgrow3;have HO3:Hid (w3.ownsRow base 5 1 v3 (k+2+8+1) (u8s (xs++qB2 2 h.b++qB2 8 h.s)++[.int .u8 x])):=by show World.ownsRow _ _ _ _ _ _ _;rw[List.append_assoc xs];exact hown3
 have c0:=ξ hL3 0;simp only[zG,zH,zI] at c0;clear hown3 hgrow3 hL3
 go_wp2_with (at_builtin;refine Lib.wpList_append_own_string _ rfl _ _ 90 9 rfl base 5 i0 underlying90 underlying9 hi hz0 hz1 hz2 _ _ _ rfl HO3.out h.key rfl (by have:=HK.out;have:=HKEY.out;unfold maxLen;omega) (by have:=HK.out;have:=HKEY.out;omega) (by have:=HL3.out.size;have:=HB.out;omega) ?_)
 intro v4 w4 hown4 hgrow4 _;have HL4:Hid (Below base w w4):=HL3.out.grown hgrow4 (by have:=HL3.out.size;have:=HB.out;omega) (qH7 HO3.out);have HS4:Hid (St w w4):=HS3.out.grown HO3.out hgrow4;have e1:u8s (xs++qD7 h)=u8s (xs++qB2 2 h.b++qB2 8 h.s)++[.int .u8 x]++Lib.strCells h.key:=by
  rw[zM5,qD7,HX.out];simp[u8s]
 have e2:k+(11+h.key.size)=k+2+8+1+h.key.size:=by omega
 have HE:Hid (w4.ownsRow base 5 1 v4 (k+(11+h.key.size)) (u8s (xs++qD7 h))):=by show World.ownsRow _ _ _ _ _ _ _;rw[e1,e2];simp only[List.append_assoc,List.singleton_append,List.cons_append,List.nil_append] at hown4 ⊢;exact hown4
 clear hown4 hgrow4 e1 e2 c0;go_wp2;go_ret;exact⟨v4,rfl,HE.out,HL4.out,HS4.out⟩
end Go.Proofs.YtdohpenfkdckiabGreatDoor
