import Derived.Test.YtdohpenfkdckiabGreatDoorP07
set_option linter.all false
set_option maxRecDepth 100000
set_option maxHeartbeats 20000000
namespace Go.Proofs.YtdohpenfkdckiabGreatDoor
open Go.Proofs.Tryz
open Go.RowKit
theorem Env.To.store{E:Env}{w W W':World}{k:Nat}{c:Array Value}{t:TypeId}{fr:Nat × Nat}(hT:E.To w W)(hk:w.heap.size≤k)(hh:W.heap[k]?=some (.cells c t fr))(ht:t∈qX0)(hK:Kp [k] W W'):E.To w W':=
 ⟨E.keep W W' [k] hT.dev hK (fun i hi=>by rw[List.mem_singleton.1 hi];exact⟨c,t,fr,hh,ht⟩),hT.kp.trans hK (fun i hi hlt=>by rw[List.mem_singleton.1 hi] at hlt;omega)⟩
theorem qM6{W:World}{k:Nat}{fr:Nat × Nat}(hh:W.heap[k]?=some (.cells qJ3 81 fr)):zE7 W [k]:=fun i hi c t fr' e=>by
 rw[List.mem_singleton.1 hi,hh] at e;cases e;exact .inr ⟨rfl,rfl⟩
theorem qR8{O:qE1}{n:Nat}{w:World}{hs:List HL}{ls:List (Lnk (Tn n))}{cur:Array Value}{off i:Nat}{l:Lnk (Tn n)}(hb:Both (RL O n w) hs ls)(hcur:∀ i (h:i<hs.length),cur[off+i*4]?=some (.string hs[i].key)∧cur[off+i*4+1]?=some (.int .i64 hs[i].b)∧cur[off+i*4+2]?=some (.int .u64 hs[i].s)∧cur[off+i*4+3]?=some (.pointer hs[i].ptr))(h:ls[i]?=some l):
  ∃ x:HL,i<hs.length∧RL O n w x l∧cur[off+i*4]?=some (.string x.key)∧cur[off+i*4+1]?=some (.int .i64 x.b)∧cur[off+i*4+2]?=some (.int .u64 x.s)∧cur[off+i*4+3]?=some (.pointer x.ptr):=by
 obtain⟨hlt,he⟩:=List.getElem?_eq_some_iff.1 h;have hl:i<hs.length:=by rw[hb.1];exact hlt
 have hr:=hb.2 i hl hlt;rw[he] at hr;exact⟨hs[i],hl,hr,hcur i hl⟩
theorem qK0{W:World}{k:Nat}{a b c d:Value}(v0 v1 v2 v3:Value)(h:W.heap[k]?=some (.cells #[a,b,c,d] 81)):
  ((((W.setCell ⟨k,0,none⟩ v0).setCell ⟨k,1,none⟩ v1).setCell ⟨k,2,none⟩ v2).setCell ⟨k,3,none⟩ v3).heap[k]?=some (.cells #[v0,v1,v2,v3] 81)∧Kp [k] W ((((W.setCell ⟨k,0,none⟩ v0).setCell ⟨k,1,none⟩ v1).setCell ⟨k,2,none⟩ v2).setCell ⟨k,3,none⟩ v3):=
 ⟨φ (φ (φ (φ h 0 _) 1 _) 2 _) 3 _,((((Kp.refl _ W).sc _).sc _).sc _).sc _⟩
theorem jH9(E:Env)(lev:Int)(hlev:(0:Int)<lev)(r:HL)(v:Value)(ls:List (Lnk (Tn 0)))(i j k:Nat)(c a b:Lnk (Tn 0))(w:World)(hd:E.Dev w)(hr:RLs E.O 0 w v ls)(hi:ls[i]?=some c)(hll:ls.length≤10000)(hnew:c.ref=none)(hc:cnt 0 c.sub<3)(h2:2≤ls.length)(hj0:ls[j]?=some a)(hk1:ls[k]?=some b)(hk0:k=j+1)(hj:j=min i (ls.length-2))(hJ:(∀ x∈prs a.sub++prs b.sub,ρ x≤21)∧meas ρ (prs a.sub++prs b.sub)≤210):
  Calls prog 132 #[τ E.V r,v,.int .i64 lev,.int .i64 i] w fun e w'=>∃ v',e=.returned v'∧RLs E.O 0 w' v' (qC5 0 ls i)∧E.To w w':=by
 have hm:qC5 0 ls i=ls.take j++qD9 0 a.key a.sub b.sub++ls.drop (j+2):=by
  unfold qC5;rw[hi];simp only[show ¬3≤cnt 0 c.sub from by omega,if_false,←hj];rw[←hk0,hj0,hk1]
 obtain⟨hs,hsl,hb⟩:=hr;have HBL:=zh hb.1;have hhl:hs.length≤10000:=by rw[hb.1];exact hll
 obtain⟨gb,off,cp,cur,fr,rfl,hcp,hrow,hcur⟩:=hsl.link (by rw[hb.1];omega);obtain⟨z,hil,hri,c0,c1,c2,c3⟩:=qR8 hb hcur hi;obtain⟨x,hjl,hrx,d0,d1,d2,d3⟩:=qR8 hb hcur hj0;obtain⟨y,hkl,hry,e0,e1,e2,e3⟩:=qR8 hb hcur hk1;rcases hri.new with⟨_,q,hq1,hq2⟩|⟨hx,_⟩
 ·have hptr:z.ptr=some ⟨q,0,none⟩:=by simp[HL.ptr,hq1]
  rw[hptr] at c3;have HM:=zh hm;have HD:=zh hd;have HB:=zh hb;have HRX:=zh hrx;have HRY:=zh hry;have HSL:=zh hsl;have HQ:=zh hq2;have hgs:=ζ hrow;have a3:=ξ hrow (off+i*4+3);rw[c3] at a3;have hc3:¬(3:Int)≤((cnt 0 c.sub:Nat):Int):=by omega
  have hcn:cnt 0 c.sub≤1000000:=by omega
  have HJV:Hid (j=min i (hs.length-2)):=by show _=_;rw[hb.1];exact hj
  have hll2:2≤hs.length:=by rw[hb.1];exact h2
  have HJ:=zh hJ;have hgw:gb<w.heap.size:=hgs;have HLEV:Hid (((0:Nat):Int)<lev):=by show _<_;omega
  clear hlev hJ hb hsl hri hq2 hcur hd hm hj hrx hry hi hj0 hk1 hq1 hptr c0 c1 c2 hnew h2 hc hll;rw[τ];go_enter func132,ntmps132;go_wp2_with fail;obtain⟨w0,hw0,hB0,hK0⟩:∃ w0,w0=w.alloc (.cells #[.pointer (some ⟨E.V,0,none⟩),.string r.key,.int .i64 r.b,.int .u64 r.s,.pointer r.ptr] 83)∧w0.heap[w.heap.size]?=some (.cells #[.pointer (some ⟨E.V,0,none⟩),.string r.key,.int .i64 r.b,.int .u64 r.s,.pointer r.ptr] 83)∧Kp [] w w0:=⟨_,rfl,μ _ _,(Kp.refl _ _).alloc _⟩;rw[←hw0];clear hw0;refine (qS8 E.O 0 q c.sub w0 (RN.keep hK0 (Apt.nil _ _) 0 q _ HQ.out) hcn).mono ?_;rintro e w1 ⟨rfl,hK1⟩;have hK1':Kp [] w w1:=hK0.tr hK1;have hB1:=hK1.hp hB0;have hrow1:=hK1'.hp hrow;have hT1:=Env.To.of0 HD.out hK1';clear hK1 hK0 hB0 a3 hrow hgs;have hmin:(if (hs.length:Int)-2<(i:Int) then (hs.length:Int)-2 else (i:Int))=(j:Int):=by have:=HJV.out;split<;>omega
  go_wp2_with fail;clear hmin;have hwr:IntKind.i64.wrap ((j:Int)+1)=(k:Int):=by rw[IntKind.wrap_i64];omega
  have HK:=zh hk0;clear hk0 c3;have hS0:w1.heap[gb]?=some (.cells cur 81 fr)∧w1.heap[w.heap.size]?=some (.cells #[.pointer (some ⟨E.V,0,none⟩),.string r.key,.int .i64 r.b,.int .u64 r.s,.pointer r.ptr] 83):=⟨hrow1,hB1⟩;refine wp_region_held_drew (S:=fun W=>W.heap[gb]?=some (.cells cur 81 fr)∧W.heap[w.heap.size]?=some (.cells #[.pointer (some ⟨E.V,0,none⟩),.string r.key,.int .i64 r.b,.int .u64 r.s,.pointer r.ptr] 83)) (by kernel_rfl) hS0 (fun _=>?_);refine zU 0 (.slice (some ⟨gb,off,none⟩) hs.length cp) hS0 ?_;refine zU 1 (.int .i64 j) hS0 ?_;refine zU 2 (.pointer (some ⟨gb,off+j*4,none⟩)) hS0 ?_;refine zV 3 (.agg #[.string x.key,.int .i64 x.b,.int .u64 x.s,.pointer x.ptr]) rfl (fun W hS=>by have a0:=ξ hS.1 (off+j*4);have a1:=ξ hS.1 (off+j*4+1);have a2:=ξ hS.1 (off+j*4+2);have a3:=ξ hS.1 (off+j*4+3);rw[d0] at a0;rw[d1] at a1;rw[d2] at a2;rw[d3] at a3;clear hS;go_simp) hS0 ?_;refine zW 4 (.agg #[.pointer (some ⟨E.V,0,none⟩),.string r.key,.int .i64 r.b,.int .u64 r.s,.pointer r.ptr]) hS0 (·.2) ?_;refine zU 5 (.slice (some ⟨gb,off,none⟩) hs.length cp) hS0 ?_;refine zU 6 (.int .i64 j) hS0 ?_;refine zU 7 (.pointer (some ⟨gb,off+j*4,none⟩)) hS0 ?_;refine zV 8 (.agg #[.string x.key,.int .i64 x.b,.int .u64 x.s,.pointer x.ptr]) rfl (fun W hS=>by have a0:=ξ hS.1 (off+j*4);have a1:=ξ hS.1 (off+j*4+1);have a2:=ξ hS.1 (off+j*4+2);have a3:=ξ hS.1 (off+j*4+3);rw[d0] at a0;rw[d1] at a1;rw[d2] at a2;rw[d3] at a3;clear hS;go_simp) hS0 ?_;refine zU 9 (.int .i64 lev) hS0 ?_;refine zW 11 (.agg #[.pointer (some ⟨E.V,0,none⟩),.string r.key,.int .i64 r.b,.int .u64 r.s,.pointer r.ptr]) hS0 (·.2) ?_;refine zU 12 (.slice (some ⟨gb,off,none⟩) hs.length cp) hS0 ?_;refine zU 13 (.int .i64 j) hS0 ?_;refine zU 14 (.int .i64 k) hS0 ?_;refine zU 15 (.pointer (some ⟨gb,off+k*4,none⟩)) hS0 ?_;refine zV 16 (.agg #[.string y.key,.int .i64 y.b,.int .u64 y.s,.pointer y.ptr]) rfl (fun W hS=>by have a0:=ξ hS.1 (off+k*4);have a1:=ξ hS.1 (off+k*4+1);have a2:=ξ hS.1 (off+k*4+2);have a3:=ξ hS.1 (off+k*4+3);rw[e0] at a0;rw[e1] at a1;rw[e2] at a2;rw[e3] at a3;clear hS;go_simp) hS0 ?_;refine zU 17 (.int .i64 lev) hS0 ?_;have hTd:E.To w w1.drew:=hT1.tail ((Kp.refl _ _).drew);have hs1:w.heap.size<w1.heap.size:=ζ hB1;clear hT1 hK1';refine zr 10 19 (fun K hK=>?_) fun K hK=>?_
  ·go_simp;refine (qK4 E 0 x r a lev w1.drew hTd.dev (Env.RL HRX.out HD.out hTd) HLEV.out).mono ?_;rintro e w2 ⟨q1,rfl,hN1,hTn1⟩;have hT2:=hTd.trans hTn1;have hS2:w2.heap[gb]?=some (.cells cur 81 fr)∧w2.heap[w.heap.size]?=some (.cells #[.pointer (some ⟨E.V,0,none⟩),.string r.key,.int .i64 r.b,.int .u64 r.s,.pointer r.ptr] 83):=⟨hTn1.kp.heap (k:=gb) hrow1 (fun hm=>E.apt _ hTd.dev _ hm _ _ _ hrow1 (by decide)),hTn1.new (k:=w.heap.size) HD.out (Nat.le_refl _) hB1⟩;have hs2:w1.heap.size≤w2.heap.size:=hTn1.kp.size;refine hK.out _ _ hS2 (fun _=>?_);clear hK K
   try simp only[zZ]
   refine zr 18 19 (fun K hK=>?_) fun K hK=>?_
   ·go_simp;refine (qK4 E 0 y r b lev w2 hT2.dev (Env.RL HRY.out HD.out hT2) HLEV.out).mono ?_;rintro e w3 ⟨q2,rfl,hN2,hTn2⟩;have hT3:=hT2.trans hTn2;have hN13:=Env.RN hN1 hT2.dev hTn2;have hS3:w3.heap[gb]?=some (.cells cur 81 fr)∧w3.heap[w.heap.size]?=some (.cells #[.pointer (some ⟨E.V,0,none⟩),.string r.key,.int .i64 r.b,.int .u64 r.s,.pointer r.ptr] 83):=⟨hTn2.kp.heap hS2.1 (fun hm=>E.apt _ hT2.dev _ hm _ _ _ hS2.1 (by decide)),hTn2.new HD.out (Nat.le_refl _) hS2.2⟩;have hs3:w2.heap.size≤w3.heap.size:=hTn2.kp.size;refine hK.out _ _ hS3 (fun _=>?_);clear hK K
    try simp only[zZ]
    refine zq 19 fun K hK=>?_;go_simp;obtain⟨w4,hw4,hLB,hK4⟩:∃ w4,w4=w3.alloc (.cells #[.string ⟨#[]⟩,.int .i64 0,.int .u64 0,.pointer none] 81)∧w4.heap[w3.heap.size]?=some (.cells qJ3 81)∧Kp [] w3 w4:=⟨_,rfl,μ _ _,(Kp.refl _ _).alloc _⟩;rw[←hw4];clear hw4;have hT4:=hT3.tail hK4;have hS4:=And.intro (hK4.hp hS3.1) (hK4.hp hS3.2);have hN14:=RN.keep hK4 (Apt.nil _ _) 0 q1 _ hN13;have hN24:=RN.keep hK4 (Apt.nil _ _) 0 q2 _ hN2;have hlb:w.heap.size<w3.heap.size:=by omega
    refine hK.out _ _ hS4 (fun _=>?_);clear hK K
    try simp only[zZ]
    clear hT3 hN13 hN2 hN1 hTn1 hTn2 hT2 hTd hS3 hS2 hK4;have hlbs:=ζ hLB;have hLX:w4.heap[w3.heap.size]?=some (.cells #[.string ⟨#[]⟩,.int .i64 0,.int .u64 0,.pointer none] 81):=hLB;have z0:=ξ hLX;have fz0:=ψ hLX;refine zq 20 fun K hK=>?_;go_simp;obtain⟨w5,hw5,hL5,hK5⟩:∃ w5,w5=(((w4.setCell ⟨w3.heap.size,0,none⟩ (.string x.key)).setCell ⟨w3.heap.size,1,none⟩ (.int .i64 x.b)).setCell ⟨w3.heap.size,2,none⟩ (.int .u64 x.s)).setCell ⟨w3.heap.size,3,none⟩ (.pointer x.ptr)∧w5.heap[w3.heap.size]?=some (.cells #[.string x.key,.int .i64 x.b,.int .u64 x.s,.pointer x.ptr] 81)∧Kp [w3.heap.size] w4 w5:=
     ⟨_,rfl,(qK0 _ _ _ _ hLX).1,(qK0 _ _ _ _ hLX).2⟩
    rw[←hw5];clear hw5 z0 fz0 hLX;have hT5:=hT4.store (Nat.le_of_lt hlb) hLB (by decide) hK5;have hN15:=RN.keepZ E.pos hK5 (qM6 hLB) 0 q1 _ hN14;have hN25:=RN.keepZ E.pos hK5 (qM6 hLB) 0 q2 _ hN24;have hS5:=And.intro (hK5.ho hS4.1) (hK5.ho hS4.2);refine hK.out _ _ hS5 (fun _=>?_);clear hK K
    try simp only[zZ]
    refine zq 21 fun K hK=>?_;go_simp;refine hK.out _ _ hS5 (fun _=>?_);clear hK K
    try simp only[zZ]
    refine zq 22 fun K hK=>?_;go_simp;refine hK.out _ _ hS5 (fun _=>?_);clear hK K
    try simp only[zZ]
    refine zd ?_;clear hS5 hS4 hS0 hN14 hN24 hT4 hK5 hLB hlbs;obtain⟨va,hqa,hsa⟩:=hN15;obtain⟨vb,hqb,hsb⟩:=hN25;obtain⟨ba,ca,hvba⟩:∃ ba ca,va=.slice ba (prs a.sub).length ca:=by
     rcases hsa.val with⟨h0,b,c,h1,_⟩|⟨g,off,cap,cur,fr,h1,_⟩
     ·rw[h0];exact⟨b,c,h1⟩
     ·exact⟨_,cap,h1⟩
    subst hvba;obtain⟨bb,cb,hvbb⟩:∃ bb cb,vb=.slice bb (prs b.sub).length cb:=by
     rcases hsb.val with⟨h0,b,c,h1,_⟩|⟨g,off,cap,cur,fr,h1,_⟩
     ·rw[h0];exact⟨b,c,h1⟩
     ·exact⟨_,cap,h1⟩
    subst hvbb;have hq1s:=ζ hqa;have y0:=ξ hqa 0;simp only[υ,zG,zH,zI] at y0;go_wp2_with fail;clear y0 hq1s;have hS6:w5.heap[w3.heap.size]?=some (.cells #[.string x.key,.int .i64 x.b,.int .u64 x.s,.pointer x.ptr] 81)∧w5.heap[q1]?=some (υ 0 (.slice ba (prs a.sub).length ca) (.slice none 0 0))∧w5.heap[q2]?=some (υ 0 (.slice bb (prs b.sub).length cb) (.slice none 0 0)):=⟨hL5,hqa,hqb⟩;obtain⟨m,hm2⟩:∃ m,m=j+2:=⟨_,rfl⟩;have hwr2:IntKind.i64.wrap ((j:Int)+2)=(m:Int):=by rw[IntKind.wrap_i64];omega
    have HM2:=zh hm2;clear hm2;refine wp_region_held_drew (S:=fun W=>W.heap[w3.heap.size]?=some (.cells #[.string x.key,.int .i64 x.b,.int .u64 x.s,.pointer x.ptr] 81)∧W.heap[q1]?=some (υ 0 (.slice ba (prs a.sub).length ca) (.slice none 0 0))∧W.heap[q2]?=some (υ 0 (.slice bb (prs b.sub).length cb) (.slice none 0 0))) (by kernel_rfl) hS6 (fun _=>?_);refine zU 0 (.slice (some ⟨gb,off,none⟩) hs.length cp) hS6 ?_;refine zU 1 (.int .i64 j) hS6 ?_;refine zU 2 (.int .i64 j) hS6 ?_;refine zU 3 (.int .i64 m) hS6 ?_;refine zP 4 w3.heap.size 0 hS6 ?_;refine zV 5 (.string x.key) rfl (fun W hS=>by have c:=ξ hS.1 0;simp only[zG,zH] at c;clear hS;go_simp) hS6 ?_;refine zP 6 q1 0 hS6 ?_;refine zP 7 q1 0 hS6 ?_;refine zP 8 q1 1 hS6 ?_;refine zV 9 (.slice ba (prs a.sub).length ca) rfl (fun W hS=>by have c:=ξ hS.2.1 1;simp only[υ,zG,zH,zI] at c;clear hS;go_simp) hS6 ?_;refine zP 10 q2 0 hS6 ?_;refine zP 11 q2 0 hS6 ?_;refine zP 12 q2 1 hS6 ?_;refine zV 13 (.slice bb (prs b.sub).length cb) rfl (fun W hS=>by have c:=ξ hS.2.2 1;simp only[υ,zG,zH,zI] at c;clear hS;go_simp) hS6 ?_;refine zq 14 fun K hK=>?_;go_simp;obtain⟨w6,hw6,hG6,hK6⟩:∃ w6,w6=(w5.alloc (.cells #[.slice ba (prs a.sub).length ca,.slice bb (prs b.sub).length cb] 149)).drew∧w6.heap[w5.heap.size]?=some (.cells #[.slice ba (prs a.sub).length ca,.slice bb (prs b.sub).length cb] 149)∧Kp [] w5 w6:=⟨_,rfl,μ _ _,((Kp.refl _ _).alloc _).drew⟩;rw[←hw6];clear hw6;have hS7:=And.intro (hK6.hp hS6.1) (And.intro (hK6.hp hS6.2.1) (hK6.hp hS6.2.2));have hT6:=hT5.tail hK6;refine hK.out _ _ hS7 (fun _=>?_);clear hK K
    try simp only[zZ]
    refine zq 15 fun K hK=>?_;go_simp;refine (qZ4 w5.heap.size [.slice ba (prs a.sub).length ca,.slice bb (prs b.sub).length cb] [prs a.sub,prs b.sub] w6 hG6 ⟨rfl,fun c h1 h2=>?_⟩ (prs a.sub++prs b.sub) (by simp) (by have:=qG9 ρ (prs a.sub++prs b.sub) (fun x _=>by unfold ρ;omega);have:=HJ.out.2;omega) (by simp)).mono ?_
    ·have hc:c=0∨c=1:=by simp at h1;omega
     rcases hc with rfl|rfl
     ·exact hsa.keep0 hK6
     ·exact hsb.keep0 hK6
    rintro e w7 ⟨v7,rfl,hown7,hK7⟩;have hT7:=hT6.tail hK7;have hS8:=And.intro (hK7.hp hS7.1) (And.intro (hK7.hp hS7.2.1) (hK7.hp hS7.2.2));refine hK.out _ _ hS8 (fun _=>?_);clear hK K
    try simp only[zZ]
    refine zq 16 fun K hK=>?_;go_simp;refine (qS6 E.O x.key v7 (prs a.sub++prs b.sub) w7 (qF7 hown7) (by have:=qG9 ρ (prs a.sub++prs b.sub) (fun x _=>by unfold ρ;omega);have:=HJ.out.2;omega) HJ.out.1 HJ.out.2).mono ?_;rintro e w8 ⟨v8,rfl,hR8,hK8⟩;have hT8:=hT7.tail hK8;have hS9:=And.intro (hK8.hp hS8.1) (And.intro (hK8.hp hS8.2.1) (hK8.hp hS8.2.2));refine hK.out _ _ hS9 (fun _=>?_);clear hK K
    try simp only[zZ]
    refine zq 17 fun K hK=>?_;go_simp;have hkeyj:x.key=a.key:=HRX.out.1;rw[hkeyj] at hR8;have hRj:RLs E.O 0 w8 v8 (qD9 0 a.key a.sub b.sub):=hR8;obtain⟨hs',hsl',hb'⟩:=hRj;have hnb:hs'.length≤10000:=by
     rw[hb'.1];have:(qD9 0 a.key a.sub b.sub).length≤2:=by show (links _ _ _).length≤2;rw[qU5];unfold qB8;split<;>simp
     omega
    have hm3:=HM2.out;have hkj:=HK.out;have HSL8:=HSL.out.keep hT8.kp ((E.apt w HD.out).sub (by decide));refine (qR7 _ v8 hs hs' j m w8 HSL8 hsl' (by omega) (by omega) (by omega) hhl hnb).mono ?_;rintro e w9 ⟨v9,rfl,hs9,hK9⟩;rw[hm3] at hs9;clear hm3 hkj;have hT9:=hT8.tail hK9;have hS10:=And.intro (hK9.hp hS9.1) (And.intro (hK9.hp hS9.2.1) (hK9.hp hS9.2.2));have hb9:Both (RL E.O 0 w9) (hs.take j++hs'++hs.drop (j+2)) (ls.take j++qD9 0 a.key a.sub b.sub++ls.drop (j+2)):=
     (((HB.out.take j).mono fun x y hr=>Env.RL hr HD.out hT9).append (hb'.mono fun x y hr=>RL.keep hr hK9 (Apt.nil _ _))).append ((HB.out.drop (j+2)).mono fun x y hr=>Env.RL hr HD.out hT9)
    refine hK.out _ _ hS10 (fun _=>?_);clear hK K
    try simp only[zZ]
    refine zq 18 fun K hK=>?_;go_simp;refine hK.out _ _ hS10 (fun _=>?_);clear hK K
    try simp only[zZ]
    refine zd ?_;have HR9:Hid (RLs E.O 0 w9 v9 (qC5 0 ls i)):=by
     show RLs E.O 0 w9 v9 (qC5 0 ls i);rw[HM.out];exact⟨_,hs9,hb9⟩
    have HT9:=zh hT9;clear hS10 hs9 hb9 hb' hT9 hR8;go_wp2;go_ret;exact⟨v9,rfl,HR9.out,HT9.out⟩
   ·go_simp;obtain⟨w3,hw3,hLB3,hK3⟩:∃ w3,w3=w2.alloc (.cells #[.string ⟨#[]⟩,.int .i64 0,.int .u64 0,.pointer none] 81)∧w3.heap[w2.heap.size]?=some (.cells qJ3 81)∧Kp [] w2 w3:=⟨_,rfl,μ _ _,(Kp.refl _ _).alloc _⟩;rw[←hw3];clear hw3;have hT3:=hT2.tail hK3;have hS3:=And.intro (hK3.hp hS2.1) (hK3.hp hS2.2);have hN13:=RN.keep hK3 (Apt.nil _ _) 0 q1 _ hN1;have hlb:w.heap.size<w2.heap.size:=by omega
    refine hK.out _ _ hS3 (fun _=>?_);clear hK K
    try simp only[zZ]
    refine zq 18 fun K hK=>?_;go_simp;refine (qK4 E 0 y r b lev w3 hT3.dev (Env.RL HRY.out HD.out hT3) HLEV.out).mono ?_;rintro e w4 ⟨q2,rfl,hN2,hTn2⟩;have hT4:=hT3.trans hTn2;have hN14:=Env.RN hN13 hT3.dev hTn2;have hN24:=hN2;have hLB:=hTn2.new HD.out (Nat.le_of_lt hlb) hLB3;have hS4:w4.heap[gb]?=some (.cells cur 81 fr)∧w4.heap[w.heap.size]?=some (.cells #[.pointer (some ⟨E.V,0,none⟩),.string r.key,.int .i64 r.b,.int .u64 r.s,.pointer r.ptr] 83):=⟨hTn2.kp.heap hS3.1 (fun hm=>E.apt _ hT3.dev _ hm _ _ _ hS3.1 (by decide)),hTn2.new HD.out (Nat.le_refl _) hS3.2⟩;refine hK.out _ _ hS4 (fun _=>?_);clear hK K
    try simp only[zZ]
    clear hT3 hN13 hN2 hN1 hTn1 hTn2 hT2 hTd hS3 hS2 hLB3;have hlbs:=ζ hLB;have hLX:w4.heap[w2.heap.size]?=some (.cells #[.string ⟨#[]⟩,.int .i64 0,.int .u64 0,.pointer none] 81):=hLB;have z0:=ξ hLX;have fz0:=ψ hLX;refine zq 20 fun K hK=>?_;go_simp;obtain⟨w5,hw5,hL5,hK5⟩:∃ w5,w5=(((w4.setCell ⟨w2.heap.size,0,none⟩ (.string x.key)).setCell ⟨w2.heap.size,1,none⟩ (.int .i64 x.b)).setCell ⟨w2.heap.size,2,none⟩ (.int .u64 x.s)).setCell ⟨w2.heap.size,3,none⟩ (.pointer x.ptr)∧w5.heap[w2.heap.size]?=some (.cells #[.string x.key,.int .i64 x.b,.int .u64 x.s,.pointer x.ptr] 81)∧Kp [w2.heap.size] w4 w5:=
     ⟨_,rfl,(qK0 _ _ _ _ hLX).1,(qK0 _ _ _ _ hLX).2⟩
    rw[←hw5];clear hw5 z0 fz0 hLX;have hT5:=hT4.store (Nat.le_of_lt hlb) hLB (by decide) hK5;have hN15:=RN.keepZ E.pos hK5 (qM6 hLB) 0 q1 _ hN14;have hN25:=RN.keepZ E.pos hK5 (qM6 hLB) 0 q2 _ hN24;have hS5:=And.intro (hK5.ho hS4.1) (hK5.ho hS4.2);refine hK.out _ _ hS5 (fun _=>?_);clear hK K
    try simp only[zZ]
    refine zq 21 fun K hK=>?_;go_simp;refine hK.out _ _ hS5 (fun _=>?_);clear hK K
    try simp only[zZ]
    refine zq 22 fun K hK=>?_;go_simp;refine hK.out _ _ hS5 (fun _=>?_);clear hK K
    try simp only[zZ]
    refine zd ?_;clear hS5 hS4 hS0 hN14 hN24 hT4 hK5 hLB hlbs;obtain⟨va,hqa,hsa⟩:=hN15;obtain⟨vb,hqb,hsb⟩:=hN25;obtain⟨ba,ca,hvba⟩:∃ ba ca,va=.slice ba (prs a.sub).length ca:=by
     rcases hsa.val with⟨h0,b,c,h1,_⟩|⟨g,off,cap,cur,fr,h1,_⟩
     ·rw[h0];exact⟨b,c,h1⟩
     ·exact⟨_,cap,h1⟩
    subst hvba;obtain⟨bb,cb,hvbb⟩:∃ bb cb,vb=.slice bb (prs b.sub).length cb:=by
     rcases hsb.val with⟨h0,b,c,h1,_⟩|⟨g,off,cap,cur,fr,h1,_⟩
     ·rw[h0];exact⟨b,c,h1⟩
     ·exact⟨_,cap,h1⟩
    subst hvbb;have hq1s:=ζ hqa;have y0:=ξ hqa 0;simp only[υ,zG,zH,zI] at y0;go_wp2_with fail;clear y0 hq1s;have hS6:w5.heap[w2.heap.size]?=some (.cells #[.string x.key,.int .i64 x.b,.int .u64 x.s,.pointer x.ptr] 81)∧w5.heap[q1]?=some (υ 0 (.slice ba (prs a.sub).length ca) (.slice none 0 0))∧w5.heap[q2]?=some (υ 0 (.slice bb (prs b.sub).length cb) (.slice none 0 0)):=⟨hL5,hqa,hqb⟩;obtain⟨m,hm2⟩:∃ m,m=j+2:=⟨_,rfl⟩;have hwr2:IntKind.i64.wrap ((j:Int)+2)=(m:Int):=by rw[IntKind.wrap_i64];omega
    have HM2:=zh hm2;clear hm2;refine wp_region_held_drew (S:=fun W=>W.heap[w2.heap.size]?=some (.cells #[.string x.key,.int .i64 x.b,.int .u64 x.s,.pointer x.ptr] 81)∧W.heap[q1]?=some (υ 0 (.slice ba (prs a.sub).length ca) (.slice none 0 0))∧W.heap[q2]?=some (υ 0 (.slice bb (prs b.sub).length cb) (.slice none 0 0))) (by kernel_rfl) hS6 (fun _=>?_);refine zU 0 (.slice (some ⟨gb,off,none⟩) hs.length cp) hS6 ?_;refine zU 1 (.int .i64 j) hS6 ?_;refine zU 2 (.int .i64 j) hS6 ?_;refine zU 3 (.int .i64 m) hS6 ?_;refine zP 4 w2.heap.size 0 hS6 ?_;refine zV 5 (.string x.key) rfl (fun W hS=>by have c:=ξ hS.1 0;simp only[zG,zH] at c;clear hS;go_simp) hS6 ?_;refine zP 6 q1 0 hS6 ?_;refine zP 7 q1 0 hS6 ?_;refine zP 8 q1 1 hS6 ?_;refine zV 9 (.slice ba (prs a.sub).length ca) rfl (fun W hS=>by have c:=ξ hS.2.1 1;simp only[υ,zG,zH,zI] at c;clear hS;go_simp) hS6 ?_;refine zP 10 q2 0 hS6 ?_;refine zP 11 q2 0 hS6 ?_;refine zP 12 q2 1 hS6 ?_;refine zV 13 (.slice bb (prs b.sub).length cb) rfl (fun W hS=>by have c:=ξ hS.2.2 1;simp only[υ,zG,zH,zI] at c;clear hS;go_simp) hS6 ?_;refine zq 14 fun K hK=>?_;go_simp;obtain⟨w6,hw6,hG6,hK6⟩:∃ w6,w6=(w5.alloc (.cells #[.slice ba (prs a.sub).length ca,.slice bb (prs b.sub).length cb] 149)).drew∧w6.heap[w5.heap.size]?=some (.cells #[.slice ba (prs a.sub).length ca,.slice bb (prs b.sub).length cb] 149)∧Kp [] w5 w6:=⟨_,rfl,μ _ _,((Kp.refl _ _).alloc _).drew⟩;rw[←hw6];clear hw6;have hS7:=And.intro (hK6.hp hS6.1) (And.intro (hK6.hp hS6.2.1) (hK6.hp hS6.2.2));have hT6:=hT5.tail hK6;refine hK.out _ _ hS7 (fun _=>?_);clear hK K
    try simp only[zZ]
    refine zq 15 fun K hK=>?_;go_simp;refine (qZ4 w5.heap.size [.slice ba (prs a.sub).length ca,.slice bb (prs b.sub).length cb] [prs a.sub,prs b.sub] w6 hG6 ⟨rfl,fun c h1 h2=>?_⟩ (prs a.sub++prs b.sub) (by simp) (by have:=qG9 ρ (prs a.sub++prs b.sub) (fun x _=>by unfold ρ;omega);have:=HJ.out.2;omega) (by simp)).mono ?_
    ·have hc:c=0∨c=1:=by simp at h1;omega
     rcases hc with rfl|rfl
     ·exact hsa.keep0 hK6
     ·exact hsb.keep0 hK6
    rintro e w7 ⟨v7,rfl,hown7,hK7⟩;have hT7:=hT6.tail hK7;have hS8:=And.intro (hK7.hp hS7.1) (And.intro (hK7.hp hS7.2.1) (hK7.hp hS7.2.2));refine hK.out _ _ hS8 (fun _=>?_);clear hK K
    try simp only[zZ]
    refine zq 16 fun K hK=>?_;go_simp;refine (qS6 E.O x.key v7 (prs a.sub++prs b.sub) w7 (qF7 hown7) (by have:=qG9 ρ (prs a.sub++prs b.sub) (fun x _=>by unfold ρ;omega);have:=HJ.out.2;omega) HJ.out.1 HJ.out.2).mono ?_;rintro e w8 ⟨v8,rfl,hR8,hK8⟩;have hT8:=hT7.tail hK8;have hS9:=And.intro (hK8.hp hS8.1) (And.intro (hK8.hp hS8.2.1) (hK8.hp hS8.2.2));refine hK.out _ _ hS9 (fun _=>?_);clear hK K
    try simp only[zZ]
    refine zq 17 fun K hK=>?_;go_simp;have hkeyj:x.key=a.key:=HRX.out.1;rw[hkeyj] at hR8;have hRj:RLs E.O 0 w8 v8 (qD9 0 a.key a.sub b.sub):=hR8;obtain⟨hs',hsl',hb'⟩:=hRj;have hnb:hs'.length≤10000:=by
     rw[hb'.1];have:(qD9 0 a.key a.sub b.sub).length≤2:=by show (links _ _ _).length≤2;rw[qU5];unfold qB8;split<;>simp
     omega
    have hm3:=HM2.out;have hkj:=HK.out;have HSL8:=HSL.out.keep hT8.kp ((E.apt w HD.out).sub (by decide));refine (qR7 _ v8 hs hs' j m w8 HSL8 hsl' (by omega) (by omega) (by omega) hhl hnb).mono ?_;rintro e w9 ⟨v9,rfl,hs9,hK9⟩;rw[hm3] at hs9;clear hm3 hkj;have hT9:=hT8.tail hK9;have hS10:=And.intro (hK9.hp hS9.1) (And.intro (hK9.hp hS9.2.1) (hK9.hp hS9.2.2));have hb9:Both (RL E.O 0 w9) (hs.take j++hs'++hs.drop (j+2)) (ls.take j++qD9 0 a.key a.sub b.sub++ls.drop (j+2)):=
     (((HB.out.take j).mono fun x y hr=>Env.RL hr HD.out hT9).append (hb'.mono fun x y hr=>RL.keep hr hK9 (Apt.nil _ _))).append ((HB.out.drop (j+2)).mono fun x y hr=>Env.RL hr HD.out hT9)
    refine hK.out _ _ hS10 (fun _=>?_);clear hK K
    try simp only[zZ]
    refine zq 18 fun K hK=>?_;go_simp;refine hK.out _ _ hS10 (fun _=>?_);clear hK K
    try simp only[zZ]
    refine zd ?_;have HR9:Hid (RLs E.O 0 w9 v9 (qC5 0 ls i)):=by
     show RLs E.O 0 w9 v9 (qC5 0 ls i);rw[HM.out];exact⟨_,hs9,hb9⟩
    have HT9:=zh hT9;clear hS10 hs9 hb9 hb' hT9 hR8;go_wp2;go_ret;exact⟨v9,rfl,HR9.out,HT9.out⟩
  ·go_simp;obtain⟨w2,hw2,hLB2,hK2⟩:∃ w2,w2=(w1.alloc (.cells #[.string ⟨#[]⟩,.int .i64 0,.int .u64 0,.pointer none] 81)).drew∧w2.heap[w1.heap.size]?=some (.cells qJ3 81)∧Kp [] w1.drew w2:=⟨_,rfl,μ _ _,((Kp.refl _ w1.drew).alloc _)⟩;rw[←hw2];clear hw2;have hT2:=hTd.tail hK2;have hS2:w2.heap[gb]?=some (.cells cur 81 fr)∧w2.heap[w.heap.size]?=some (.cells #[.pointer (some ⟨E.V,0,none⟩),.string r.key,.int .i64 r.b,.int .u64 r.s,.pointer r.ptr] 83):=And.intro (hK2.heap (k:=gb) hrow1 (by simp)) (hK2.heap (k:=w.heap.size) hB1 (by simp));refine hK.out _ _ hS2 (fun _=>?_);clear hK K
   try simp only[zZ]
   refine zq 10 fun K hK=>?_;go_simp;refine (qK4 E 0 x r a lev w2 hT2.dev (Env.RL HRX.out HD.out hT2) HLEV.out).mono ?_;rintro e w3 ⟨q1,rfl,hN1,hTn1⟩;have hT3:=hT2.trans hTn1;have hLB3:=hTn1.new HD.out (Nat.le_of_lt hs1) hLB2;have hS3:w3.heap[gb]?=some (.cells cur 81 fr)∧w3.heap[w.heap.size]?=some (.cells #[.pointer (some ⟨E.V,0,none⟩),.string r.key,.int .i64 r.b,.int .u64 r.s,.pointer r.ptr] 83):=⟨hTn1.kp.heap hS2.1 (fun hm=>E.apt _ hT2.dev _ hm _ _ _ hS2.1 (by decide)),hTn1.new HD.out (Nat.le_refl _) hS2.2⟩;refine hK.out _ _ hS3 (fun _=>?_);clear hK K
   try simp only[zZ]
   refine zq 18 fun K hK=>?_;go_simp;refine (qK4 E 0 y r b lev w3 hT3.dev (Env.RL HRY.out HD.out hT3) HLEV.out).mono ?_;rintro e w4 ⟨q2,rfl,hN2,hTn2⟩;have hT4:=hT3.trans hTn2;have hN14:=Env.RN hN1 hT3.dev hTn2;have hN24:=hN2;have hLB:=hTn2.new HD.out (Nat.le_of_lt hs1) hLB3;have hS4:w4.heap[gb]?=some (.cells cur 81 fr)∧w4.heap[w.heap.size]?=some (.cells #[.pointer (some ⟨E.V,0,none⟩),.string r.key,.int .i64 r.b,.int .u64 r.s,.pointer r.ptr] 83):=⟨hTn2.kp.heap hS3.1 (fun hm=>E.apt _ hT3.dev _ hm _ _ _ hS3.1 (by decide)),hTn2.new HD.out (Nat.le_refl _) hS3.2⟩;have hlb:=hs1;refine hK.out _ _ hS4 (fun _=>?_);clear hK K
   try simp only[zZ]
   clear hT3 hN2 hN1 hTn1 hTn2 hT2 hTd hS3 hS2 hLB3 hLB2;have hlbs:=ζ hLB;have hLX:w4.heap[w1.heap.size]?=some (.cells #[.string ⟨#[]⟩,.int .i64 0,.int .u64 0,.pointer none] 81):=hLB;have z0:=ξ hLX;have fz0:=ψ hLX;refine zq 20 fun K hK=>?_;go_simp;obtain⟨w5,hw5,hL5,hK5⟩:∃ w5,w5=(((w4.setCell ⟨w1.heap.size,0,none⟩ (.string x.key)).setCell ⟨w1.heap.size,1,none⟩ (.int .i64 x.b)).setCell ⟨w1.heap.size,2,none⟩ (.int .u64 x.s)).setCell ⟨w1.heap.size,3,none⟩ (.pointer x.ptr)∧w5.heap[w1.heap.size]?=some (.cells #[.string x.key,.int .i64 x.b,.int .u64 x.s,.pointer x.ptr] 81)∧Kp [w1.heap.size] w4 w5:=
    ⟨_,rfl,(qK0 _ _ _ _ hLX).1,(qK0 _ _ _ _ hLX).2⟩
   rw[←hw5];clear hw5 z0 fz0 hLX;have hT5:=hT4.store (Nat.le_of_lt hlb) hLB (by decide) hK5;have hN15:=RN.keepZ E.pos hK5 (qM6 hLB) 0 q1 _ hN14;have hN25:=RN.keepZ E.pos hK5 (qM6 hLB) 0 q2 _ hN24;have hS5:=And.intro (hK5.ho hS4.1) (hK5.ho hS4.2);refine hK.out _ _ hS5 (fun _=>?_);clear hK K
   try simp only[zZ]
   refine zq 21 fun K hK=>?_;go_simp;refine hK.out _ _ hS5 (fun _=>?_);clear hK K
   try simp only[zZ]
   refine zq 22 fun K hK=>?_;go_simp;refine hK.out _ _ hS5 (fun _=>?_);clear hK K
   try simp only[zZ]
   refine zd ?_;clear hS5 hS4 hS0 hN14 hN24 hT4 hK5 hLB hlbs;obtain⟨va,hqa,hsa⟩:=hN15;obtain⟨vb,hqb,hsb⟩:=hN25;obtain⟨ba,ca,hvba⟩:∃ ba ca,va=.slice ba (prs a.sub).length ca:=by
    rcases hsa.val with⟨h0,b,c,h1,_⟩|⟨g,off,cap,cur,fr,h1,_⟩
    ·rw[h0];exact⟨b,c,h1⟩
    ·exact⟨_,cap,h1⟩
   subst hvba;obtain⟨bb,cb,hvbb⟩:∃ bb cb,vb=.slice bb (prs b.sub).length cb:=by
    rcases hsb.val with⟨h0,b,c,h1,_⟩|⟨g,off,cap,cur,fr,h1,_⟩
    ·rw[h0];exact⟨b,c,h1⟩
    ·exact⟨_,cap,h1⟩
   subst hvbb;have hq1s:=ζ hqa;have y0:=ξ hqa 0;simp only[υ,zG,zH,zI] at y0;go_wp2_with fail;clear y0 hq1s;have hS6:w5.heap[w1.heap.size]?=some (.cells #[.string x.key,.int .i64 x.b,.int .u64 x.s,.pointer x.ptr] 81)∧w5.heap[q1]?=some (υ 0 (.slice ba (prs a.sub).length ca) (.slice none 0 0))∧w5.heap[q2]?=some (υ 0 (.slice bb (prs b.sub).length cb) (.slice none 0 0)):=⟨hL5,hqa,hqb⟩;obtain⟨m,hm2⟩:∃ m,m=j+2:=⟨_,rfl⟩;have hwr2:IntKind.i64.wrap ((j:Int)+2)=(m:Int):=by rw[IntKind.wrap_i64];omega
   have HM2:=zh hm2;clear hm2;refine wp_region_held_drew (S:=fun W=>W.heap[w1.heap.size]?=some (.cells #[.string x.key,.int .i64 x.b,.int .u64 x.s,.pointer x.ptr] 81)∧W.heap[q1]?=some (υ 0 (.slice ba (prs a.sub).length ca) (.slice none 0 0))∧W.heap[q2]?=some (υ 0 (.slice bb (prs b.sub).length cb) (.slice none 0 0))) (by kernel_rfl) hS6 (fun _=>?_);refine zU 0 (.slice (some ⟨gb,off,none⟩) hs.length cp) hS6 ?_;refine zU 1 (.int .i64 j) hS6 ?_;refine zU 2 (.int .i64 j) hS6 ?_;refine zU 3 (.int .i64 m) hS6 ?_;refine zP 4 w1.heap.size 0 hS6 ?_;refine zV 5 (.string x.key) rfl (fun W hS=>by have c:=ξ hS.1 0;simp only[zG,zH] at c;clear hS;go_simp) hS6 ?_;refine zP 6 q1 0 hS6 ?_;refine zP 7 q1 0 hS6 ?_;refine zP 8 q1 1 hS6 ?_;refine zV 9 (.slice ba (prs a.sub).length ca) rfl (fun W hS=>by have c:=ξ hS.2.1 1;simp only[υ,zG,zH,zI] at c;clear hS;go_simp) hS6 ?_;refine zP 10 q2 0 hS6 ?_;refine zP 11 q2 0 hS6 ?_;refine zP 12 q2 1 hS6 ?_;refine zV 13 (.slice bb (prs b.sub).length cb) rfl (fun W hS=>by have c:=ξ hS.2.2 1;simp only[υ,zG,zH,zI] at c;clear hS;go_simp) hS6 ?_;refine zq 14 fun K hK=>?_;go_simp;obtain⟨w6,hw6,hG6,hK6⟩:∃ w6,w6=(w5.alloc (.cells #[.slice ba (prs a.sub).length ca,.slice bb (prs b.sub).length cb] 149)).drew∧w6.heap[w5.heap.size]?=some (.cells #[.slice ba (prs a.sub).length ca,.slice bb (prs b.sub).length cb] 149)∧Kp [] w5 w6:=⟨_,rfl,μ _ _,((Kp.refl _ _).alloc _).drew⟩;rw[←hw6];clear hw6;have hS7:=And.intro (hK6.hp hS6.1) (And.intro (hK6.hp hS6.2.1) (hK6.hp hS6.2.2));have hT6:=hT5.tail hK6;refine hK.out _ _ hS7 (fun _=>?_);clear hK K
   try simp only[zZ]
   refine zq 15 fun K hK=>?_;go_simp;refine (qZ4 w5.heap.size [.slice ba (prs a.sub).length ca,.slice bb (prs b.sub).length cb] [prs a.sub,prs b.sub] w6 hG6 ⟨rfl,fun c h1 h2=>?_⟩ (prs a.sub++prs b.sub) (by simp) (by have:=qG9 ρ (prs a.sub++prs b.sub) (fun x _=>by unfold ρ;omega);have:=HJ.out.2;omega) (by simp)).mono ?_
   ·have hc:c=0∨c=1:=by simp at h1;omega
    rcases hc with rfl|rfl
    ·exact hsa.keep0 hK6
    ·exact hsb.keep0 hK6
   rintro e w7 ⟨v7,rfl,hown7,hK7⟩;have hT7:=hT6.tail hK7;have hS8:=And.intro (hK7.hp hS7.1) (And.intro (hK7.hp hS7.2.1) (hK7.hp hS7.2.2));refine hK.out _ _ hS8 (fun _=>?_);clear hK K
   try simp only[zZ]
   refine zq 16 fun K hK=>?_;go_simp;refine (qS6 E.O x.key v7 (prs a.sub++prs b.sub) w7 (qF7 hown7) (by have:=qG9 ρ (prs a.sub++prs b.sub) (fun x _=>by unfold ρ;omega);have:=HJ.out.2;omega) HJ.out.1 HJ.out.2).mono ?_;rintro e w8 ⟨v8,rfl,hR8,hK8⟩;have hT8:=hT7.tail hK8;have hS9:=And.intro (hK8.hp hS8.1) (And.intro (hK8.hp hS8.2.1) (hK8.hp hS8.2.2));refine hK.out _ _ hS9 (fun _=>?_);clear hK K
   try simp only[zZ]
   refine zq 17 fun K hK=>?_;go_simp;have hkeyj:x.key=a.key:=HRX.out.1;rw[hkeyj] at hR8;have hRj:RLs E.O 0 w8 v8 (qD9 0 a.key a.sub b.sub):=hR8;obtain⟨hs',hsl',hb'⟩:=hRj;have hnb:hs'.length≤10000:=by
    rw[hb'.1];have:(qD9 0 a.key a.sub b.sub).length≤2:=by show (links _ _ _).length≤2;rw[qU5];unfold qB8;split<;>simp
    omega
   have hm3:=HM2.out;have hkj:=HK.out;have HSL8:=HSL.out.keep hT8.kp ((E.apt w HD.out).sub (by decide));refine (qR7 _ v8 hs hs' j m w8 HSL8 hsl' (by omega) (by omega) (by omega) hhl hnb).mono ?_;rintro e w9 ⟨v9,rfl,hs9,hK9⟩;rw[hm3] at hs9;clear hm3 hkj;have hT9:=hT8.tail hK9;have hS10:=And.intro (hK9.hp hS9.1) (And.intro (hK9.hp hS9.2.1) (hK9.hp hS9.2.2));have hb9:Both (RL E.O 0 w9) (hs.take j++hs'++hs.drop (j+2)) (ls.take j++qD9 0 a.key a.sub b.sub++ls.drop (j+2)):=
    (((HB.out.take j).mono fun x y hr=>Env.RL hr HD.out hT9).append (hb'.mono fun x y hr=>RL.keep hr hK9 (Apt.nil _ _))).append ((HB.out.drop (j+2)).mono fun x y hr=>Env.RL hr HD.out hT9)
   refine hK.out _ _ hS10 (fun _=>?_);clear hK K
   try simp only[zZ]
   refine zq 18 fun K hK=>?_;go_simp;refine hK.out _ _ hS10 (fun _=>?_);clear hK K
   try simp only[zZ]
   refine zd ?_;have HR9:Hid (RLs E.O 0 w9 v9 (qC5 0 ls i)):=by
    show RLs E.O 0 w9 v9 (qC5 0 ls i);rw[HM.out];exact⟨_,hs9,hb9⟩
   have HT9:=zh hT9;clear hS10 hs9 hb9 hb' hT9 hR8;go_wp2;go_ret;exact⟨v9,rfl,HR9.out,HT9.out⟩
 ·rw[hnew] at hx;cases hx
theorem jH8(E:Env)(n:Nat)(lev:Int)(hlev:((n+1):Int)<lev)(r:HL)(v:Value)(ls:List (Lnk (Tn (n+1))))(i j k:Nat)(c a b:Lnk (Tn (n+1)))(w:World)(hd:E.Dev w)(hr:RLs E.O (n+1) w v ls)(hi:ls[i]?=some c)(hll:ls.length≤10000)(hnew:c.ref=none)(hc:cnt (n+1) c.sub<3)(h2:2≤ls.length)(hj0:ls[j]?=some a)(hk1:ls[k]?=some b)(hk0:k=j+1)(hj:j=min i (ls.length-2))(hJ:(∀ x∈η a.sub++η b.sub,qA4 x≤21)∧meas qA4 (η a.sub++η b.sub)≤210)(hn:n≤100000):
  Calls prog 132 #[τ E.V r,v,.int .i64 lev,.int .i64 i] w fun e w'=>∃ v',e=.returned v'∧RLs E.O (n+1) w' v' (qC5 (n+1) ls i)∧E.To w w':=by
 have hm:qC5 (n+1) ls i=ls.take j++qD9 (n+1) a.key a.sub b.sub++ls.drop (j+2):=by
  unfold qC5;rw[hi];simp only[show ¬3≤cnt (n+1) c.sub from by omega,if_false,←hj];rw[←hk0,hj0,hk1]
 obtain⟨hs,hsl,hb⟩:=hr;have HBL:=zh hb.1;have hhl:hs.length≤10000:=by rw[hb.1];exact hll
 obtain⟨gb,off,cp,cur,fr,rfl,hcp,hrow,hcur⟩:=hsl.link (by rw[hb.1];omega);obtain⟨z,hil,hri,c0,c1,c2,c3⟩:=qR8 hb hcur hi;obtain⟨x,hjl,hrx,d0,d1,d2,d3⟩:=qR8 hb hcur hj0;obtain⟨y,hkl,hry,e0,e1,e2,e3⟩:=qR8 hb hcur hk1;rcases hri.new with⟨_,q,hq1,hq2⟩|⟨hx,_⟩
 ·have hptr:z.ptr=some ⟨q,0,none⟩:=by simp[HL.ptr,hq1]
  rw[hptr] at c3;have HM:=zh hm;have HD:=zh hd;have HB:=zh hb;have HRX:=zh hrx;have HRY:=zh hry;have HSL:=zh hsl;have HQ:=zh hq2;have hgs:=ζ hrow;have a3:=ξ hrow (off+i*4+3);rw[c3] at a3;have hc3:¬(3:Int)≤((cnt (n+1) c.sub:Nat):Int):=by omega
  have hcn:cnt (n+1) c.sub≤1000000:=by omega
  have HJV:Hid (j=min i (hs.length-2)):=by show _=_;rw[hb.1];exact hj
  have hll2:2≤hs.length:=by rw[hb.1];exact h2
  have HJ:=zh hJ;have hgw:gb<w.heap.size:=hgs;have HLEV:Hid ((((n+1):Nat):Int)<lev):=by show _<_;omega
  clear hlev hJ hb hsl hri hq2 hcur hd hm hj hrx hry hi hj0 hk1 hq1 hptr c0 c1 c2 hnew h2 hc hll;rw[τ];go_enter func132,ntmps132;go_wp2_with fail;obtain⟨w0,hw0,hB0,hK0⟩:∃ w0,w0=w.alloc (.cells #[.pointer (some ⟨E.V,0,none⟩),.string r.key,.int .i64 r.b,.int .u64 r.s,.pointer r.ptr] 83)∧w0.heap[w.heap.size]?=some (.cells #[.pointer (some ⟨E.V,0,none⟩),.string r.key,.int .i64 r.b,.int .u64 r.s,.pointer r.ptr] 83)∧Kp [] w w0:=⟨_,rfl,μ _ _,(Kp.refl _ _).alloc _⟩;rw[←hw0];clear hw0;refine (qS8 E.O (n+1) q c.sub w0 (RN.keep hK0 (Apt.nil _ _) (n+1) q _ HQ.out) hcn).mono ?_;rintro e w1 ⟨rfl,hK1⟩;have hK1':Kp [] w w1:=hK0.tr hK1;have hB1:=hK1.hp hB0;have hrow1:=hK1'.hp hrow;have hT1:=Env.To.of0 HD.out hK1';clear hK1 hK0 hB0 a3 hrow hgs;have hmin:(if (hs.length:Int)-2<(i:Int) then (hs.length:Int)-2 else (i:Int))=(j:Int):=by have:=HJV.out;split<;>omega
  go_wp2_with fail;clear hmin;have hwr:IntKind.i64.wrap ((j:Int)+1)=(k:Int):=by rw[IntKind.wrap_i64];omega
  have HK:=zh hk0;clear hk0 c3;have hS0:w1.heap[gb]?=some (.cells cur 81 fr)∧w1.heap[w.heap.size]?=some (.cells #[.pointer (some ⟨E.V,0,none⟩),.string r.key,.int .i64 r.b,.int .u64 r.s,.pointer r.ptr] 83):=⟨hrow1,hB1⟩;refine wp_region_held_drew (S:=fun W=>W.heap[gb]?=some (.cells cur 81 fr)∧W.heap[w.heap.size]?=some (.cells #[.pointer (some ⟨E.V,0,none⟩),.string r.key,.int .i64 r.b,.int .u64 r.s,.pointer r.ptr] 83)) (by kernel_rfl) hS0 (fun _=>?_);refine zU 0 (.slice (some ⟨gb,off,none⟩) hs.length cp) hS0 ?_;refine zU 1 (.int .i64 j) hS0 ?_;refine zU 2 (.pointer (some ⟨gb,off+j*4,none⟩)) hS0 ?_;refine zV 3 (.agg #[.string x.key,.int .i64 x.b,.int .u64 x.s,.pointer x.ptr]) rfl (fun W hS=>by have a0:=ξ hS.1 (off+j*4);have a1:=ξ hS.1 (off+j*4+1);have a2:=ξ hS.1 (off+j*4+2);have a3:=ξ hS.1 (off+j*4+3);rw[d0] at a0;rw[d1] at a1;rw[d2] at a2;rw[d3] at a3;clear hS;go_simp) hS0 ?_;refine zW 4 (.agg #[.pointer (some ⟨E.V,0,none⟩),.string r.key,.int .i64 r.b,.int .u64 r.s,.pointer r.ptr]) hS0 (·.2) ?_;refine zU 5 (.slice (some ⟨gb,off,none⟩) hs.length cp) hS0 ?_;refine zU 6 (.int .i64 j) hS0 ?_;refine zU 7 (.pointer (some ⟨gb,off+j*4,none⟩)) hS0 ?_;refine zV 8 (.agg #[.string x.key,.int .i64 x.b,.int .u64 x.s,.pointer x.ptr]) rfl (fun W hS=>by have a0:=ξ hS.1 (off+j*4);have a1:=ξ hS.1 (off+j*4+1);have a2:=ξ hS.1 (off+j*4+2);have a3:=ξ hS.1 (off+j*4+3);rw[d0] at a0;rw[d1] at a1;rw[d2] at a2;rw[d3] at a3;clear hS;go_simp) hS0 ?_;refine zU 9 (.int .i64 lev) hS0 ?_;refine zW 11 (.agg #[.pointer (some ⟨E.V,0,none⟩),.string r.key,.int .i64 r.b,.int .u64 r.s,.pointer r.ptr]) hS0 (·.2) ?_;refine zU 12 (.slice (some ⟨gb,off,none⟩) hs.length cp) hS0 ?_;refine zU 13 (.int .i64 j) hS0 ?_;refine zU 14 (.int .i64 k) hS0 ?_;refine zU 15 (.pointer (some ⟨gb,off+k*4,none⟩)) hS0 ?_;refine zV 16 (.agg #[.string y.key,.int .i64 y.b,.int .u64 y.s,.pointer y.ptr]) rfl (fun W hS=>by have a0:=ξ hS.1 (off+k*4);have a1:=ξ hS.1 (off+k*4+1);have a2:=ξ hS.1 (off+k*4+2);have a3:=ξ hS.1 (off+k*4+3);rw[e0] at a0;rw[e1] at a1;rw[e2] at a2;rw[e3] at a3;clear hS;go_simp) hS0 ?_;refine zU 17 (.int .i64 lev) hS0 ?_;have hTd:E.To w w1.drew:=hT1.tail ((Kp.refl _ _).drew);have hs1:w.heap.size<w1.heap.size:=ζ hB1;clear hT1 hK1';refine zr 10 19 (fun K hK=>?_) fun K hK=>?_
  ·go_simp;refine (qK4 E (n+1) x r a lev w1.drew hTd.dev (Env.RL HRX.out HD.out hTd) HLEV.out).mono ?_;rintro e w2 ⟨q1,rfl,hN1,hTn1⟩;have hT2:=hTd.trans hTn1;have hS2:w2.heap[gb]?=some (.cells cur 81 fr)∧w2.heap[w.heap.size]?=some (.cells #[.pointer (some ⟨E.V,0,none⟩),.string r.key,.int .i64 r.b,.int .u64 r.s,.pointer r.ptr] 83):=⟨hTn1.kp.heap (k:=gb) hrow1 (fun hm=>E.apt _ hTd.dev _ hm _ _ _ hrow1 (by decide)),hTn1.new (k:=w.heap.size) HD.out (Nat.le_refl _) hB1⟩;have hs2:w1.heap.size≤w2.heap.size:=hTn1.kp.size;refine hK.out _ _ hS2 (fun _=>?_);clear hK K
   try simp only[zZ]
   refine zr 18 19 (fun K hK=>?_) fun K hK=>?_
   ·go_simp;refine (qK4 E (n+1) y r b lev w2 hT2.dev (Env.RL HRY.out HD.out hT2) HLEV.out).mono ?_;rintro e w3 ⟨q2,rfl,hN2,hTn2⟩;have hT3:=hT2.trans hTn2;have hN13:=Env.RN hN1 hT2.dev hTn2;have hS3:w3.heap[gb]?=some (.cells cur 81 fr)∧w3.heap[w.heap.size]?=some (.cells #[.pointer (some ⟨E.V,0,none⟩),.string r.key,.int .i64 r.b,.int .u64 r.s,.pointer r.ptr] 83):=⟨hTn2.kp.heap hS2.1 (fun hm=>E.apt _ hT2.dev _ hm _ _ _ hS2.1 (by decide)),hTn2.new HD.out (Nat.le_refl _) hS2.2⟩;have hs3:w2.heap.size≤w3.heap.size:=hTn2.kp.size;refine hK.out _ _ hS3 (fun _=>?_);clear hK K
    try simp only[zZ]
    refine zq 19 fun K hK=>?_;go_simp;obtain⟨w4,hw4,hLB,hK4⟩:∃ w4,w4=w3.alloc (.cells #[.string ⟨#[]⟩,.int .i64 0,.int .u64 0,.pointer none] 81)∧w4.heap[w3.heap.size]?=some (.cells qJ3 81)∧Kp [] w3 w4:=⟨_,rfl,μ _ _,(Kp.refl _ _).alloc _⟩;rw[←hw4];clear hw4;have hT4:=hT3.tail hK4;have hS4:=And.intro (hK4.hp hS3.1) (hK4.hp hS3.2);have hN14:=RN.keep hK4 (Apt.nil _ _) (n+1) q1 _ hN13;have hN24:=RN.keep hK4 (Apt.nil _ _) (n+1) q2 _ hN2;have hlb:w.heap.size<w3.heap.size:=by omega
    refine hK.out _ _ hS4 (fun _=>?_);clear hK K
    try simp only[zZ]
    clear hT3 hN13 hN2 hN1 hTn1 hTn2 hT2 hTd hS3 hS2 hK4;have hlbs:=ζ hLB;have hLX:w4.heap[w3.heap.size]?=some (.cells #[.string ⟨#[]⟩,.int .i64 0,.int .u64 0,.pointer none] 81):=hLB;have z0:=ξ hLX;have fz0:=ψ hLX;refine zq 20 fun K hK=>?_;go_simp;obtain⟨w5,hw5,hL5,hK5⟩:∃ w5,w5=(((w4.setCell ⟨w3.heap.size,0,none⟩ (.string x.key)).setCell ⟨w3.heap.size,1,none⟩ (.int .i64 x.b)).setCell ⟨w3.heap.size,2,none⟩ (.int .u64 x.s)).setCell ⟨w3.heap.size,3,none⟩ (.pointer x.ptr)∧w5.heap[w3.heap.size]?=some (.cells #[.string x.key,.int .i64 x.b,.int .u64 x.s,.pointer x.ptr] 81)∧Kp [w3.heap.size] w4 w5:=
     ⟨_,rfl,(qK0 _ _ _ _ hLX).1,(qK0 _ _ _ _ hLX).2⟩
    rw[←hw5];clear hw5 z0 fz0 hLX;have hT5:=hT4.store (Nat.le_of_lt hlb) hLB (by decide) hK5;have hN15:=RN.keepZ E.pos hK5 (qM6 hLB) (n+1) q1 _ hN14;have hN25:=RN.keepZ E.pos hK5 (qM6 hLB) (n+1) q2 _ hN24;have hS5:=And.intro (hK5.ho hS4.1) (hK5.ho hS4.2);refine hK.out _ _ hS5 (fun _=>?_);clear hK K
    try simp only[zZ]
    refine zq 21 fun K hK=>?_;go_simp;refine hK.out _ _ hS5 (fun _=>?_);clear hK K
    try simp only[zZ]
    refine zq 22 fun K hK=>?_;go_simp;refine hK.out _ _ hS5 (fun _=>?_);clear hK K
    try simp only[zZ]
    refine zd ?_;clear hS5 hS4 hS0 hN14 hN24 hT4 hK5 hLB hlbs;obtain⟨va,hqa,ha,hsa,hba⟩:=hN15;obtain⟨vb,hqb,hb,hsb,hbb⟩:=hN25;obtain⟨lv,hlv⟩:∃ lv:Int,((n+1:Nat):Int)=lv:=⟨_,rfl⟩;rw[hlv] at hqa hqb;have hlv0:¬lv=0:=by omega
    have HLV:=zh hlv.symm;have HLA:=zh hba.1;have HLB2:=zh hbb.1;clear hlv;obtain⟨ba,ca,hvba⟩:∃ ba ca,va=.slice ba ha.length ca:=by
     rcases hsa.val with⟨h0,b,c,h1,_⟩|⟨g,off,cap,cur,fr,h1,_⟩
     ·rw[h0];exact⟨b,c,h1⟩
     ·exact⟨_,cap,h1⟩
    subst hvba;obtain⟨bb,cb,hvbb⟩:∃ bb cb,vb=.slice bb hb.length cb:=by
     rcases hsb.val with⟨h0,b,c,h1,_⟩|⟨g,off,cap,cur,fr,h1,_⟩
     ·rw[h0];exact⟨b,c,h1⟩
     ·exact⟨_,cap,h1⟩
    subst hvbb;have hq1s:=ζ hqa;have y0:=ξ hqa 0;simp only[υ,zG,zH,zI] at y0;go_wp2_with fail;clear y0 hq1s;have hS6:w5.heap[w3.heap.size]?=some (.cells #[.string x.key,.int .i64 x.b,.int .u64 x.s,.pointer x.ptr] 81)∧w5.heap[q1]?=some (υ lv (.slice none 0 0) (.slice ba ha.length ca))∧w5.heap[q2]?=some (υ lv (.slice none 0 0) (.slice bb hb.length cb)):=⟨hL5,hqa,hqb⟩;obtain⟨m,hm2⟩:∃ m,m=j+2:=⟨_,rfl⟩;have hwr2:IntKind.i64.wrap ((j:Int)+2)=(m:Int):=by rw[IntKind.wrap_i64];omega
    have HM2:=zh hm2;clear hm2;refine wp_region_held_drew (S:=fun W=>W.heap[w3.heap.size]?=some (.cells #[.string x.key,.int .i64 x.b,.int .u64 x.s,.pointer x.ptr] 81)∧W.heap[q1]?=some (υ lv (.slice none 0 0) (.slice ba ha.length ca))∧W.heap[q2]?=some (υ lv (.slice none 0 0) (.slice bb hb.length cb))) (by kernel_rfl) hS6 (fun _=>?_);refine zU 0 (.slice (some ⟨gb,off,none⟩) hs.length cp) hS6 ?_;refine zU 1 (.int .i64 j) hS6 ?_;refine zU 2 (.int .i64 j) hS6 ?_;refine zU 3 (.int .i64 m) hS6 ?_;refine zP 4 w3.heap.size 0 hS6 ?_;refine zV 5 (.string x.key) rfl (fun W hS=>by have c:=ξ hS.1 0;simp only[zG,zH] at c;clear hS;go_simp) hS6 ?_;refine zP 6 q1 0 hS6 ?_;refine zP 7 q1 0 hS6 ?_;refine zP 8 q1 0 hS6 ?_;refine zV 9 (.int .i64 lv) rfl (fun W hS=>by have c:=ξ hS.2.1 0;simp only[υ,zG,zH,zI] at c;clear hS;go_simp) hS6 ?_;refine zP 10 q1 0 hS6 ?_;refine zP 11 q1 0 hS6 ?_;refine zP 12 q1 2 hS6 ?_;refine zV 13 (.slice ba ha.length ca) rfl (fun W hS=>by have c:=ξ hS.2.1 2;simp only[υ,zG,zH,zI] at c;clear hS;go_simp) hS6 ?_;refine zP 14 q2 0 hS6 ?_;refine zP 15 q2 0 hS6 ?_;refine zP 16 q2 2 hS6 ?_;refine zV 17 (.slice bb hb.length cb) rfl (fun W hS=>by have c:=ξ hS.2.2 2;simp only[υ,zG,zH,zI] at c;clear hS;go_simp) hS6 ?_;refine zq 18 fun K hK=>?_;go_simp;obtain⟨w6,hw6,hG6,hK6⟩:∃ w6,w6=(w5.alloc (.cells #[.slice ba ha.length ca,.slice bb hb.length cb] 150)).drew∧w6.heap[w5.heap.size]?=some (.cells #[.slice ba ha.length ca,.slice bb hb.length cb] 150)∧Kp [] w5 w6:=⟨_,rfl,μ _ _,((Kp.refl _ _).alloc _).drew⟩;rw[←hw6];clear hw6;have hS7:=And.intro (hK6.hp hS6.1) (And.intro (hK6.hp hS6.2.1) (hK6.hp hS6.2.2));have hT6:=hT5.tail hK6;refine hK.out _ _ hS7 (fun _=>?_);clear hK K
    try simp only[zZ]
    refine zq 19 fun K hK=>?_;go_simp;have hab:Both (RL E.O n w5) (ha++hb) (η a.sub++η b.sub):=hba.append hbb;have hlen:(ha++hb).length≤1000000:=by rw[hab.1];have:=qG9 qA4 (η a.sub++η b.sub) (fun x _=>by unfold qA4;omega);have:=HJ.out.2;omega
    refine (qZ3 w5.heap.size [.slice ba ha.length ca,.slice bb hb.length cb] [ha,hb] w6 hG6 ⟨rfl,fun c h1 h2=>?_⟩ (ha++hb) (by simp) hlen (by simp)).mono ?_
    ·have hc:c=0∨c=1:=by simp at h1;omega
     rcases hc with rfl|rfl
     ·exact hsa.keep0 hK6
     ·exact hsb.keep0 hK6
    rintro e w7 ⟨v7,rfl,hown7,hK7⟩;have hT7:=hT6.tail hK7;have hS8:=And.intro (hK7.hp hS7.1) (And.intro (hK7.hp hS7.2.1) (hK7.hp hS7.2.2));refine hK.out _ _ hS8 (fun _=>?_);clear hK K
    try simp only[zZ]
    refine zq 20 fun K hK=>?_;go_simp;have hR7:RLs E.O n w7 v7 (η a.sub++η b.sub):=⟨ha++hb,qF7 hown7,hab.mono fun x y hr=>RL.keep hr (hK6.tr hK7) (Apt.nil _ _)⟩;refine (qT5 E.O n lv HLV.out x.key v7 (η a.sub++η b.sub) w7 hR7 (by have:=qG9 qA4 (η a.sub++η b.sub) (fun x _=>by unfold qA4;omega);have:=HJ.out.2;omega) HJ.out.1 HJ.out.2).mono ?_;rintro e w8 ⟨v8,rfl,hR8,hK8⟩;have hT8:=hT7.tail hK8;have hS9:=And.intro (hK8.hp hS8.1) (And.intro (hK8.hp hS8.2.1) (hK8.hp hS8.2.2));refine hK.out _ _ hS9 (fun _=>?_);clear hK K
    try simp only[zZ]
    refine zq 21 fun K hK=>?_;go_simp;have hkeyj:x.key=a.key:=HRX.out.1;rw[hkeyj] at hR8;have hRj:RLs E.O (n+1) w8 v8 (qD9 (n+1) a.key a.sub b.sub):=hR8;obtain⟨hs',hsl',hb'⟩:=hRj;have hnb:hs'.length≤10000:=by
     rw[hb'.1];have:(qD9 (n+1) a.key a.sub b.sub).length≤2:=by show (links _ _ _).length≤2;rw[qU5];unfold qB8;split<;>simp
     omega
    have hm3:=HM2.out;have hkj:=HK.out;have HSL8:=HSL.out.keep hT8.kp ((E.apt w HD.out).sub (by decide));refine (qR7 _ v8 hs hs' j m w8 HSL8 hsl' (by omega) (by omega) (by omega) hhl hnb).mono ?_;rintro e w9 ⟨v9,rfl,hs9,hK9⟩;rw[hm3] at hs9;clear hm3 hkj;have hT9:=hT8.tail hK9;have hS10:=And.intro (hK9.hp hS9.1) (And.intro (hK9.hp hS9.2.1) (hK9.hp hS9.2.2));have hb9:Both (RL E.O (n+1) w9) (hs.take j++hs'++hs.drop (j+2)) (ls.take j++qD9 (n+1) a.key a.sub b.sub++ls.drop (j+2)):=
     (((HB.out.take j).mono fun x y hr=>Env.RL hr HD.out hT9).append (hb'.mono fun x y hr=>RL.keep hr hK9 (Apt.nil _ _))).append ((HB.out.drop (j+2)).mono fun x y hr=>Env.RL hr HD.out hT9)
    refine hK.out _ _ hS10 (fun _=>?_);clear hK K
    try simp only[zZ]
    refine zq 22 fun K hK=>?_;go_simp;refine hK.out _ _ hS10 (fun _=>?_);clear hK K
    try simp only[zZ]
    refine zd ?_;have HR9:Hid (RLs E.O (n+1) w9 v9 (qC5 (n+1) ls i)):=by
     show RLs E.O (n+1) w9 v9 (qC5 (n+1) ls i);rw[HM.out];exact⟨_,hs9,hb9⟩
    have HT9:=zh hT9;clear hS10 hs9 hb9 hb' hT9 hR8;go_wp2;go_ret;exact⟨v9,rfl,HR9.out,HT9.out⟩
   ·go_simp;obtain⟨w3,hw3,hLB3,hK3⟩:∃ w3,w3=w2.alloc (.cells #[.string ⟨#[]⟩,.int .i64 0,.int .u64 0,.pointer none] 81)∧w3.heap[w2.heap.size]?=some (.cells qJ3 81)∧Kp [] w2 w3:=⟨_,rfl,μ _ _,(Kp.refl _ _).alloc _⟩;rw[←hw3];clear hw3;have hT3:=hT2.tail hK3;have hS3:=And.intro (hK3.hp hS2.1) (hK3.hp hS2.2);have hN13:=RN.keep hK3 (Apt.nil _ _) (n+1) q1 _ hN1;have hlb:w.heap.size<w2.heap.size:=by omega
    refine hK.out _ _ hS3 (fun _=>?_);clear hK K
    try simp only[zZ]
    refine zq 18 fun K hK=>?_;go_simp;refine (qK4 E (n+1) y r b lev w3 hT3.dev (Env.RL HRY.out HD.out hT3) HLEV.out).mono ?_;rintro e w4 ⟨q2,rfl,hN2,hTn2⟩;have hT4:=hT3.trans hTn2;have hN14:=Env.RN hN13 hT3.dev hTn2;have hN24:=hN2;have hLB:=hTn2.new HD.out (Nat.le_of_lt hlb) hLB3;have hS4:w4.heap[gb]?=some (.cells cur 81 fr)∧w4.heap[w.heap.size]?=some (.cells #[.pointer (some ⟨E.V,0,none⟩),.string r.key,.int .i64 r.b,.int .u64 r.s,.pointer r.ptr] 83):=⟨hTn2.kp.heap hS3.1 (fun hm=>E.apt _ hT3.dev _ hm _ _ _ hS3.1 (by decide)),hTn2.new HD.out (Nat.le_refl _) hS3.2⟩;refine hK.out _ _ hS4 (fun _=>?_);clear hK K
    try simp only[zZ]
    clear hT3 hN13 hN2 hN1 hTn1 hTn2 hT2 hTd hS3 hS2 hLB3;have hlbs:=ζ hLB;have hLX:w4.heap[w2.heap.size]?=some (.cells #[.string ⟨#[]⟩,.int .i64 0,.int .u64 0,.pointer none] 81):=hLB;have z0:=ξ hLX;have fz0:=ψ hLX;refine zq 20 fun K hK=>?_;go_simp;obtain⟨w5,hw5,hL5,hK5⟩:∃ w5,w5=(((w4.setCell ⟨w2.heap.size,0,none⟩ (.string x.key)).setCell ⟨w2.heap.size,1,none⟩ (.int .i64 x.b)).setCell ⟨w2.heap.size,2,none⟩ (.int .u64 x.s)).setCell ⟨w2.heap.size,3,none⟩ (.pointer x.ptr)∧w5.heap[w2.heap.size]?=some (.cells #[.string x.key,.int .i64 x.b,.int .u64 x.s,.pointer x.ptr] 81)∧Kp [w2.heap.size] w4 w5:=
     ⟨_,rfl,(qK0 _ _ _ _ hLX).1,(qK0 _ _ _ _ hLX).2⟩
    rw[←hw5];clear hw5 z0 fz0 hLX;have hT5:=hT4.store (Nat.le_of_lt hlb) hLB (by decide) hK5;have hN15:=RN.keepZ E.pos hK5 (qM6 hLB) (n+1) q1 _ hN14;have hN25:=RN.keepZ E.pos hK5 (qM6 hLB) (n+1) q2 _ hN24;have hS5:=And.intro (hK5.ho hS4.1) (hK5.ho hS4.2);refine hK.out _ _ hS5 (fun _=>?_);clear hK K
    try simp only[zZ]
    refine zq 21 fun K hK=>?_;go_simp;refine hK.out _ _ hS5 (fun _=>?_);clear hK K
    try simp only[zZ]
    refine zq 22 fun K hK=>?_;go_simp;refine hK.out _ _ hS5 (fun _=>?_);clear hK K
    try simp only[zZ]
    refine zd ?_;clear hS5 hS4 hS0 hN14 hN24 hT4 hK5 hLB hlbs;obtain⟨va,hqa,ha,hsa,hba⟩:=hN15;obtain⟨vb,hqb,hb,hsb,hbb⟩:=hN25;obtain⟨lv,hlv⟩:∃ lv:Int,((n+1:Nat):Int)=lv:=⟨_,rfl⟩;rw[hlv] at hqa hqb;have hlv0:¬lv=0:=by omega
    have HLV:=zh hlv.symm;have HLA:=zh hba.1;have HLB2:=zh hbb.1;clear hlv;obtain⟨ba,ca,hvba⟩:∃ ba ca,va=.slice ba ha.length ca:=by
     rcases hsa.val with⟨h0,b,c,h1,_⟩|⟨g,off,cap,cur,fr,h1,_⟩
     ·rw[h0];exact⟨b,c,h1⟩
     ·exact⟨_,cap,h1⟩
    subst hvba;obtain⟨bb,cb,hvbb⟩:∃ bb cb,vb=.slice bb hb.length cb:=by
     rcases hsb.val with⟨h0,b,c,h1,_⟩|⟨g,off,cap,cur,fr,h1,_⟩
     ·rw[h0];exact⟨b,c,h1⟩
     ·exact⟨_,cap,h1⟩
    subst hvbb;have hq1s:=ζ hqa;have y0:=ξ hqa 0;simp only[υ,zG,zH,zI] at y0;go_wp2_with fail;clear y0 hq1s;have hS6:w5.heap[w2.heap.size]?=some (.cells #[.string x.key,.int .i64 x.b,.int .u64 x.s,.pointer x.ptr] 81)∧w5.heap[q1]?=some (υ lv (.slice none 0 0) (.slice ba ha.length ca))∧w5.heap[q2]?=some (υ lv (.slice none 0 0) (.slice bb hb.length cb)):=⟨hL5,hqa,hqb⟩;obtain⟨m,hm2⟩:∃ m,m=j+2:=⟨_,rfl⟩;have hwr2:IntKind.i64.wrap ((j:Int)+2)=(m:Int):=by rw[IntKind.wrap_i64];omega
    have HM2:=zh hm2;clear hm2;refine wp_region_held_drew (S:=fun W=>W.heap[w2.heap.size]?=some (.cells #[.string x.key,.int .i64 x.b,.int .u64 x.s,.pointer x.ptr] 81)∧W.heap[q1]?=some (υ lv (.slice none 0 0) (.slice ba ha.length ca))∧W.heap[q2]?=some (υ lv (.slice none 0 0) (.slice bb hb.length cb))) (by kernel_rfl) hS6 (fun _=>?_);refine zU 0 (.slice (some ⟨gb,off,none⟩) hs.length cp) hS6 ?_;refine zU 1 (.int .i64 j) hS6 ?_;refine zU 2 (.int .i64 j) hS6 ?_;refine zU 3 (.int .i64 m) hS6 ?_;refine zP 4 w2.heap.size 0 hS6 ?_;refine zV 5 (.string x.key) rfl (fun W hS=>by have c:=ξ hS.1 0;simp only[zG,zH] at c;clear hS;go_simp) hS6 ?_;refine zP 6 q1 0 hS6 ?_;refine zP 7 q1 0 hS6 ?_;refine zP 8 q1 0 hS6 ?_;refine zV 9 (.int .i64 lv) rfl (fun W hS=>by have c:=ξ hS.2.1 0;simp only[υ,zG,zH,zI] at c;clear hS;go_simp) hS6 ?_;refine zP 10 q1 0 hS6 ?_;refine zP 11 q1 0 hS6 ?_;refine zP 12 q1 2 hS6 ?_;refine zV 13 (.slice ba ha.length ca) rfl (fun W hS=>by have c:=ξ hS.2.1 2;simp only[υ,zG,zH,zI] at c;clear hS;go_simp) hS6 ?_;refine zP 14 q2 0 hS6 ?_;refine zP 15 q2 0 hS6 ?_;refine zP 16 q2 2 hS6 ?_;refine zV 17 (.slice bb hb.length cb) rfl (fun W hS=>by have c:=ξ hS.2.2 2;simp only[υ,zG,zH,zI] at c;clear hS;go_simp) hS6 ?_;refine zq 18 fun K hK=>?_;go_simp;obtain⟨w6,hw6,hG6,hK6⟩:∃ w6,w6=(w5.alloc (.cells #[.slice ba ha.length ca,.slice bb hb.length cb] 150)).drew∧w6.heap[w5.heap.size]?=some (.cells #[.slice ba ha.length ca,.slice bb hb.length cb] 150)∧Kp [] w5 w6:=⟨_,rfl,μ _ _,((Kp.refl _ _).alloc _).drew⟩;rw[←hw6];clear hw6;have hS7:=And.intro (hK6.hp hS6.1) (And.intro (hK6.hp hS6.2.1) (hK6.hp hS6.2.2));have hT6:=hT5.tail hK6;refine hK.out _ _ hS7 (fun _=>?_);clear hK K
    try simp only[zZ]
    refine zq 19 fun K hK=>?_;go_simp;have hab:Both (RL E.O n w5) (ha++hb) (η a.sub++η b.sub):=hba.append hbb;have hlen:(ha++hb).length≤1000000:=by rw[hab.1];have:=qG9 qA4 (η a.sub++η b.sub) (fun x _=>by unfold qA4;omega);have:=HJ.out.2;omega
    refine (qZ3 w5.heap.size [.slice ba ha.length ca,.slice bb hb.length cb] [ha,hb] w6 hG6 ⟨rfl,fun c h1 h2=>?_⟩ (ha++hb) (by simp) hlen (by simp)).mono ?_
    ·have hc:c=0∨c=1:=by simp at h1;omega
     rcases hc with rfl|rfl
     ·exact hsa.keep0 hK6
     ·exact hsb.keep0 hK6
    rintro e w7 ⟨v7,rfl,hown7,hK7⟩;have hT7:=hT6.tail hK7;have hS8:=And.intro (hK7.hp hS7.1) (And.intro (hK7.hp hS7.2.1) (hK7.hp hS7.2.2));refine hK.out _ _ hS8 (fun _=>?_);clear hK K
    try simp only[zZ]
    refine zq 20 fun K hK=>?_;go_simp;have hR7:RLs E.O n w7 v7 (η a.sub++η b.sub):=⟨ha++hb,qF7 hown7,hab.mono fun x y hr=>RL.keep hr (hK6.tr hK7) (Apt.nil _ _)⟩;refine (qT5 E.O n lv HLV.out x.key v7 (η a.sub++η b.sub) w7 hR7 (by have:=qG9 qA4 (η a.sub++η b.sub) (fun x _=>by unfold qA4;omega);have:=HJ.out.2;omega) HJ.out.1 HJ.out.2).mono ?_;rintro e w8 ⟨v8,rfl,hR8,hK8⟩;have hT8:=hT7.tail hK8;have hS9:=And.intro (hK8.hp hS8.1) (And.intro (hK8.hp hS8.2.1) (hK8.hp hS8.2.2));refine hK.out _ _ hS9 (fun _=>?_);clear hK K
    try simp only[zZ]
    refine zq 21 fun K hK=>?_;go_simp;have hkeyj:x.key=a.key:=HRX.out.1;rw[hkeyj] at hR8;have hRj:RLs E.O (n+1) w8 v8 (qD9 (n+1) a.key a.sub b.sub):=hR8;obtain⟨hs',hsl',hb'⟩:=hRj;have hnb:hs'.length≤10000:=by
     rw[hb'.1];have:(qD9 (n+1) a.key a.sub b.sub).length≤2:=by show (links _ _ _).length≤2;rw[qU5];unfold qB8;split<;>simp
     omega
    have hm3:=HM2.out;have hkj:=HK.out;have HSL8:=HSL.out.keep hT8.kp ((E.apt w HD.out).sub (by decide));refine (qR7 _ v8 hs hs' j m w8 HSL8 hsl' (by omega) (by omega) (by omega) hhl hnb).mono ?_;rintro e w9 ⟨v9,rfl,hs9,hK9⟩;rw[hm3] at hs9;clear hm3 hkj;have hT9:=hT8.tail hK9;have hS10:=And.intro (hK9.hp hS9.1) (And.intro (hK9.hp hS9.2.1) (hK9.hp hS9.2.2));have hb9:Both (RL E.O (n+1) w9) (hs.take j++hs'++hs.drop (j+2)) (ls.take j++qD9 (n+1) a.key a.sub b.sub++ls.drop (j+2)):=
     (((HB.out.take j).mono fun x y hr=>Env.RL hr HD.out hT9).append (hb'.mono fun x y hr=>RL.keep hr hK9 (Apt.nil _ _))).append ((HB.out.drop (j+2)).mono fun x y hr=>Env.RL hr HD.out hT9)
    refine hK.out _ _ hS10 (fun _=>?_);clear hK K
    try simp only[zZ]
    refine zq 22 fun K hK=>?_;go_simp;refine hK.out _ _ hS10 (fun _=>?_);clear hK K
    try simp only[zZ]
    refine zd ?_;have HR9:Hid (RLs E.O (n+1) w9 v9 (qC5 (n+1) ls i)):=by
     show RLs E.O (n+1) w9 v9 (qC5 (n+1) ls i);rw[HM.out];exact⟨_,hs9,hb9⟩
    have HT9:=zh hT9;clear hS10 hs9 hb9 hb' hT9 hR8;go_wp2;go_ret;exact⟨v9,rfl,HR9.out,HT9.out⟩
  ·go_simp;obtain⟨w2,hw2,hLB2,hK2⟩:∃ w2,w2=(w1.alloc (.cells #[.string ⟨#[]⟩,.int .i64 0,.int .u64 0,.pointer none] 81)).drew∧w2.heap[w1.heap.size]?=some (.cells qJ3 81)∧Kp [] w1.drew w2:=⟨_,rfl,μ _ _,((Kp.refl _ w1.drew).alloc _)⟩;rw[←hw2];clear hw2;have hT2:=hTd.tail hK2;have hS2:w2.heap[gb]?=some (.cells cur 81 fr)∧w2.heap[w.heap.size]?=some (.cells #[.pointer (some ⟨E.V,0,none⟩),.string r.key,.int .i64 r.b,.int .u64 r.s,.pointer r.ptr] 83):=And.intro (hK2.heap (k:=gb) hrow1 (by simp)) (hK2.heap (k:=w.heap.size) hB1 (by simp));refine hK.out _ _ hS2 (fun _=>?_);clear hK K
   try simp only[zZ]
   refine zq 10 fun K hK=>?_;go_simp;refine (qK4 E (n+1) x r a lev w2 hT2.dev (Env.RL HRX.out HD.out hT2) HLEV.out).mono ?_;rintro e w3 ⟨q1,rfl,hN1,hTn1⟩;have hT3:=hT2.trans hTn1;have hLB3:=hTn1.new HD.out (Nat.le_of_lt hs1) hLB2;have hS3:w3.heap[gb]?=some (.cells cur 81 fr)∧w3.heap[w.heap.size]?=some (.cells #[.pointer (some ⟨E.V,0,none⟩),.string r.key,.int .i64 r.b,.int .u64 r.s,.pointer r.ptr] 83):=⟨hTn1.kp.heap hS2.1 (fun hm=>E.apt _ hT2.dev _ hm _ _ _ hS2.1 (by decide)),hTn1.new HD.out (Nat.le_refl _) hS2.2⟩;refine hK.out _ _ hS3 (fun _=>?_);clear hK K
   try simp only[zZ]
   refine zq 18 fun K hK=>?_;go_simp;refine (qK4 E (n+1) y r b lev w3 hT3.dev (Env.RL HRY.out HD.out hT3) HLEV.out).mono ?_;rintro e w4 ⟨q2,rfl,hN2,hTn2⟩;have hT4:=hT3.trans hTn2;have hN14:=Env.RN hN1 hT3.dev hTn2;have hN24:=hN2;have hLB:=hTn2.new HD.out (Nat.le_of_lt hs1) hLB3;have hS4:w4.heap[gb]?=some (.cells cur 81 fr)∧w4.heap[w.heap.size]?=some (.cells #[.pointer (some ⟨E.V,0,none⟩),.string r.key,.int .i64 r.b,.int .u64 r.s,.pointer r.ptr] 83):=⟨hTn2.kp.heap hS3.1 (fun hm=>E.apt _ hT3.dev _ hm _ _ _ hS3.1 (by decide)),hTn2.new HD.out (Nat.le_refl _) hS3.2⟩;have hlb:=hs1;refine hK.out _ _ hS4 (fun _=>?_);clear hK K
   try simp only[zZ]
   clear hT3 hN2 hN1 hTn1 hTn2 hT2 hTd hS3 hS2 hLB3 hLB2;have hlbs:=ζ hLB;have hLX:w4.heap[w1.heap.size]?=some (.cells #[.string ⟨#[]⟩,.int .i64 0,.int .u64 0,.pointer none] 81):=hLB;have z0:=ξ hLX;have fz0:=ψ hLX;refine zq 20 fun K hK=>?_;go_simp;obtain⟨w5,hw5,hL5,hK5⟩:∃ w5,w5=(((w4.setCell ⟨w1.heap.size,0,none⟩ (.string x.key)).setCell ⟨w1.heap.size,1,none⟩ (.int .i64 x.b)).setCell ⟨w1.heap.size,2,none⟩ (.int .u64 x.s)).setCell ⟨w1.heap.size,3,none⟩ (.pointer x.ptr)∧w5.heap[w1.heap.size]?=some (.cells #[.string x.key,.int .i64 x.b,.int .u64 x.s,.pointer x.ptr] 81)∧Kp [w1.heap.size] w4 w5:=
    ⟨_,rfl,(qK0 _ _ _ _ hLX).1,(qK0 _ _ _ _ hLX).2⟩
   rw[←hw5];clear hw5 z0 fz0 hLX;have hT5:=hT4.store (Nat.le_of_lt hlb) hLB (by decide) hK5;have hN15:=RN.keepZ E.pos hK5 (qM6 hLB) (n+1) q1 _ hN14;have hN25:=RN.keepZ E.pos hK5 (qM6 hLB) (n+1) q2 _ hN24;have hS5:=And.intro (hK5.ho hS4.1) (hK5.ho hS4.2);refine hK.out _ _ hS5 (fun _=>?_);clear hK K
   try simp only[zZ]
   refine zq 21 fun K hK=>?_;go_simp;refine hK.out _ _ hS5 (fun _=>?_);clear hK K
   try simp only[zZ]
   refine zq 22 fun K hK=>?_;go_simp;refine hK.out _ _ hS5 (fun _=>?_);clear hK K
   try simp only[zZ]
   refine zd ?_;clear hS5 hS4 hS0 hN14 hN24 hT4 hK5 hLB hlbs;obtain⟨va,hqa,ha,hsa,hba⟩:=hN15;obtain⟨vb,hqb,hb,hsb,hbb⟩:=hN25;obtain⟨lv,hlv⟩:∃ lv:Int,((n+1:Nat):Int)=lv:=⟨_,rfl⟩;rw[hlv] at hqa hqb;have hlv0:¬lv=0:=by omega
   have HLV:=zh hlv.symm;have HLA:=zh hba.1;have HLB2:=zh hbb.1;clear hlv;obtain⟨ba,ca,hvba⟩:∃ ba ca,va=.slice ba ha.length ca:=by
    rcases hsa.val with⟨h0,b,c,h1,_⟩|⟨g,off,cap,cur,fr,h1,_⟩
    ·rw[h0];exact⟨b,c,h1⟩
    ·exact⟨_,cap,h1⟩
   subst hvba;obtain⟨bb,cb,hvbb⟩:∃ bb cb,vb=.slice bb hb.length cb:=by
    rcases hsb.val with⟨h0,b,c,h1,_⟩|⟨g,off,cap,cur,fr,h1,_⟩
    ·rw[h0];exact⟨b,c,h1⟩
    ·exact⟨_,cap,h1⟩
   subst hvbb;have hq1s:=ζ hqa;have y0:=ξ hqa 0;simp only[υ,zG,zH,zI] at y0;go_wp2_with fail;clear y0 hq1s;have hS6:w5.heap[w1.heap.size]?=some (.cells #[.string x.key,.int .i64 x.b,.int .u64 x.s,.pointer x.ptr] 81)∧w5.heap[q1]?=some (υ lv (.slice none 0 0) (.slice ba ha.length ca))∧w5.heap[q2]?=some (υ lv (.slice none 0 0) (.slice bb hb.length cb)):=⟨hL5,hqa,hqb⟩;obtain⟨m,hm2⟩:∃ m,m=j+2:=⟨_,rfl⟩;have hwr2:IntKind.i64.wrap ((j:Int)+2)=(m:Int):=by rw[IntKind.wrap_i64];omega
   have HM2:=zh hm2;clear hm2;refine wp_region_held_drew (S:=fun W=>W.heap[w1.heap.size]?=some (.cells #[.string x.key,.int .i64 x.b,.int .u64 x.s,.pointer x.ptr] 81)∧W.heap[q1]?=some (υ lv (.slice none 0 0) (.slice ba ha.length ca))∧W.heap[q2]?=some (υ lv (.slice none 0 0) (.slice bb hb.length cb))) (by kernel_rfl) hS6 (fun _=>?_);refine zU 0 (.slice (some ⟨gb,off,none⟩) hs.length cp) hS6 ?_;refine zU 1 (.int .i64 j) hS6 ?_;refine zU 2 (.int .i64 j) hS6 ?_;refine zU 3 (.int .i64 m) hS6 ?_;refine zP 4 w1.heap.size 0 hS6 ?_;refine zV 5 (.string x.key) rfl (fun W hS=>by have c:=ξ hS.1 0;simp only[zG,zH] at c;clear hS;go_simp) hS6 ?_;refine zP 6 q1 0 hS6 ?_;refine zP 7 q1 0 hS6 ?_;refine zP 8 q1 0 hS6 ?_;refine zV 9 (.int .i64 lv) rfl (fun W hS=>by have c:=ξ hS.2.1 0;simp only[υ,zG,zH,zI] at c;clear hS;go_simp) hS6 ?_;refine zP 10 q1 0 hS6 ?_;refine zP 11 q1 0 hS6 ?_;refine zP 12 q1 2 hS6 ?_;refine zV 13 (.slice ba ha.length ca) rfl (fun W hS=>by have c:=ξ hS.2.1 2;simp only[υ,zG,zH,zI] at c;clear hS;go_simp) hS6 ?_;refine zP 14 q2 0 hS6 ?_;refine zP 15 q2 0 hS6 ?_;refine zP 16 q2 2 hS6 ?_;refine zV 17 (.slice bb hb.length cb) rfl (fun W hS=>by have c:=ξ hS.2.2 2;simp only[υ,zG,zH,zI] at c;clear hS;go_simp) hS6 ?_;refine zq 18 fun K hK=>?_;go_simp;obtain⟨w6,hw6,hG6,hK6⟩:∃ w6,w6=(w5.alloc (.cells #[.slice ba ha.length ca,.slice bb hb.length cb] 150)).drew∧w6.heap[w5.heap.size]?=some (.cells #[.slice ba ha.length ca,.slice bb hb.length cb] 150)∧Kp [] w5 w6:=⟨_,rfl,μ _ _,((Kp.refl _ _).alloc _).drew⟩;rw[←hw6];clear hw6;have hS7:=And.intro (hK6.hp hS6.1) (And.intro (hK6.hp hS6.2.1) (hK6.hp hS6.2.2));have hT6:=hT5.tail hK6;refine hK.out _ _ hS7 (fun _=>?_);clear hK K
   try simp only[zZ]
   refine zq 19 fun K hK=>?_;go_simp;have hab:Both (RL E.O n w5) (ha++hb) (η a.sub++η b.sub):=hba.append hbb;have hlen:(ha++hb).length≤1000000:=by rw[hab.1];have:=qG9 qA4 (η a.sub++η b.sub) (fun x _=>by unfold qA4;omega);have:=HJ.out.2;omega
   refine (qZ3 w5.heap.size [.slice ba ha.length ca,.slice bb hb.length cb] [ha,hb] w6 hG6 ⟨rfl,fun c h1 h2=>?_⟩ (ha++hb) (by simp) hlen (by simp)).mono ?_
   ·have hc:c=0∨c=1:=by simp at h1;omega
    rcases hc with rfl|rfl
    ·exact hsa.keep0 hK6
    ·exact hsb.keep0 hK6
   rintro e w7 ⟨v7,rfl,hown7,hK7⟩;have hT7:=hT6.tail hK7;have hS8:=And.intro (hK7.hp hS7.1) (And.intro (hK7.hp hS7.2.1) (hK7.hp hS7.2.2));refine hK.out _ _ hS8 (fun _=>?_);clear hK K
   try simp only[zZ]
   refine zq 20 fun K hK=>?_;go_simp;have hR7:RLs E.O n w7 v7 (η a.sub++η b.sub):=⟨ha++hb,qF7 hown7,hab.mono fun x y hr=>RL.keep hr (hK6.tr hK7) (Apt.nil _ _)⟩;refine (qT5 E.O n lv HLV.out x.key v7 (η a.sub++η b.sub) w7 hR7 (by have:=qG9 qA4 (η a.sub++η b.sub) (fun x _=>by unfold qA4;omega);have:=HJ.out.2;omega) HJ.out.1 HJ.out.2).mono ?_;rintro e w8 ⟨v8,rfl,hR8,hK8⟩;have hT8:=hT7.tail hK8;have hS9:=And.intro (hK8.hp hS8.1) (And.intro (hK8.hp hS8.2.1) (hK8.hp hS8.2.2));refine hK.out _ _ hS9 (fun _=>?_);clear hK K
   try simp only[zZ]
   refine zq 21 fun K hK=>?_;go_simp;have hkeyj:x.key=a.key:=HRX.out.1;rw[hkeyj] at hR8;have hRj:RLs E.O (n+1) w8 v8 (qD9 (n+1) a.key a.sub b.sub):=hR8;obtain⟨hs',hsl',hb'⟩:=hRj;have hnb:hs'.length≤10000:=by
    rw[hb'.1];have:(qD9 (n+1) a.key a.sub b.sub).length≤2:=by show (links _ _ _).length≤2;rw[qU5];unfold qB8;split<;>simp
    omega
   have hm3:=HM2.out;have hkj:=HK.out;have HSL8:=HSL.out.keep hT8.kp ((E.apt w HD.out).sub (by decide));refine (qR7 _ v8 hs hs' j m w8 HSL8 hsl' (by omega) (by omega) (by omega) hhl hnb).mono ?_;rintro e w9 ⟨v9,rfl,hs9,hK9⟩;rw[hm3] at hs9;clear hm3 hkj;have hT9:=hT8.tail hK9;have hS10:=And.intro (hK9.hp hS9.1) (And.intro (hK9.hp hS9.2.1) (hK9.hp hS9.2.2));have hb9:Both (RL E.O (n+1) w9) (hs.take j++hs'++hs.drop (j+2)) (ls.take j++qD9 (n+1) a.key a.sub b.sub++ls.drop (j+2)):=
    (((HB.out.take j).mono fun x y hr=>Env.RL hr HD.out hT9).append (hb'.mono fun x y hr=>RL.keep hr hK9 (Apt.nil _ _))).append ((HB.out.drop (j+2)).mono fun x y hr=>Env.RL hr HD.out hT9)
   refine hK.out _ _ hS10 (fun _=>?_);clear hK K
   try simp only[zZ]
   refine zq 22 fun K hK=>?_;go_simp;refine hK.out _ _ hS10 (fun _=>?_);clear hK K
   try simp only[zZ]
   refine zd ?_;have HR9:Hid (RLs E.O (n+1) w9 v9 (qC5 (n+1) ls i)):=by
    show RLs E.O (n+1) w9 v9 (qC5 (n+1) ls i);rw[HM.out];exact⟨_,hs9,hb9⟩
   have HT9:=zh hT9;clear hS10 hs9 hb9 hb' hT9 hR8;go_wp2;go_ret;exact⟨v9,rfl,HR9.out,HT9.out⟩
 ·rw[hnew] at hx;cases hx
end Go.Proofs.YtdohpenfkdckiabGreatDoor
