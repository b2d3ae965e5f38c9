import Derived.Test.YtdohpenfkdckiabGreatDoorP15
set_option linter.all false
set_option maxRecDepth 100000
set_option maxHeartbeats 20000000
namespace Go.Proofs.YtdohpenfkdckiabGreatDoor
open Go.Proofs.Tryz
open Go.RowKit
variable {κ:Kd}
def zO1(κ:Kd)(V A n C:Nat)(l:List UInt8)(wr:Int)(i:Nat)(hb:List UInt8)(w0:World)(e:Ending)(w:World):Prop:=
 Io κ e∧∃ b,w0.heap.size≤b∧∃ ws',(ws'=[]∨ws'=[(i,hb)])∧Dk κ.up V A n C b l ws' (nk wr ws'.length) w
theorem xZ3{V A n C base:Nat}{l:List UInt8}{wr:Int}{w:World}(hd:Dk κ V A n C base l [] wr w)(i:Nat)(N rb rs:Int)(hi:i<n)(hN:N % 2=i)(hN0:0≤N)(hb0:0≤rb)(hb1:rb≤1000)(hs0:0≤rs):
  Calls prog 100 #[.pointer (some ⟨V,0,none⟩),.agg #[.int .u64 N,.int .i64 rb,.int .u64 rs]] w fun e w'=>(zO1 κ V A n C l wr i (qB4 N rb rs) w e w'∨(e=.returned (.tuple #[])∧
   ∃ b,w.heap.size≤b∧Dk κ V A n C b (qB6 l i (qB4 N rb rs)) [] (nx wr) w'))∧Kp [A,C] w w':=by
 have hVs:=ζ hd.hV;have hA:=hd.sA;have hCs:=ζ hd.hC;have HD:=zh hd;clear hd;have HN:=zh hN;clear hN;go_enter func100,ntmps100;go_wp2_with fail;rw[xH9];obtain⟨W1,hW1,hK1,hH1,hG1,hsz⟩:∃ W1,W1=(w.alloc (.cells #[.int .u64 N,.int .i64 rb,.int .u64 rs] 116)).alloc (.cells (enc qH5) 223)∧Kp [] w W1∧
   W1.heap[w.heap.size]?=some (.cells #[.int .u64 N,.int .i64 rb,.int .u64 rs] 116)∧W1.heap[w.heap.size+1]?=some (.cells (enc qH5) 223)∧W1.heap.size=w.heap.size+2:=
  ⟨_,rfl,((Kp.refl _ _).alloc _).alloc _,θ _ (μ _ _),by simpa using μ (w.alloc (.cells #[.int .u64 N,.int .i64 rb,.int .u64 rs] 116)) (.cells (enc qH5) 223),by simp⟩
 rw[←hW1];clear hW1;refine wp_region_any (by kernel_rfl) ?_;change wpAny _ _ _ _ _ _ _ (World.drew _);refine zu 0 (.slice (some ⟨w.heap.size+1,0,none⟩) 128 128) ?_;refine zQ 1 fun K hK=>?_;refine qJ0 rfl (qK7 (t:=116) rfl (by kernel_rfl) 3 (by kernel_rfl) w.heap.size rfl (show W1.drew.heap[w.heap.size]?=_ from hH1) rfl) ?_;refine hK _ _ ?_;clear hK K;simp only[zZ];refine zQ 2 fun K hK=>?_;go_simp;refine (zD1 N rb rs _ hN0 hb0 (by omega) hs0).mono ?_;rintro e w2 ⟨v2,rfl,hO2,hB2⟩;obtain⟨g2,cap2,cur2,rfl,hg2,hcs2,hp2⟩:=zC4 hO2;have hB2':Kp [] W1.drew w2:=Kp.of_below hB2 (Nat.le_refl _);have hH2:=hB2'.heap (k:=w.heap.size) hH1 (by simp);have hG2:=hB2'.heap (k:=w.heap.size+1) hG1 (by simp);have hK2:Kp [] w w2:=(hK1.drew).tr hB2';have hs2:w.heap.size+2≤w2.heap.size:=by have:=hB2.size;simp at this;omega
 clear hB2 hB2' hH1 hG1 hK1 hO2;refine hK _ _ ?_;clear hK K
 try simp only[zZ]
 refine zQ 3 fun K hK=>?_;refine qJ0 rfl (zG4 rfl underlying90 Tryz.size5 (w.heap.size+1) 0 128 128 g2 0 32 cap2 32 rfl rfl (by decide) hG2 hg2 (by rw[qD2];decide) (by omega) (by rw[hp2];exact (qF9 _).one)) ?_;rw[hp2,qW7];have hblk:qH5.take 0++toB (qE3 N rb rs)++qH5.drop (0+(toB (qE3 N rb rs)).length)=qB4 N rb rs:=by
  rw[qJ1,qV0];simp[qB4,qH5]
 rw[hblk];obtain⟨W3,hW3,hK3,hH3,hG3⟩:∃ W3,W3=w2.setRow (w.heap.size+1) (enc (qB4 N rb rs))∧Kp [] w W3∧
   W3.heap[w.heap.size]?=some (.cells #[.int .u64 N,.int .i64 rb,.int .u64 rs] 116)∧W3.heap[w.heap.size+1]?=some (.cells (enc (qB4 N rb rs)) 223):=
  ⟨_,rfl,hK2.setRow (Or.inr (by omega)) _,(setRow_other _ _ _ _ (by omega)).trans hH2,setRow_heap _ _ _ _ _ _ hG2⟩
 rw[←hW3];clear hW3 hH2 hG2 hK2 hg2 hcs2 hp2 hblk;refine hK _ _ ?_;clear hK K;refine wpAny_done (by kernel_rfl) ?_ _;simp only[zZ];go_wp2_with fail;have hhl:=qJ2 N rb rs;refine wp_region_held_drew (S:=fun W=>W.heap[w.heap.size]?=some (.cells #[.int .u64 N,.int .i64 rb,.int .u64 rs] 116)∧W.heap[w.heap.size+1]?=some (.cells (enc (qB4 N rb rs)) 223)) (by kernel_rfl) ⟨hH3,hG3⟩ (fun _=>?_);refine zV 0 (.pointer (some ⟨V,0,none⟩)) rfl (fun W hS=>rfl) ⟨hH3,hG3⟩ ?_;refine zV 1 (.agg #[.int .u64 N,.int .i64 rb,.int .u64 rs]) rfl (fun W hS=>qK7 (t:=116) rfl (by kernel_rfl) 3 (by kernel_rfl) w.heap.size rfl hS.1 rfl) ⟨hH3,hG3⟩ ?_;refine zV 3 (.agg (enc (qB4 N rb rs))) rfl (fun W hS=>qK7 (t:=223) rfl (by kernel_rfl) 128 (by kernel_rfl) (w.heap.size+1) rfl hS.2 (by rw[qD2,qJ2])) ⟨hH3,hG3⟩ ?_;refine zq 2 fun K hK=>?_;go_simp;refine (qU8 N rb rs _ hN0).mono ?_;rintro e w4 ⟨rfl,hB4⟩;rw[HN.out];have hB4':Kp [] W3.drew w4:=Kp.of_below hB4 (Nat.le_refl _);have hH4:=hB4'.heap (k:=w.heap.size) hH3 (by simp);have hG4:=hB4'.heap (k:=w.heap.size+1) hG3 (by simp);have hK4:Kp [] w w4:=(hK3.drew).tr hB4';clear hB4 hB4' hH3 hG3 hK3;refine hK.out _ _ ⟨hH4,hG4⟩ (fun _=>?_);clear hK K
 try simp only[zZ]
 refine zq 4 fun K hK=>?_;go_simp;refine (xF1 ((HD.out.keep0 hK4).rebase) i hi (qB4 N rb rs) hhl (by simp)).mono ?_;rintro e w5 ⟨(⟨⟨hnq,p,rfl⟩,hD5⟩|⟨rfl,hD5⟩),hW5⟩
 ·clear hK;go_wp2;exact⟨rfl,.inl ⟨⟨hnq,p,rfl⟩,w4.heap.size,hK4.size,[],.inl rfl,hD5⟩,(hW5.kp (hK4.mono (by simp)) hK4.size).mono (by simp)⟩
 have hs5:w.heap.size+2≤w4.heap.size:=by have:=ζ hG4;omega
 have hH5:=hW5.oth _ _ _ _ hH4 (by decide) (by omega);have hG5:=hW5.oth _ _ _ _ hG4 (by decide) (by omega);have HD5:Hid (Dk κ V A n C w4.heap.size l [(i,qB4 N rb rs)] (nx wr) w5):=(show Dk κ V A n C w4.heap.size l [(i,qB4 N rb rs)] (nx wr) w5 by simpa using hD5);have HK5:Hid (Kp [A] w w5):=hW5.kp (hK4.mono (by simp)) hK4.size;have HS4:=zh hK4.size;refine hK.out _ _ ⟨hH5,hG5⟩ (fun _=>?_);clear hK K;refine zd ?_
 try simp only[zZ]
 clear hD5 hW5 hH4 hG4 hH5 hG5;go_wp2_with fail;refine (zM0 HD5.out).mono ?_;rintro e w6 (⟨⟨hnq,p,rfl⟩,hD6,hK6⟩|⟨rfl,hD6,hK6⟩)
 ·go_wp2;exact⟨rfl,.inl ⟨⟨hnq,p,rfl⟩,w4.heap.size,HS4.out,_,.inr rfl,hD6⟩,(HK5.out.tr hK6).mono (by simp)⟩
 have HE:Hid (Dk κ V A n C w4.heap.size (qB6 l i (qB4 N rb rs)) [] (nx wr) w6∧Kp [A,C] w w6):=⟨hD6,(HK5.out.mono (by simp)).tr hK6⟩;clear hD6 hK6;go_wp2
 go_end0
 exact⟨.inr ⟨rfl,w4.heap.size,HS4.out,HE.out.1⟩,HE.out.2⟩
theorem xA6{St A n C base:Nat}{s:Sto}{l:List UInt8}{wr:Int}{w:World}(hSt:w.heap[St]?=some (ν 1 s))(hd:Dk κ s.V A n C base l [] wr w)(qb qs:Int)(hn2:2≤n)(hN0:0≤s.N)(hN1:s.N≤1000000000)(hb0:0≤qb)(hb1:qb≤1000)(hs0:0≤qs)(i:Nat)(hi:(s.N+1) % 2=i):
  Calls prog 68 #[.pointer (some ⟨St,0,none⟩),.agg #[.int .i64 qb,.int .u64 qs]] w fun e w'=>(zO1 κ s.V A n C l wr i (qB4 (s.N+1) qb qs) w e w'∧w'.heap[St]?=some (ν 1 s)∨(e=.returned (.tuple #[])∧w'.heap[St]?=some (ν 1 (s.led qb qs))∧∃ b,w.heap.size≤b∧Dk κ s.V A n C b (qB6 l i (qB4 (s.N+1) qb qs)) [] (nx wr) w'))∧Kp [St,A,C] w w':=by
 have hSts:=ζ hSt;have HS:=zh hSt;have HD:=zh hd;have HI:=zh hi;clear hSt hd hi;go_enter func68,ntmps68;go_wp2_with fail;rename_i K0 hK0;obtain⟨w1,hw1,hT1,hK1,hs1⟩:=qE8 w (.cells #[.int .i64 qb,.int .u64 qs] 78);rw[←hw1];clear hw1;have hSd:w1.drew.heap[St]?=some (ν 1 s)∧w1.drew.heap[w.heap.size]?=some (.cells #[.int .i64 qb,.int .u64 qs] 78):=⟨hK1.hp HS.out,hT1⟩;refine zD2 (α:=Nat→Act) (R:=fun A0=>∀ H W,W.heap[H]?=some (.cells #[.int .u64 (s.N+1),.int .i64 qb,.int .u64 qs] 116)→Kp [] w W→w.heap.size≤H→K0 (A0 H) W) ?_;apply Exists.intro;apply And.intro
 rotate_left
 ·intro HREST;refine wp_region_held_drew (S:=fun W=>W.heap[St]?=some (ν 1 s)∧W.heap[w.heap.size]?=some (.cells #[.int .i64 qb,.int .u64 qs] 78)) (by kernel_rfl) hSd (fun _=>?_);refine zP 0 St 0 hSd ?_;refine zV 1 (.pointer (some ⟨St,0,none⟩)) rfl (fun W hS=>by have c:=ζ hS.1;clear hS;go_simp) hSd ?_;refine zP 2 St 3 hSd ?_;refine zV 3 (.agg #[.int .u64 s.N,.int .i64 s.rb,.int .u64 s.rs]) rfl (fun W hS=>by have a3:=ξ hS.1 3;have a4:=ξ hS.1 4;have a5:=ξ hS.1 5;simp only[ν,zG,zH,zI] at a3 a4 a5;clear hS;go_simp) hSd ?_;refine zV 4 (.agg #[.int .i64 qb,.int .u64 qs]) rfl (fun W hS=>by have a:=ξ hS.2;clear hS;go_simp) hSd ?_;refine zr 5 6 (fun K hK=>?_) fun K hK=>?_
  ·skip
   go_simp;refine (zB8 s.N s.rb s.rs qb qs w1.drew hN0 hN1).mono ?_;rintro e w2 ⟨rfl,hB2⟩;have hK2:Kp [] w1.drew w2:=Kp.of_below hB2 (Nat.le_refl _);have hS2:=And.intro (hK2.hp hSd.1) (hK2.hp hSd.2);refine hK.out _ _ hS2 (fun _=>?_);clear hK K hB2
   try simp only[zZ]
   refine zq 6 fun K hK=>?_;go_simp;obtain⟨w3,hw3,hH3,hK3,hs3⟩:=qE8 w2 (.cells #[.int .u64 0,.int .i64 0,.int .u64 0] 116);obtain⟨B,hB⟩:∃ B,B=w2.heap.size:=⟨_,rfl⟩;rw[←hw3,←hB];rw[←hB] at hH3;have hs2:=hK2.size;have hBge:w.heap.size<B:=by rw[hB];have:w1.heap.size≤w2.heap.size:=hs2;omega
   clear hw3 hB;have hS3:=And.intro (hK3.hp hS2.1) (hK3.hp hS2.2);refine hK.out _ _ hS3 (fun _=>?_);clear hK K
   try simp only[zZ]
   refine zq 7 fun K hK=>?_;have z0:=ξ hH3;have f0:=ψ hH3;have hHs:=ζ hH3;have HH:=zh hH3;go_simp;have hKs:Kp [B] w3 (((w3.setCell ⟨B,0,none⟩ (.int .u64 (s.N+1))).setCell ⟨B,1,none⟩ (.int .i64 qb)).setCell ⟨B,2,none⟩ (.int .u64 qs)):=(((Kp.refl _ _).sc _).sc _).sc _;have hH5:=φ (φ (φ HH.out 0 (.int .u64 (s.N+1))) 1 (.int .i64 qb)) 2 (.int .u64 qs);generalize ((w3.setCell ⟨B,0,none⟩ (.int .u64 (s.N+1))).setCell ⟨B,1,none⟩ (.int .i64 qb)).setCell ⟨B,2,none⟩ (.int .u64 qs)=w5 at hKs hH5 ⊢;refine hK.out _ _ ⟨hKs.heap hS3.1 (by simp<;>omega),hKs.heap hS3.2 (by simp<;>omega)⟩ (fun _=>?_);clear hK K;refine zd ?_
   try simp only[zZ]
   show K0 _ w5;exact HREST B w5 hH5 ((((hK1.drew).tr hK2).tr hK3).trans hKs (by simp<;>omega)) (by omega)
  ·go_simp;obtain⟨w3,hw3,hH3,hK3,hs3⟩:∃ w3,w3=(w1.alloc (.cells #[.int .u64 0,.int .i64 0,.int .u64 0] 116)).drew∧w3.heap[w.heap.size+1]?=some (.cells #[.int .u64 0,.int .i64 0,.int .u64 0] 116)∧Kp [] w1 w3∧w3.heap.size=w1.heap.size+1:=⟨_,rfl,by rw[←hs1];exact μ w1 _,((Kp.refl _ _).alloc _).drew,by simp⟩;rw[←hw3];clear hw3;have hS3:=And.intro (hK3.hp hSd.1) (hK3.hp hSd.2);refine hK.out _ _ hS3 (fun _=>?_);clear hK K
   try simp only[zZ]
   refine zq 5 fun K hK=>?_;go_simp;refine (zB8 s.N s.rb s.rs qb qs w3 hN0 hN1).mono ?_;rintro e w2 ⟨rfl,hB2⟩;have hK2:Kp [] w3 w2:=Kp.of_below hB2 (Nat.le_refl _);have hS2:=And.intro (hK2.hp hS3.1) (hK2.hp hS3.2);refine hK.out _ _ hS2 (fun _=>?_);clear hK K hB2
   try simp only[zZ]
   have hH4:=hK2.hp hH3;refine zq 7 fun K hK=>?_;have z0:=ξ hH4;have f0:=ψ hH4;have hHs:=ζ hH4;have HH:=zh hH4;go_simp;have hKs:Kp [(w.heap.size+1)] w2 (((w2.setCell ⟨(w.heap.size+1),0,none⟩ (.int .u64 (s.N+1))).setCell ⟨(w.heap.size+1),1,none⟩ (.int .i64 qb)).setCell ⟨(w.heap.size+1),2,none⟩ (.int .u64 qs)):=(((Kp.refl _ _).sc _).sc _).sc _;have hH5:=φ (φ (φ HH.out 0 (.int .u64 (s.N+1))) 1 (.int .i64 qb)) 2 (.int .u64 qs);generalize ((w2.setCell ⟨(w.heap.size+1),0,none⟩ (.int .u64 (s.N+1))).setCell ⟨(w.heap.size+1),1,none⟩ (.int .i64 qb)).setCell ⟨(w.heap.size+1),2,none⟩ (.int .u64 qs)=w5 at hKs hH5 ⊢;refine hK.out _ _ ⟨hKs.heap hS2.1 (by simp<;>omega),hKs.heap hS2.2 (by simp<;>omega)⟩ (fun _=>?_);clear hK K;refine zd ?_
   try simp only[zZ]
   show K0 _ w5;exact HREST (w.heap.size+1) w5 hH5 (((hK1.tr hK3).tr hK2).tr hKs) (by omega)
 intro H W hH hKW hHge;refine hK0 _ _ ?_;clear hK0 K0 hSd hK1 hT1;go_wp2_with fail;have hHs:=ζ hH;have hVs:=ζ HD.out.hV;have hCs:=ζ HD.out.hC;have hS2:W.drew.heap[St]?=some (ν 1 s)∧W.drew.heap[H]?=some (.cells #[.int .u64 (s.N+1),.int .i64 qb,.int .u64 qs] 116):=⟨hKW.hp HS.out,hH⟩;have hAs:=HD.out.sA;have hStA:St≠A:=by obtain⟨v,c,h1,_⟩:=HD.out.hA;exact qL8 HS.out h1 (by decide)
 have hStC:St≠C:=qL8 HS.out HD.out.hC (by decide);have hStV:St≠s.V:=qL8 HS.out HD.out.hV (by decide);refine wp_region_held_drew (S:=fun W=>W.heap[St]?=some (ν 1 s)∧W.heap[H]?=some (.cells #[.int .u64 (s.N+1),.int .i64 qb,.int .u64 qs] 116)) (by kernel_rfl) hS2 (fun _=>?_);refine zP 0 St 0 hS2 ?_;refine zV 1 (.pointer (some ⟨St,0,none⟩)) rfl (fun W hS=>by have c:=ζ hS.1;clear hS;go_simp) hS2 ?_;refine zP 2 St 2 hS2 ?_;refine zV 3 (.pointer (some ⟨s.V,0,none⟩)) rfl (fun W hS=>by have a:=ξ hS.1 2;simp only[ν,zG,zH,zI] at a;clear hS;go_simp) hS2 ?_;refine zV 4 (.agg #[.int .u64 (s.N+1),.int .i64 qb,.int .u64 qs]) rfl (fun W hS=>by have a:=ξ hS.2;clear hS;go_simp) hS2 ?_;refine zq 5 fun K hK=>?_;go_simp;have hKd:Kp [] w W.drew:=hKW.drew;refine (xZ3 (HD.out.keep0 hKd) i (s.N+1) qb qs (by have:=HI.out;omega) HI.out (by omega) hb0 hb1 hs0).mono ?_;rintro e w3 ⟨hres,hK3⟩;have hS3:=And.intro (hK3.heap hS2.1 (by simp[hStA,hStC])) (hK3.heap hS2.2 (by simp<;>omega));have hKw3:Kp [A,C] w w3:=(hKd.mono (by simp)).tr hK3;have hsd:w.heap.size≤W.drew.heap.size:=hKd.size;rcases hres with⟨⟨hnq,p,rfl⟩,b,hb,hx⟩|⟨rfl,b,hb,hD3⟩
 ·clear hK;go_wp2;exact⟨rfl,.inl ⟨⟨⟨hnq,p,rfl⟩,b,Nat.le_trans hsd hb,hx⟩,hS3.1⟩,hKw3.mono (by simp +contextual)⟩
 refine hK.out _ _ hS3 (fun _=>?_);clear hK K;refine zd ?_
 try simp only[zZ]
 have hSts3:=ζ hS3.1;have hHs3:=ζ hS3.2;have y3:=ξ hS3.1 3;have y4:=ξ hS3.1 4;have y5:=ξ hS3.1 5;simp only[ν,zG,zH,zI] at y3 y4 y5;have g3:=ψ hS3.1;have z0:=ξ hS3.2;have hHSt:H≠St:=by omega
 have HE:Hid (w3.heap[St]?=some (ν 1 s)∧Dk κ s.V A n C b (qB6 l i (qB4 (s.N+1) qb qs)) [] (nx wr) w3∧Kp [A,C] w w3∧w.heap.size≤b):=⟨hS3.1,hD3,hKw3,Nat.le_trans hsd hb⟩;clear hS2 hS3 hD3 hK3 hKw3 hH hKW hKd hsd hb;go_wp2
 go_end0
 obtain⟨e1,e2,e5,e6⟩:=HE.out;have hKs:Kp [St] w3 (((w3.setCell ⟨St,3,none⟩ (.int .u64 (s.N+1))).setCell ⟨St,4,none⟩ (.int .i64 qb)).setCell ⟨St,5,none⟩ (.int .u64 qs)):=(((Kp.refl _ _).sc _).sc _).sc _;exact⟨.inr ⟨rfl,φ (φ (φ e1 3 _) 4 _) 5 _,b,e6,e2.keep hKs (fun k hk c t fr e=>by rw[List.mem_singleton.1 hk,e1] at e;cases e;decide)⟩,(e5.mono (by simp +contextual)).tr hKs⟩
variable {κ:Kd}
theorem xE4{V A N C base:Nat}{l:List UInt8}{ws:List (Nat × List UInt8)}{wr:Int}{w:World}(hd:Dk κ V A N C base l ws wr w)(i:Nat)(ps:List KV)
  (hi:i<N) (hbl:χ (laidAll l ws) i=toB (qA2 0 ps [])) (hz:∀ p∈ps,qD0 p) (hm:2+meas ρ ps≤128) (hnl:ps.length≤126):
  Calls prog 122 #[.pointer (some ⟨V,0,none⟩),.agg #[.int .i64 i,.int .u64 (fnv (qA2 0 ps []))]] w fun e w'=>((Io κ e∧Dk κ.up V A N C base l ws wr w')∨∃ q v,e=.returned (.tuple #[.pointer (some ⟨q,0,none⟩),.bool true])∧w'.heap[q]?=some (.cells #[.int .i64 0,v,.slice none 0 0] 152)∧w.heap.size≤q∧
   w'.ownsRow w.heap.size 158 2 v ps.length (qB0 ps)∧Dk κ V A N C base l ws wr w')∧Kp [A] w w':=by
 have hby:=qK3 0 ps [] (by omega) (by omega) (by simp;omega) hz (by simp);have hNL:(qA2 0 ps []).length=128:=qP0 0 ps [] (by simpa [qE2] using hm);obtain⟨E,hE⟩:∃ E,E=enc (toB (qA2 0 ps [])):=⟨_,rfl⟩;have hEs:E.size=128:=by rw[hE,qD2,qG6];exact hNL
 have hcs:=qP3 (toB (qA2 0 ps [])) 0 128 (qA2 0 ps []) hby hNL (by rw[List.drop_zero,List.take_of_length_le (by rw[qG6];exact Nat.le_of_eq hNL)]);have HLOAD:Hid (∀ W,Kp [] w W→Calls prog 151 #[.pointer (some ⟨V,0,none⟩),.int .i64 i] W fun e w'=>((Io κ e∧Dk κ.up V A N C base l ws wr w')∨(e=.returned (.agg E)∧Dk κ V A N C base l ws wr w'))∧Kp [A] W w'):=fun W hK=>by
  have h:=zJ6 (hd.keep0 hK) i hi;rw[hbl,←hE] at h;exact h
 have HPARSE:Hid (∀ W,Calls prog 166 #[.agg E] W fun e w'=>∃ q v,e=.returned (.tuple #[.pointer (some ⟨q,0,none⟩),.bool true])∧w'.heap[q]?=some (.cells #[.int .i64 0,v,.slice none 0 0] 152)∧W.heap.size≤q∧
   w'.ownsRow W.heap.size 158 2 v ps.length (qB0 ps)∧Kp [] W w'):=fun W=>by
  have h:=xD8 ps  W hz hm hnl;rw[←hE] at h;exact h
 obtain⟨S,hS⟩:∃ S,S=fnv (qA2 0 ps []):=⟨_,rfl⟩;have HSUM:Hid (∀ W b cap,W.heap[b]?=some (.cells E 223)→Calls prog 165 #[.slice (some ⟨b,0,none⟩) 128 cap] W fun e w'=>e=.returned (.int .u64 S)∧w'=W):=fun W b cap hb=>by
  rw[hS];refine qV2 b 0 128 cap (qA2 0 ps []) W hNL (by omega) (fun j hj=>?_);rw[ξ hb,hE];exact hcs j hj
 rw[←hS];have hEb:∀ v∈E.toList,v.oneCell'=true:=by rw[hE];exact (qF9 _).one
 have HES:=zh hEs;have hAs:=hd.sA;clear hcs hS hE hby hNL hz hm hbl hd;go_enter func122,ntmps122;go_wp2_with fail;obtain⟨w0,hw0,hP0,hK0,hs0⟩:=qE8 w (.cells #[.int .i64 (i:Int),.int .u64 S] 78);rw[←hw0];clear hw0;refine (HLOAD.out w0 hK0).mono ?_;rintro e w1 ⟨(⟨⟨hnq,p,rfl⟩,hD1⟩|⟨rfl,hD1⟩),hK1⟩
 ·go_wp2;exact⟨rfl,.inl ⟨⟨hnq,p,rfl⟩,hD1⟩,(hK0.mono (by simp)).tr hK1⟩
 have HD1:=Hid.mk' hD1;have hP1:=hK1.ho hP0;have hKw1:Kp [A] w w1:=(hK0.mono (by simp)).tr hK1;have hs1:=hK1.size;clear hK1 hP0 hK0 HLOAD hD1;go_wp2_with fail;have hN:=μ w1 (.cells zeroCells223 223);rw[qI9 hN (by simp[qF5,hEs]) hEb];rw[show E.toList.toArray=E from by simp,qH1 (by rw[qF5,hEs])];obtain⟨w2,hw2,hB2,hP2,hKw2,hK12,hs2⟩:∃ w2,w2=(w1.alloc (.cells zeroCells223 223)).setRow w1.heap.size E∧w2.heap[w1.heap.size]?=some (.cells E 223)∧w2.heap[w.heap.size]?=some (.cells #[.int .i64 (i:Int),.int .u64 S] 78)∧Kp [A] w w2∧Kp [] w1 w2∧w2.heap.size=w1.heap.size+1:=
  ⟨_,rfl,setRow_heap _ _ _ _ _ _ hN,(setRow_other _ _ _ _ (by omega)).trans (θ _ hP1),(hKw1.alloc _).setRow (Or.inr (by omega)) _,((Kp.refl _ _).alloc _).setRow (Or.inr (Nat.le_refl _)) _,by simp⟩
 rw[←hw2];have HD2:=Hid.mk' (HD1.out.keep0 hK12);clear hw2 hN hP1 hK12 hEs hEb;go_wp2_with fail;have hSd:w2.drew.heap[w1.heap.size]?=some (.cells E 223)∧w2.drew.heap[w.heap.size]?=some (.cells #[.int .i64 (i:Int),.int .u64 S] 78):=⟨hB2,hP2⟩;refine wp_region_held_drew (S:=fun W=>W.heap[w1.heap.size]?=some (.cells E 223)∧W.heap[w.heap.size]?=some (.cells #[.int .i64 (i:Int),.int .u64 S] 78)) (by kernel_rfl) hSd (fun _=>?_);refine zU 0 (.slice (some ⟨w1.heap.size,0,none⟩) 128 128) hSd ?_;refine zP 2 w.heap.size 1 hSd ?_;refine zV 3 (.int .u64 S) rfl (fun W hS=>by have a:=ξ hS.2 1;simp only[zG,zH,zI] at a;clear hS;go_simp) hSd ?_;refine zq 1 fun K hK=>?_;go_simp;refine (HSUM.out w2.drew w1.heap.size 128 hB2).mono ?_;rintro e w' ⟨rfl,hw'⟩;rw[hw'];clear hw' w';refine hK.out _ _ hSd (fun _=>?_);clear hK K
 try simp only[zZ]
 refine zU 4 (.bool false) hSd ?_;refine zd ?_;obtain⟨w3,hw3,hB3,hD3,hKw3,hs3⟩:∃ w3,w3=w2.drew∧w3.heap[w1.heap.size]?=some (.cells E 223)∧Dk κ V A N C base l ws wr w3∧Kp [A] w w3∧w3.heap.size=w2.heap.size:=⟨_,rfl,hB2,HD2.out.keep0 ((Kp.refl _ _).drew),hKw2.drew,rfl⟩;have HD3:=Hid.mk' hD3;rw[←hw3];have hpp:qA1 E 0 128=E:=by rw[←HES.out];simp[qA1,List.take_of_length_le]
 clear hw3 hSd hB2 hP2 hKw2 hKw1 hD3 HD2 HD1
 go_wp2_with (
  with_reducible refine qM4 (t:=223) ?_ 128 ?_ w1.heap.size 0 ?_ E 223 (0,0) ?_ ?_ ?_
  ·kernel_rfl
  ·kernel_rfl
  ·rfl
  ·exact hB3
  ·have:=HES.out;omega)
 refine (HPARSE.out w3).mono ?_;rintro e w4 ⟨q,v,rfl,hq4,hql,hown4,hK4⟩;have HEND:Hid (w4.heap[q]?=some (.cells #[.int .i64 0,v,.slice none 0 0] 152)∧w.heap.size≤q∧w4.ownsRow w.heap.size 158 2 v ps.length (qB0 ps)∧Dk κ V A N C base l ws wr w4∧Kp [A] w w4):=⟨hq4,by omega,qH4 hown4 (by omega),HD3.out.keep0 hK4,hKw3.tr hK4⟩;clear hq4 hql hown4 hK4 hB3 hKw3 hpp;go_wp2
 go_ret2
 obtain⟨z1,z2,z3,z4,z5⟩:=HEND.out;exact⟨.inr ⟨q,v,rfl,z1,z2,z3,z4⟩,z5⟩
theorem xE3{V A N C base:Nat}{l:List UInt8}{ws:List (Nat × List UInt8)}{wr:Int}{w:World}(hd:Dk κ V A N C base l ws wr w)(i:Nat)(ps:List HL)(lv:Int)(hlv0:0<lv)(hlv1:lv<256)
  (hi:i<N) (hbl:χ (laidAll l ws) i=toB (qA2 lv [] ps)) (hz:∀ p∈ps,p.p=none∧p.key.size≤8∧0≤p.b∧p.b<65536∧0≤p.s∧p.s<18446744073709551616) (hm:2+meas qA0 ps≤128) (hnl:ps.length≤126):
  Calls prog 122 #[.pointer (some ⟨V,0,none⟩),.agg #[.int .i64 i,.int .u64 (fnv (qA2 lv [] ps))]] w fun e w'=>((Io κ e∧Dk κ.up V A N C base l ws wr w')∨∃ q v,e=.returned (.tuple #[.pointer (some ⟨q,0,none⟩),.bool true])∧w'.heap[q]?=some (.cells #[.int .i64 lv,.slice none 0 0,v] 152)∧w.heap.size≤q∧
   w'.ownsRow w.heap.size 81 4 v ps.length (qA7 ps)∧Dk κ V A N C base l ws wr w')∧Kp [A] w w':=by
 have hby:=qK3 lv [] ps (by omega) hlv1 (by simp;omega) (by simp) (fun p hp=>(hz p hp).2.1);have hNL:(qA2 lv [] ps).length=128:=qP0 lv [] ps (by simpa [qE2] using hm);obtain⟨E,hE⟩:∃ E,E=enc (toB (qA2 lv [] ps)):=⟨_,rfl⟩;have hEs:E.size=128:=by rw[hE,qD2,qG6];exact hNL
 have hcs:=qP3 (toB (qA2 lv [] ps)) 0 128 (qA2 lv [] ps) hby hNL (by rw[List.drop_zero,List.take_of_length_le (by rw[qG6];exact Nat.le_of_eq hNL)]);have HLOAD:Hid (∀ W,Kp [] w W→Calls prog 151 #[.pointer (some ⟨V,0,none⟩),.int .i64 i] W fun e w'=>((Io κ e∧Dk κ.up V A N C base l ws wr w')∨(e=.returned (.agg E)∧Dk κ V A N C base l ws wr w'))∧Kp [A] W w'):=fun W hK=>by
  have h:=zJ6 (hd.keep0 hK) i hi;rw[hbl,←hE] at h;exact h
 have HPARSE:Hid (∀ W,Calls prog 166 #[.agg E] W fun e w'=>∃ q v,e=.returned (.tuple #[.pointer (some ⟨q,0,none⟩),.bool true])∧w'.heap[q]?=some (.cells #[.int .i64 lv,.slice none 0 0,v] 152)∧W.heap.size≤q∧
   w'.ownsRow W.heap.size 81 4 v ps.length (qA7 ps)∧Kp [] W w'):=fun W=>by
  have h:=xD7 ps lv hlv0 hlv1 W hz hm hnl;rw[←hE] at h;exact h
 obtain⟨S,hS⟩:∃ S,S=fnv (qA2 lv [] ps):=⟨_,rfl⟩;have HSUM:Hid (∀ W b cap,W.heap[b]?=some (.cells E 223)→Calls prog 165 #[.slice (some ⟨b,0,none⟩) 128 cap] W fun e w'=>e=.returned (.int .u64 S)∧w'=W):=fun W b cap hb=>by
  rw[hS];refine qV2 b 0 128 cap (qA2 lv [] ps) W hNL (by omega) (fun j hj=>?_);rw[ξ hb,hE];exact hcs j hj
 rw[←hS];have hEb:∀ v∈E.toList,v.oneCell'=true:=by rw[hE];exact (qF9 _).one
 have HES:=zh hEs;have hAs:=hd.sA;clear hcs hS hE hby hNL hz hm hbl hd;go_enter func122,ntmps122;go_wp2_with fail;obtain⟨w0,hw0,hP0,hK0,hs0⟩:=qE8 w (.cells #[.int .i64 (i:Int),.int .u64 S] 78);rw[←hw0];clear hw0;refine (HLOAD.out w0 hK0).mono ?_;rintro e w1 ⟨(⟨⟨hnq,p,rfl⟩,hD1⟩|⟨rfl,hD1⟩),hK1⟩
 ·go_wp2;exact⟨rfl,.inl ⟨⟨hnq,p,rfl⟩,hD1⟩,(hK0.mono (by simp)).tr hK1⟩
 have HD1:=Hid.mk' hD1;have hP1:=hK1.ho hP0;have hKw1:Kp [A] w w1:=(hK0.mono (by simp)).tr hK1;have hs1:=hK1.size;clear hK1 hP0 hK0 HLOAD hD1;go_wp2_with fail;have hN:=μ w1 (.cells zeroCells223 223);rw[qI9 hN (by simp[qF5,hEs]) hEb];rw[show E.toList.toArray=E from by simp,qH1 (by rw[qF5,hEs])];obtain⟨w2,hw2,hB2,hP2,hKw2,hK12,hs2⟩:∃ w2,w2=(w1.alloc (.cells zeroCells223 223)).setRow w1.heap.size E∧w2.heap[w1.heap.size]?=some (.cells E 223)∧w2.heap[w.heap.size]?=some (.cells #[.int .i64 (i:Int),.int .u64 S] 78)∧Kp [A] w w2∧Kp [] w1 w2∧w2.heap.size=w1.heap.size+1:=
  ⟨_,rfl,setRow_heap _ _ _ _ _ _ hN,(setRow_other _ _ _ _ (by omega)).trans (θ _ hP1),(hKw1.alloc _).setRow (Or.inr (by omega)) _,((Kp.refl _ _).alloc _).setRow (Or.inr (Nat.le_refl _)) _,by simp⟩
 rw[←hw2];have HD2:=Hid.mk' (HD1.out.keep0 hK12);clear hw2 hN hP1 hK12 hEs hEb;go_wp2_with fail;have hSd:w2.drew.heap[w1.heap.size]?=some (.cells E 223)∧w2.drew.heap[w.heap.size]?=some (.cells #[.int .i64 (i:Int),.int .u64 S] 78):=⟨hB2,hP2⟩;refine wp_region_held_drew (S:=fun W=>W.heap[w1.heap.size]?=some (.cells E 223)∧W.heap[w.heap.size]?=some (.cells #[.int .i64 (i:Int),.int .u64 S] 78)) (by kernel_rfl) hSd (fun _=>?_);refine zU 0 (.slice (some ⟨w1.heap.size,0,none⟩) 128 128) hSd ?_;refine zP 2 w.heap.size 1 hSd ?_;refine zV 3 (.int .u64 S) rfl (fun W hS=>by have a:=ξ hS.2 1;simp only[zG,zH,zI] at a;clear hS;go_simp) hSd ?_;refine zq 1 fun K hK=>?_;go_simp;refine (HSUM.out w2.drew w1.heap.size 128 hB2).mono ?_;rintro e w' ⟨rfl,hw'⟩;rw[hw'];clear hw' w';refine hK.out _ _ hSd (fun _=>?_);clear hK K
 try simp only[zZ]
 refine zU 4 (.bool false) hSd ?_;refine zd ?_;obtain⟨w3,hw3,hB3,hD3,hKw3,hs3⟩:∃ w3,w3=w2.drew∧w3.heap[w1.heap.size]?=some (.cells E 223)∧Dk κ V A N C base l ws wr w3∧Kp [A] w w3∧w3.heap.size=w2.heap.size:=⟨_,rfl,hB2,HD2.out.keep0 ((Kp.refl _ _).drew),hKw2.drew,rfl⟩;have HD3:=Hid.mk' hD3;rw[←hw3];have hpp:qA1 E 0 128=E:=by rw[←HES.out];simp[qA1,List.take_of_length_le]
 clear hw3 hSd hB2 hP2 hKw2 hKw1 hD3 HD2 HD1
 go_wp2_with (
  with_reducible refine qM4 (t:=223) ?_ 128 ?_ w1.heap.size 0 ?_ E 223 (0,0) ?_ ?_ ?_
  ·kernel_rfl
  ·kernel_rfl
  ·rfl
  ·exact hB3
  ·have:=HES.out;omega)
 refine (HPARSE.out w3).mono ?_;rintro e w4 ⟨q,v,rfl,hq4,hql,hown4,hK4⟩;have HEND:Hid (w4.heap[q]?=some (.cells #[.int .i64 lv,.slice none 0 0,v] 152)∧w.heap.size≤q∧w4.ownsRow w.heap.size 81 4 v ps.length (qA7 ps)∧Dk κ V A N C base l ws wr w4∧Kp [A] w w4):=⟨hq4,by omega,qH4 hown4 (by omega),HD3.out.keep0 hK4,hKw3.tr hK4⟩;clear hq4 hql hown4 hK4 hB3 hKw3 hpp;go_wp2
 go_ret2
 obtain⟨z1,z2,z3,z4,z5⟩:=HEND.out;exact⟨.inr ⟨q,v,rfl,z1,z2,z3,z4⟩,z5⟩
theorem xG4{V A N C base:Nat}{l:List UInt8}{ws:List (Nat × List UInt8)}{wr:Int}(n:Nat)(h r:HL)(L:Lnk (Tn n))(a:Int){w:World}(hd:Dk κ V A N C base l ws wr w)(hr:RL (Laid N (laidAll l ws)) n w h L)(hp:h.p=none)(ha:(n:Int)<a):
  Calls prog 87 #[τ V r,qC2 h,.int .i64 a] w fun e w'=>((Io κ e∧Dk κ.up V A N C base l ws wr w')∨∃ q,e=.returned (.pointer (some ⟨q,0,none⟩))∧RN (Laid N (laidAll l ws)) n w' q L.sub∧Dk κ V A N C base l ws wr w')∧Kp [A] w w':=by
 have hO:∃ b s,h.b=(b:Nat)∧h.s=s∧Laid N (laidAll l ws) n b s L.sub:=by
  have h2:=hr.2
  cases hl:L.ref with
  | none=>
   rw[hl] at h2;obtain⟨_,_,q',h3,_⟩:=h2;rw[hp] at h3;cases h3
  | some x=>
   rw[hl] at h2;exact⟨x.1,x.2,h2.1,h2.2.1,h2.2.2.2⟩
 obtain⟨b,s,hb,hss,hL⟩:=hO;have hlv:n<6:=hL.at.2.2.2.2;have HREAD:Hid (∀ W,Kp [] w W→Calls prog 122 #[.pointer (some ⟨V,0,none⟩),.agg #[.int .i64 b,.int .u64 s]] W fun e w'=>((Io κ e∧Dk κ.up V A N C base l ws wr w')∨∃ q vp vl,e=.returned (.tuple #[.pointer (some ⟨q,0,none⟩),.bool true])∧w'.heap[q]?=some (υ (n:Int) vp vl)∧RN (Laid N (laidAll l ws)) n w' q L.sub∧Dk κ V A N C base l ws wr w')∧Kp [A] W w'):=by
  intro W hK;have hdW:=hd.keep0 hK
  cases n with
  | zero=>
   obtain⟨g1,g2,g3,g4,g5,g6,g7⟩:=hL;rw[g3];refine (xE4 hdW b (prs L.sub) g2 g4 g5 g6 g7).mono ?_;rintro e w' ⟨(hx|⟨q,v,rfl,hq,_,hown,hD'⟩),hK'⟩
   ·exact⟨.inl hx,hK'⟩
   exact⟨.inr ⟨q,v,.slice none 0 0,rfl,hq,⟨v,hq,qF7 hown⟩,hD'⟩,hK'⟩
  | succ n=>
   obtain⟨g1,g2,g3,hs',g4,g5,g6,g7,g8,g9⟩:=hL;rw[g5];refine (xE3 hdW b hs' ((n+1:Nat):Int) (by omega) (by omega) g2 g6 (Laid.links g4 g7 hd.N1) g8 g9).mono ?_;rintro e w' ⟨(hx|⟨q,v,rfl,hq,_,hown,hD'⟩),hK'⟩
   ·exact⟨.inl hx,hK'⟩
   exact⟨.inr ⟨q,.slice none 0 0,v,rfl,hq,⟨v,hq,hs',qF7 hown,⟨g4.1,fun i h1 h2=>(g4.2 i h1 h2).mono (fun _ h=>h.elim) (fun _ _ h=>h)⟩⟩,hD'⟩,hK'⟩
 have hptr:h.ptr=none:=by simp[HL.ptr,hp]
 rw[τ,qC2,hptr,hb,hss];clear hr hd hL hp hb hss hptr;go_enter func87,ntmps87;go_wp2_with fail;obtain⟨w0,hw0,hK0⟩:∃ w0,w0=(w.alloc (.cells #[.pointer (some ⟨V,0,none⟩),.string r.key,.int .i64 r.b,.int .u64 r.s,.pointer r.ptr] 83)).alloc (.cells #[.string h.key,.int .i64 (b:Int),.int .u64 s,.pointer none] 81)∧Kp [] w w0:=⟨_,rfl,((Kp.refl _ _).alloc _).alloc _⟩;rw[←hw0];clear hw0;refine (HREAD.out w0 hK0).mono ?_;rintro e w1 ⟨(⟨⟨hnq,p,rfl⟩,hD1⟩|⟨q,vp,vl,rfl,hq,hRN,hD1⟩),hK1⟩
 ·go_wp2;exact⟨rfl,.inl ⟨⟨hnq,p,rfl⟩,hD1⟩,(hK0.mono (by simp)).tr hK1⟩
 have hqs:=ζ hq;have c0:=ξ hq 0;simp only[υ,zG,zH,zI] at c0;have hna:¬a≤(n:Int):=by omega
 have HEND:Hid (RN (Laid N (laidAll l ws)) n w1 q L.sub∧Dk κ V A N C base l ws wr w1∧Kp [A] w w1):=⟨hRN,hD1,(hK0.mono (by simp)).tr hK1⟩;clear hq hRN hD1 hK1 hK0 HREAD;go_wp2;go_ret;exact⟨.inr ⟨q,rfl,HEND.out.1,HEND.out.2.1⟩,HEND.out.2.2⟩
end Go.Proofs.YtdohpenfkdckiabGreatDoor
namespace Go.Proofs.YtdohpenfkdckiabGreatDoor
open Go.Proofs.Tryz
open Go.RowKit
open Go.ChangeMaps
variable {κ:Kd}
section
variable {V A N C base:Nat} {l:List UInt8} {wn:Int} {w w':World} {M cc:Nat} {ks:List Nat}
theorem Dk.nin{ws:List (Nat × List UInt8)}(hd:Dk κ V A N C base l ws wn w){k:Nat}{c:Array Value}{t:TypeId}{fr:Nat × Nat}(h:w.heap[k]?=some (.cells c t fr))(ht:t ∉ qL5):k ∉ [A]:=fun hm=>by
 obtain⟨v,ca,h1,_⟩:=hd.hA;rw[List.mem_singleton.1 hm,h1] at h;cases h
 revert ht
 decide
theorem qQ4(hd:Dk κ V A N C base l [] wn w)(hM:BS w M cc ks){k:Nat}{c:Array Value}{t:TypeId}{fr:Nat × Nat}(h:w.heap[k]?=some (.cells c t fr))(ht:t ∉ qL5):k ∉ [M,A]:=fun hm=>by
 rcases List.mem_cons.1 hm with rfl|hm
 ·obtain⟨es,cl,h2⟩:=hM.at;rw[h] at h2;cases h2
 ·exact hd.nin h ht hm
theorem qY7(hd:Dk κ V A N C base l [] wn w)(hM:BS w M cc ks):Apt w [M,A] qF8:=fun k hk c t fr e hm=>qQ4 hd hM e ((by decide:∀ t∈qF8,t ∉ qL5) t hm) hk
theorem Dk.aptA{ws:List (Nat × List UInt8)}(hd:Dk κ V A N C base l ws wn w):Apt w [A] qF8:=fun k hk c t fr e hm=>hd.nin e ((by decide:∀ t∈qF8,t ∉ qL5) t hm) hk
theorem Dk.mA(hd:Dk κ V A N C base l [] wn w)(hM:BS w M cc ks):M≠A:=fun e=>by
 obtain⟨es,cl,h2⟩:=hM.at;obtain⟨v,ca,h1,_⟩:=hd.hA;rw[e,h1] at h2;cases h2
theorem Dk.keepM(hd:Dk κ V A N C base l [] wn w)(hM:BS w M cc ks)(hK:Kp [M] w w'):Dk κ V A N C base l [] wn w':=hd.keep hK (fun k hk c t fr e=>by
 obtain⟨es,cl,h2⟩:=hM.at;rw[List.mem_singleton.1 hk,h2] at e;cases e)
end
theorem xC3{V A N C base:Nat}{l:List UInt8}{wn:Int}{w:World}(hd:Dk κ V A N C base l [] wn w)(n:Nat)(h r:HL)(L:Lnk (Tn n))(a:Int)(hr:RL (Laid N l) n w h L)(ha:h.p=none→(n:Int)<a):
  Calls prog 87 #[τ V r,qC2 h,.int .i64 a] w fun e w'=>((Io κ e∧Dk κ.up V A N C base l [] wn w')∨∃ q,e=.returned (.pointer (some ⟨q,0,none⟩))∧RN (Laid N l) n w' q L.sub∧Dk κ V A N C base l [] wn w')∧Kp [A] w w':=by
 cases hp:h.p with
 | none=>exact xG4 n h r L a hd hr hp (ha hp)
 | some q=>
  have hN:RN (Laid N l) n w q L.sub:=by
   rcases hr.new with⟨_,q',h3,h4⟩|⟨_,h3⟩
   ·rw[hp] at h3;cases h3;exact h4
   ·rw[hp] at h3;cases h3
  have hptr:h.ptr=some ⟨q,0,none⟩:=by simp[HL.ptr,hp]
  have e1:qC2 h=.agg #[.string h.key,.int .i64 h.b,.int .u64 h.s,.pointer (some ⟨q,0,none⟩)]:=by rw[qC2,hptr]
  rw[e1,τ];have HN:=zh hN;have HD:=zh hd;clear hN hr hd e1 hptr ha;go_enter func87,ntmps87;go_wp2;go_ret;have hK:Kp [] w ((w.alloc (.cells #[.pointer (some ⟨V,0,none⟩),.string r.key,.int .i64 r.b,.int .u64 r.s,.pointer r.ptr] 83)).alloc (.cells #[.string h.key,.int .i64 h.b,.int .u64 h.s,.pointer (some ⟨q,0,none⟩)] 81)):=((Kp.refl _ _).alloc _).alloc _;exact⟨.inr ⟨q,rfl,RN.keep hK (Apt.nil _ _) n q _ HN.out,HD.out.keep0 hK⟩,hK.mono (by simp)⟩
theorem jW3{V A N C base:Nat}{l:List UInt8}{wn:Int}{w:World}(hd:Dk κ V A N C base l [] wn w)(n:Nat)(h:HL)(L:Lnk (Tn n))(hr:RL (Laid N l) n w h L):
  Calls prog 86 #[τ V h] w fun e w'=>((Io κ e∧Dk κ.up V A N C base l [] wn w')∨∃ q,e=.returned (.pointer (some ⟨q,0,none⟩))∧RN (Laid N l) n w' q L.sub∧Dk κ V A N C base l [] wn w')∧Kp [A] w w':=by
 have hl6:h.p=none→(n:Int)<6:=fun hp=>by
  rcases hr.new with⟨_,q',h3,h4⟩|⟨h2,_⟩
  ·rw[hp] at h3;cases h3
  ·have h5:=hr.2
   cases hl:L.ref with
   | none=>rw[hl] at h2;cases h2
   | some x=>rw[hl] at h5;have:=h5.2.2.2.at;omega
 have HN:Hid (∀ W:World,Kp [] w W→Calls prog 87 #[.agg #[.pointer (some ⟨V,0,none⟩),.string h.key,.int .i64 h.b,.int .u64 h.s,.pointer h.ptr],.agg #[.string h.key,.int .i64 h.b,.int .u64 h.s,.pointer h.ptr],.int .i64 6] W fun e w'=>((Io κ e∧Dk κ.up V A N C base l [] wn w')∨∃ q,e=.returned (.pointer (some ⟨q,0,none⟩))∧RN (Laid N l) n w' q L.sub∧Dk κ V A N C base l [] wn w')∧Kp [A] W w'):=
  fun W hK=>xC3 (hd.keep0 hK) n h h L 6 (RL.keep hr hK (Apt.nil _ _)) hl6
 clear hd hr hl6;rw[τ];go_enter func86,ntmps86;go_wp2_with fail;have hK0:Kp [] w (w.alloc (.cells #[.pointer (some ⟨V,0,none⟩),.string h.key,.int .i64 h.b,.int .u64 h.s,.pointer h.ptr] 83)):=(Kp.refl _ _).alloc _;refine (HN.out _ hK0).mono ?_;rintro e w1 ⟨(⟨⟨hnq,p,rfl⟩,hD1⟩|⟨q,rfl,hN1,hD1⟩),hK1⟩
 ·go_wp2;exact⟨rfl,.inl ⟨⟨hnq,p,rfl⟩,hD1⟩,(hK0.mono (by simp)).tr hK1⟩
 have HE:Hid (RN (Laid N l) n w1 q L.sub∧Dk κ V A N C base l [] wn w1∧Kp [A] w w1):=⟨hN1,hD1,(hK0.mono (by simp)).tr hK1⟩;clear hN1 hD1 hK1 HN hK0;go_wp2;go_ret;exact⟨.inr ⟨q,rfl,HE.out.1,HE.out.2.1⟩,HE.out.2.2⟩
theorem xM5(O:qE1)(V:Nat)(t:Tn 0)(q M:Nat)(r:HL)(w:World)(hq:RN O 0 w q t):
  Calls prog 145 #[.map (some M),τ V r,.pointer (some ⟨q,0,none⟩)] w fun e w'=>e=.returned (.tuple #[])∧Kp [] w w':=by
 obtain⟨vp,hq,hsp⟩:=hq;have hqs:=ζ hq;have c2:=ξ hq 2;simp only[υ,zG,zH,zI] at c2;clear hq hsp;rw[τ];go_enter func145,ntmps145;go_wp2_with fail;refine wp_loop_rounds 1 ?_;rw[rounds_succ];go_wp2
 go_end0
 exact⟨rfl,(Kp.refl _ _).alloc _⟩
def qY4(κ:Kd)(V A N C base:Nat)(l:List UInt8)(wn:Int)(n:Nat):Prop:=∀ (t:Tn n) (q M c:Nat) (ks:List Nat) (r:HL) (w:World),Dk κ V A N C base l [] wn w→RN (Laid N l) n w q t→BS w M c ks→c+qB9 n t≤1000000→
 Calls prog 145 #[.map (some M),τ V r,.pointer (some ⟨q,0,none⟩)] w fun e w'=>((Io κ e∧Dk κ.up V A N C base l [] wn w')∨(e=.returned (.tuple #[])∧BS w' M (c+(qB9 n t-1)) (qF6 n t ks)∧Dk κ V A N C base l [] wn w'))∧Kp [M,A] w w'
theorem xM4(V A N C base:Nat)(l:List UInt8)(wn:Int):qY4 κ V A N C base l wn 0:=fun t q M c ks r w hd hq hM hc=>by
 refine (xM5 _ V t q M r w hq).mono ?_;rintro e w' ⟨rfl,hK⟩;exact⟨.inr ⟨rfl,(hM.kp hK (by simp)).mono (by omega),hd.keep0 hK⟩,hK.mono (by simp)⟩
theorem xM3(V A N C base:Nat)(l:List UInt8)(wn:Int)(h1:N≤1000)(h2:N*128≤l.length)(h3:C≠A)(h4:V≠A)(n:Nat)(IH:qY4 κ V A N C base l wn n):qY4 κ V A N C base l wn (n+1):=by
 intro t q M c ks r w hd hq hM hc;obtain⟨vl,hq,hs,hsl,hbo⟩:=hq;obtain⟨lb,lc,rfl⟩:=qM0 hsl;obtain⟨ln,hln⟩:∃ ln,ln=hs.length:=⟨_,rfl⟩;obtain⟨lv,hlv⟩:∃ lv:Int,lv=((n+1:Nat):Int):=⟨_,rfl⟩;rw[←hln,←hlv] at hq;have HSL:=zh hsl;have HBO:=zh hbo;have HLN:Hid (ln=hs.length∧lv=((n+1:Nat):Int)):=⟨hln,hlv⟩;have HQ:=zh hq;have HD:=zh hd;have HM:=zh hM;have hqs:=ζ hq;have q2:=ξ hq 2;simp only[υ,zG,zH,zI] at q2;have hlen:=qG9 (fun l:Lnk (Tn n)=>qB9 n l.sub) (η t) (fun x _=>by cases n<;>simp[qB9]);have hmn:qB9 (n+1) t=1+meas (fun l:Lnk (Tn n)=>qB9 n l.sub) (η t):=rfl;have hlb:ln≤1000000:=by rw[hln,hbo.1];omega
 clear hsl hbo hln hlv hq hd hM hlen;rw[τ];go_enter func145,ntmps145;go_wp2_with fail;have hT0:=μ w (.cells #[.pointer (some ⟨V,0,none⟩),.string r.key,.int .i64 r.b,.int .u64 r.s,.pointer r.ptr] 83);have hK0:Kp [] w (w.alloc (.cells #[.pointer (some ⟨V,0,none⟩),.string r.key,.int .i64 r.b,.int .u64 r.s,.pointer r.ptr] 83)):=(Kp.refl _ _).alloc _
 go_loopw [13] (fun i wr=>∃ j:Nat,j≤ln∧i=.int .i64 j∧w.heap.size<wr.heap.size∧Hid (BS wr M (c+meas (fun l:Lnk (Tn n)=>qB9 n l.sub) ((η t).take j)) (((η t).take j).foldl (qH0 (qF6 n)) ks))∧Hid (Dk κ V A N C base l [] wn wr)∧Hid (Kp [M,A] w wr)∧Hid (wr.heap[w.heap.size]?=some (.cells #[.pointer (some ⟨V,0,none⟩),.string r.key,.int .i64 r.b,.int .u64 r.s,.pointer r.ptr] 83))) (fun i _=>ln-(intOf i).toNat)
 case atStart=>exact⟨0,Nat.zero_le _,rfl,by simp,by show BS _ _ _ _;simpa [qE2] using HM.out.kp hK0 (by simp),(HD.out.keep0 hK0),hK0.mono (by simp),hT0⟩
 case round=>
  obtain⟨j,hj,rfl,hsw,HMr,HDr,HKr,HTr⟩:=hrel;clear q2 hT0 hK0;have hap:=qY7 HD.out HM.out;have hQr:=HKr.out.heap HQ.out (qQ4 HD.out HM.out HQ.out (by decide));by_cases hlt:j<ln
  ·have hjl:j<hs.length:=by have:=HLN.out;omega
   have hjm:j<(η t).length:=by rw[←HBO.out.1];exact hjl
   obtain⟨gb,off,cp',cur,fq,hv,hcp,hrow,hcur⟩:=HSL.out.link (by omega);obtain⟨c0,c1,c2,c3⟩:=hcur j hjl;simp only[Value.slice.injEq,true_and] at hv;obtain⟨rfl,rfl⟩:=hv;have hR:=HKr.out.heap hrow (qQ4 HD.out HM.out hrow (by decide));have a0:=ξ hR (off+j*4);have a1:=ξ hR (off+j*4+1);have a2:=ξ hR (off+j*4+2);have a3:=ξ hR (off+j*4+3);rw[c0] at a0;rw[c1] at a1;rw[c2] at a2;rw[c3] at a3;have hgs:=ζ hR;have hjb:(j:Int)<(ln:Int):=by omega
   have HRL:Hid (RL (Laid N l) n wr hs[j] (η t)[j]):=RL.keep (HBO.out.2 j hjl hjm) HKr.out hap;have hms:=qK8 (fun l:Lnk (Tn n)=>qB9 n l.sub) (η t) j hjm;have hma:=qX2 (fun l:Lnk (Tn n)=>qB9 n l.sub) (η t) j hjm;have hnp:1≤qB9 n (η t)[j].sub:=by cases n<;>simp[qB9]
   have hfs:((η t).take (j+1)).foldl (qH0 (qF6 n)) ks=qH0 (qF6 n) (((η t).take j).foldl (qH0 (qF6 n)) ks) (η t)[j]:=by rw[List.take_succ_eq_append_getElem hjm,List.foldl_append];rfl
   have HFS:=zh hfs;clear hcur hcp hrow c0 c1 c2 c3 hfs;go_wp2_with fail;obtain⟨w1,hw1,h71,hK1,hs1⟩:=qE8 wr (.cells #[.string hs[j].key,.int .i64 hs[j].b,.int .u64 hs[j].s,.pointer hs[j].ptr] 81);rw[←hw1];clear hw1 a0 a1 a2 a3 hR hgs hjb;have hM1:=HMr.out.kp hK1 (by simp);have hD1:=(HDr.out.keep0 hK1);refine (show Calls _ _ _ _ _ from zS2 (E:=EL V A N C l wn h1 h2 h3 h4) (fun n b s t h=>by have:=(show Laid N l n b s t from h).at;omega) n M _ _ hs[j] (η t)[j] w1 hM1 (RL.keep HRL.out hK1 (Apt.nil _ _)) (by omega)).mono ?_;rintro e w2 ⟨go,ks1,rfl,hM2,hK2,hst⟩;have hD2:=hD1.keepM hM1 hK2;have hKw2:Kp [M,A] w w2:=(HKr.out.tr hK1).tr hK2;have hQ2:=hKw2.heap HQ.out (qQ4 HD.out HM.out HQ.out (by decide));have hq2s:=ζ hQ2;have q0:=ξ hQ2 0;simp only[υ,zG,zH,zI] at q0;have hnm:∀ k c t fr,w1.heap[k]?=some (.cells c t fr)→k ∉ [M]:=fun k c t fr e hm=>by
    obtain⟨es,cl,h2⟩:=hM1.at;rw[←List.mem_singleton.1 hm,e] at h2;cases h2
   have hT2:=hK2.heap (hK1.hp HTr.out) (hnm _ _ _ _ (hK1.hp HTr.out));have h72:=hK2.heap h71 (hnm _ _ _ _ h71);have hs2:=hK2.size;have HST:=zh hst;have HM2:=zh hM2;have HD2:=zh hD2;have HK2:=zh hKw2;have HT2:=zh hT2;have HRL2:Hid (RL (Laid N l) n w2 hs[j] (η t)[j]):=RL.keep (HBO.out.2 j hjl hjm) hKw2 hap;have H72:=zh h72;have HQ2:=zh hQ2;clear hst hM2 hD2 hKw2 hQ2 hT2 h72 hnm hK1 hK2 hM1 hD1 h71 hap hQr
   cases go with
   | false=>
    go_wp2;exact⟨⟨j+1,by omega,by go_num,by omega,by show BS _ _ _ _;rw[HFS.out,HST.out,hms];exact HM2.out.mono (by omega),HD2,HK2,HT2⟩,by simp[intOf];omega⟩
   | true=>
    by_cases hn0:n=0
    ·have hl1:¬(1:Int)<lv:=by have:=HLN.out;omega
     go_wp2;refine⟨⟨j+1,by omega,by go_num,by omega,?_,HD2,HK2,HT2⟩,by simp[intOf];omega⟩;show BS _ _ _ _;rw[HFS.out,HST.out,hms];subst hn0;exact HM2.out.mono (by omega)
    ·have hl1:(1:Int)<lv:=by have:=HLN.out;omega
     go_wp2_with fail;have hS2:w2.drew.heap[w.heap.size]?=some (.cells #[.pointer (some ⟨V,0,none⟩),.string r.key,.int .i64 r.b,.int .u64 r.s,.pointer r.ptr] 83)∧w2.drew.heap[wr.heap.size]?=some (.cells #[.string hs[j].key,.int .i64 hs[j].b,.int .u64 hs[j].s,.pointer hs[j].ptr] 81)∧w2.drew.heap[q]?=some (υ lv (.slice none 0 0) (.slice (some ⟨gb,off,none⟩) ln lc)):=⟨HT2.out,H72.out,HQ2.out⟩;refine wp_region_held_drew (S:=fun W=>W.heap[w.heap.size]?=some (.cells #[.pointer (some ⟨V,0,none⟩),.string r.key,.int .i64 r.b,.int .u64 r.s,.pointer r.ptr] 83)∧W.heap[wr.heap.size]?=some (.cells #[.string hs[j].key,.int .i64 hs[j].b,.int .u64 hs[j].s,.pointer hs[j].ptr] 81)∧W.heap[q]?=some (υ lv (.slice none 0 0) (.slice (some ⟨gb,off,none⟩) ln lc))) (by kernel_rfl) hS2 (fun _=>?_);refine zU 0 (.map (some M)) hS2 ?_;refine zV 1 (.agg #[.pointer (some ⟨V,0,none⟩),.string r.key,.int .i64 r.b,.int .u64 r.s,.pointer r.ptr]) rfl (fun W hS=>by have a:=ξ hS.1;clear hS;go_simp) hS2 ?_;refine zV 2 (.agg #[.pointer (some ⟨V,0,none⟩),.string r.key,.int .i64 r.b,.int .u64 r.s,.pointer r.ptr]) rfl (fun W hS=>by have a:=ξ hS.1;clear hS;go_simp) hS2 ?_;refine zV 3 (.agg #[.string hs[j].key,.int .i64 hs[j].b,.int .u64 hs[j].s,.pointer hs[j].ptr]) rfl (fun W hS=>by have a:=ξ hS.2.1;clear hS;go_simp) hS2 ?_;refine zP 4 q 0 hS2 ?_;refine zV 5 (.pointer (some ⟨q,0,none⟩)) rfl (fun W hS=>by have c:=ζ hS.2.2;clear hS;go_simp) hS2 ?_;refine zP 6 q 0 hS2 ?_;refine zV 7 (.int .i64 lv) rfl (fun W hS=>by have a:=ξ hS.2.2 0;simp only[υ,zG,zH,zI] at a;clear hS;go_simp) hS2 ?_;refine zq 8 fun K hK=>?_;go_simp;have hKd:Kp [] w2 w2.drew:=(Kp.refl _ _).drew;have hDd:=HD2.out.keep0 hKd;refine (show Calls _ _ _ _ _ from xC3 hDd n hs[j] r (η t)[j] lv (RL.keep HRL2.out hKd (Apt.nil _ _)) (fun _=>by have:=HLN.out;omega)).mono ?_;rintro e w3 ⟨(⟨⟨hnq,p,rfl⟩,hD3⟩|⟨q3,rfl,hq3,hD3⟩),hK3⟩
     ·clear hK;go_wp2;exact⟨rfl,.inl ⟨⟨hnq,p,rfl⟩,hD3⟩,(HK2.out.tr hKd).tr hK3⟩
     have hM3:BS w3 M _ ks1:=(HM2.out.kp hKd (by simp)).kp hK3 (by simpa using HD2.out.mA HM2.out);have hS3:=And.intro (hK3.heap hS2.1 (hDd.nin hS2.1 (by decide))) (And.intro (hK3.heap hS2.2.1 (hDd.nin hS2.2.1 (by decide))) (hK3.heap hS2.2.2 (hDd.nin hS2.2.2 (by decide))));refine hK.out _ _ hS3 (fun _=>?_);clear hK K
     try simp only[zZ]
     refine zq 9 fun K hK=>?_;go_simp;refine (show Calls _ _ _ _ _ from IH (η t)[j].sub q3 M _ ks1 r w3 hD3 hq3 hM3 (by omega)).mono ?_;rintro e w4 ⟨(⟨⟨hnq,p,rfl⟩,hD4⟩|⟨rfl,hM4,hD4⟩),hK4⟩
     ·clear hK;go_wp2;exact⟨rfl,.inl ⟨⟨hnq,p,rfl⟩,hD4⟩,((HK2.out.tr hKd).tr hK3).tr hK4⟩
     have hni:∀ {k:Nat} {c:Array Value} {tt:TypeId} {fr:Nat × Nat},w3.heap[k]?=some (.cells c tt fr)→tt ∉ qL5→k ∉ [M,A]:=fun h1 h2=>qQ4 hD3 hM3 h1 h2;have hS4:=And.intro (hK4.heap hS3.1 (hni hS3.1 (by decide))) (And.intro (hK4.heap hS3.2.1 (hni hS3.2.1 (by decide))) (hK4.heap hS3.2.2 (hni hS3.2.2 (by decide))));refine hK.out _ _ hS4 (fun _=>?_);clear hK K;refine zd ?_
     try simp only[zZ]
     have HE4:Hid (BS w4 M (c+meas (fun l:Lnk (Tn n)=>qB9 n l.sub) ((η t).take j)+1+(qB9 n (η t)[j].sub-1)) (qF6 n (η t)[j].sub ks1)∧Dk κ V A N C base l [] wn w4∧Kp [M,A] w w4∧w.heap.size<w4.heap.size):=⟨hM4,hD4,((HK2.out.tr hKd).tr hK3).tr hK4,ζ hS4.1⟩;have HT4:=zh hS4.1;clear hM4 hD4 hK4 hS4 hS3 hM3 hK3 hD3 hq3 hDd hKd hS2 hni;go_wp2;refine⟨⟨j+1,by omega,by go_num,HE4.out.2.2.2,?_,HE4.out.2.1,HE4.out.2.2.1,HT4⟩,by simp[intOf];omega⟩;show BS _ _ _ _;rw[HFS.out,HST.out,hms];exact HE4.out.1.mono (by omega)
  ·have hjb:¬(j:Int)<(ln:Int):=by omega
   have hje:(η t).take j=η t:=List.take_of_length_le (by rw[←HBO.out.1];have:=HLN.out;omega);have hMe:=HMr.out;rw[hje] at hMe;have HME:Hid (BS wr M (c+(qB9 (n+1) t-1)) (qF6 (n+1) t ks)):=hMe.mono (by rw[hmn];omega);clear hMe hje hap hQr;go_wp2
   go_end0
   exact⟨.inr ⟨rfl,by first | exact HME.out | (have h:=HME.out;rw[hmn,Nat.add_sub_cancel_left] at h;exact h),HDr.out⟩,HKr.out⟩
theorem zR7(V A N C base:Nat)(l:List UInt8)(wn:Int)(h1:N≤1000)(h2:N*128≤l.length)(h3:C≠A)(h4:V≠A):∀ n,qY4 κ V A N C base l wn n
 | 0=>xM4 V A N C base l wn
 | n+1=>xM3 V A N C base l wn h1 h2 h3 h4 n (zR7 V A N C base l wn h1 h2 h3 h4 n)
variable {κ:Kd}
theorem zR3{V A N C base:Nat}{l:List UInt8}{wn:Int}(h1:N≤1000)(h2:N*128≤l.length)(h3:C≠A)(h4:V≠A)(M c:Nat)(ks:List Nat)(v:Value)(hs:List HL)(rs:List Root)(w:World)(hd:Dk κ V A N C base l [] wn w)(hv:Slc w 83 5 v hs.length (qL1 V hs))(hl:hs.length=rs.length)(hr:∀ i (g1:i<hs.length) (g2:i<rs.length),RR (EL V A N C l wn h1 h2 h3 h4).toEnv w hs[i] rs[i]∧(∀ n l,rs[i]=.at n l→l.key=⟨#[]⟩))(hM:BS w M c ks)(hc:c+meas qC4 rs<1000000)(hn:hs.length≤1000):
  Calls prog 102 #[.map (some M),v] w fun e w'=>((Io κ e∧Dk κ.up V A N C base l [] wn w')∨(e=.returned (.tuple #[])∧BS w' M (c+meas qC4 rs) (rs.foldl qA5 ks)∧Dk κ V A N C base l [] wn w'))∧Kp [M,A] w w':=by
 obtain⟨bs,cp,rfl⟩:=qM0 hv;obtain⟨ln,hln⟩:∃ ln,ln=hs.length:=⟨_,rfl⟩;have HV:=zh hv;rw[←hln];have HLN:Hid (ln=hs.length∧hs.length=rs.length):=⟨hln,hl⟩;have HR:=zh hr;have HD:=zh hd;have HM:=zh hM;have hlb:ln≤1000:=by omega
 clear hv hln hl hr hd hM hn;go_enter func102,ntmps102;go_wp2_with fail
 go_loopw [8] (fun i wr=>∃ j:Nat,j≤ln∧i=.int .i64 j∧Hid (BS wr M (c+meas qC4 (rs.take j)) ((rs.take j).foldl qA5 ks))∧Hid (Dk κ V A N C base l [] wn wr)∧Hid (Kp [M,A] w wr)) (fun i _=>ln-(intOf i).toNat)
 case atStart=>exact⟨0,Nat.zero_le _,rfl,by show BS _ _ _ _;simpa [qE2] using HM.out,HD,Kp.refl _ _⟩
 case round=>
  obtain⟨j,hj,rfl,HMr,HDr,HKr⟩:=hrel;by_cases hlt:j<ln
  ·have hjl:j<hs.length:=by have:=HLN.out;omega
   have hjm:j<rs.length:=by have:=HLN.out;omega
   obtain⟨gb,off,cp',cur,fq,hv,hcp,hrow,hcur⟩:=HV.out.tree (by omega);obtain⟨c0,c1,c2,c3,c4⟩:=hcur j hjl;simp only[Value.slice.injEq,true_and] at hv;obtain⟨rfl,rfl⟩:=hv;have hR:=HKr.out.heap hrow (qQ4 HD.out HM.out hrow (by decide));have a0:=ξ hR (off+j*5);have a1:=ξ hR (off+j*5+1);have a2:=ξ hR (off+j*5+2);have a3:=ξ hR (off+j*5+3);have a4:=ξ hR (off+j*5+4);rw[c0] at a0;rw[c1] at a1;rw[c2] at a2;rw[c3] at a3;rw[c4] at a4;have hgs:=ζ hR;have hjb:(j:Int)<(ln:Int):=by omega
   have hms:=qK8 qC4 rs j hjm;have hma:=qX2 qC4 rs j hjm;have HFS:Hid ((rs.take (j+1)).foldl qA5 ks=qA5 ((rs.take j).foldl qA5 ks) rs[j]):=by show _=_;rw[List.take_succ_eq_append_getElem hjm,List.foldl_append];rfl
   clear hcur hcp hrow c0 c1 c2 c3 c4;go_wp2_with fail;obtain⟨w1,hw1,h51,hK1,hs1⟩:=qE8 wr (.cells #[.pointer (some ⟨V,0,none⟩),.string hs[j].key,.int .i64 hs[j].b,.int .u64 hs[j].s,.pointer hs[j].ptr] 83);rw[←hw1];clear hw1 a0 a1 a2 a3 a4 hR hgs hjb;have hM1:=HMr.out.kp hK1 (by simp);have hD1:=(HDr.out.keep0 hK1);have hKw1:Kp [M,A] w w1:=HKr.out.tr hK1;have hap:=qY7 HD.out HM.out;obtain⟨hRR,hkey⟩:=HR.out j hjl hjm
   cases hrj:rs[j] with
   | none=>
    rw[hrj] at hRR;have hz:hs[j]=⟨⟨#[]⟩,0,0,none⟩:=hRR;refine (show Calls _ _ _ _ _ from (by have h:=qZ9 V w1;rw[←hz] at h;exact h:Calls prog 85 #[τ V hs[j]] w1 fun e w'=>e=.returned (.bool true)∧Kp [] w1 w')).mono ?_;rintro e w2 ⟨rfl,hK2⟩;have HE2:Hid (BS w2 M (c+meas qC4 (rs.take j)) ((rs.take j).foldl qA5 ks)∧Dk κ V A N C base l [] wn w2∧Kp [M,A] w w2):=⟨hM1.kp hK2 (by simp),(hD1.keep0 hK2),hKw1.tr hK2⟩;have h52:=hK2.hp h51;have h52s:=ζ h52;clear hM1 hD1 hKw1 hK2 hK1 h51 h52 hRR hkey hz hap;go_wp2;refine⟨⟨j+1,by omega,by go_num,?_,HE2.out.2.1,HE2.out.2.2⟩,by simp[intOf];omega⟩;show BS _ _ _ _;rw[HFS.out,hrj,hms,hrj];exact HE2.out.1.mono (by simp[qC4])
   | «at» n l_=>
    rw[hrj] at hRR;have hrl1:RL (Laid N l) n w1 hs[j] l_:=RL.keep hRR hKw1 hap;refine (show Calls _ _ _ _ _ from qW2 (EL V A N C l wn h1 h2 h3 h4).toEnv n hs[j] l_ w1 hrl1 (hkey n l_ hrj)).mono ?_;rintro e w2 ⟨rfl,hK2⟩;have hM2:=hM1.kp hK2 (by simp);have hD2:=(hD1.keep0 hK2);have hKw2:Kp [M,A] w w2:=hKw1.tr hK2;have h52:=hK2.hp h51;have h52s:=ζ h52;have hrl2:RL (Laid N l) n w2 hs[j] l_:=RL.keep hRR hKw2 hap;have d1:=ξ h52;rw[hrj] at hma hms;clear hM1 hD1 hKw1 hK2 hK1 h51 hkey hrl1;have hnp:1≤qC4 (.at n l_):=by simp only[qC4];cases n<;>simp[qB9]
    go_wp2_with fail;refine (show Calls _ _ _ _ _ from zS2 (E:=EL V A N C l wn h1 h2 h3 h4) (fun n b s t h=>by have:=(show Laid N l n b s t from h).at;omega) n M _ _ hs[j] l_ w2 hM2 hrl2 (by omega)).mono ?_;rintro e w3 ⟨go,ks1,rfl,hM3,hK3,hst⟩;have hnm:∀ {S:List Nat} {W:World} {cc:Nat} {kk:List Nat} {k:Nat} {c:Array Value} {t:TypeId} {fr:Nat × Nat},BS W M cc kk→W.heap[k]?=some (.cells c t fr)→k ∉ [M]:=fun hB e hm=>by
     obtain⟨es,cl,h2⟩:=hB.at;rw[←List.mem_singleton.1 hm,e] at h2;cases h2
    have hD3:=hD2.keepM hM2 hK3;have hKw3:Kp [M,A] w w3:=hKw2.tr hK3;have h53:=hK3.heap h52 (hnm (S:=[]) hM2 h52);have HST:=zh hst;have HM3:=zh hM3;have HD3:=zh hD3;have HK3:=zh hKw3;have HRL3:Hid (RL (Laid N l) n w3 hs[j] l_):=RL.keep hRR hKw3 hap;have H53:=zh h53;clear hst hM3 hD3 hKw3 h53 hnm hK3 hM2 hD2 hKw2 h52 hrl2 hap hRR d1
    cases go with
    | false=>
     go_wp2;refine⟨⟨j+1,by omega,by go_num,?_,HD3,HK3⟩,by simp[intOf];omega⟩;show BS _ _ _ _;rw[HFS.out,hrj,hms,qA5,HST.out];exact HM3.out.mono (by omega)
    | true=>
     go_wp2_with fail;have hS3:w3.drew.heap[wr.heap.size]?=some (.cells #[.pointer (some ⟨V,0,none⟩),.string hs[j].key,.int .i64 hs[j].b,.int .u64 hs[j].s,.pointer hs[j].ptr] 83):=H53.out;refine wp_region_held_drew (S:=fun W=>W.heap[wr.heap.size]?=some (.cells #[.pointer (some ⟨V,0,none⟩),.string hs[j].key,.int .i64 hs[j].b,.int .u64 hs[j].s,.pointer hs[j].ptr] 83)) (by kernel_rfl) hS3 (fun _=>?_);refine zU 0 (.map (some M)) hS3 ?_;refine zV 1 (.agg #[.pointer (some ⟨V,0,none⟩),.string hs[j].key,.int .i64 hs[j].b,.int .u64 hs[j].s,.pointer hs[j].ptr]) rfl (fun W hS=>by have a:=ξ hS;clear hS;go_simp) hS3 ?_;refine zV 2 (.agg #[.pointer (some ⟨V,0,none⟩),.string hs[j].key,.int .i64 hs[j].b,.int .u64 hs[j].s,.pointer hs[j].ptr]) rfl (fun W hS=>by have a:=ξ hS;clear hS;go_simp) hS3 ?_;refine zq 3 fun K hK=>?_;go_simp;have hKd:Kp [] w3 w3.drew:=(Kp.refl _ _).drew;have hDd:=HD3.out.keep0 hKd;refine (show Calls _ _ _ _ _ from jW3 hDd n hs[j] l_ (RL.keep HRL3.out hKd (Apt.nil _ _))).mono ?_;rintro e w4 ⟨(⟨⟨hnq,p,rfl⟩,hD4⟩|⟨q4,rfl,hq4,hD4⟩),hK4⟩
     ·clear hK;go_wp2;exact⟨rfl,.inl ⟨⟨hnq,p,rfl⟩,hD4⟩,(HK3.out.tr hKd).tr hK4⟩
     have hM4:BS w4 M _ ks1:=(HM3.out.kp hKd (by simp)).kp hK4 (by simpa using HD3.out.mA HM3.out);have hS4:=hK4.heap hS3 (hDd.nin hS3 (by decide));refine hK.out _ _ hS4 (fun _=>?_);clear hK K
     try simp only[zZ]
     refine zq 4 fun K hK=>?_;go_simp;have hrn:qC4 (.at n l_)=qB9 n l_.sub:=rfl;refine (show Calls _ _ _ _ _ from zR7 V A N C base l wn h1 h2 h3 h4 n l_.sub q4 M _ ks1 hs[j] w4 hD4 hq4 hM4 (by omega)).mono ?_;rintro e w5 ⟨(⟨⟨hnq,p,rfl⟩,hD5⟩|⟨rfl,hM5,hD5⟩),hK5⟩
     ·clear hK;go_wp2;exact⟨rfl,.inl ⟨⟨hnq,p,rfl⟩,hD5⟩,((HK3.out.tr hKd).tr hK4).tr hK5⟩
     refine hK.out _ _ (hK5.heap hS4 (qQ4 hD4 hM4 hS4 (by decide))) (fun _=>?_);clear hK K;refine zd ?_
     try simp only[zZ]
     have HE5:Hid (BS w5 M (c+meas qC4 (rs.take j)+1+(qB9 n l_.sub-1)) (qF6 n l_.sub ks1)∧Dk κ V A N C base l [] wn w5∧Kp [M,A] w w5):=⟨hM5,hD5,((HK3.out.tr hKd).tr hK4).tr hK5⟩;clear hM5 hD5 hK5 hS4 hM4 hK4 hD4 hq4 hDd hKd hS3;go_wp2;refine⟨⟨j+1,by omega,by go_num,?_,HE5.out.2.1,HE5.out.2.2⟩,by simp[intOf];omega⟩;show BS _ _ _ _;rw[HFS.out,hrj,hms,qA5,HST.out];exact HE5.out.1.mono (by omega)
  ·have hjb:¬(j:Int)<(ln:Int):=by omega
   have hje:rs.take j=rs:=List.take_of_length_le (by have:=HLN.out;omega);have hMe:=HMr.out;rw[hje] at hMe;have HME:=zh hMe;clear hMe hje;go_wp2
   go_end0
   exact⟨.inr ⟨rfl,HME.out,HDr.out⟩,HKr.out⟩
variable {κ:Kd}
theorem xE7{V A N C base:Nat}{l:List UInt8}{wn:Int}(h1:N≤1000)(h2:N*128≤l.length)(h3:C≠A)(h4:V≠A)(h:HL)(rt:Root)(v:Value)(hs:List HL)(rs:List Root)(w:World)(hd:Dk κ V A N C base l [] wn w)(hv:Slc w 83 5 v hs.length (qL1 V hs))(hl:hs.length=rs.length)(hr:∀ i (g1:i<hs.length) (g2:i<rs.length),RR (EL V A N C l wn h1 h2 h3 h4).toEnv w hs[i] rs[i]∧(∀ n l,rs[i]=.at n l→l.key=⟨#[]⟩))(hrt:RR (EL V A N C l wn h1 h2 h3 h4).toEnv w h rt)(hkt:∀ n l,rt=.at n l→l.key=⟨#[]⟩)(hc:qC4 rt+meas qC4 rs<1000000)(hn:hs.length≤1000)
  (hN2:2≤N)
  (hnew:∀ W,Dk κ V A N C base l [] wn W→RR (EL V A N C l wn h1 h2 h3 h4).toEnv W h rt→Calls prog 58 #[τ V h] W fun e w'=>e=.returned (.int .i64 (rt.news:Int))∧Kp [] W w') (hnb:rt.news≤1000000):
  Calls prog 66 #[τ V h,v] w fun e w'=>((Io κ e∧Dk κ.up V A N C base l [] wn w')∨(e=qC6 (some 3)∧(qC0 N (rs.foldl qA5 (qA5 [] rt))).length<rt.news∧Dk κ V A N C base l [] wn w')∨∃ vf,e=.returned (.tuple #[vf,.int .i64 (((qA5 [] rt).length+rt.news:Nat):Int)])∧Slc w' 3 1 vf (qC0 N (rs.foldl qA5 (qA5 [] rt))).length (ints (qC0 N (rs.foldl qA5 (qA5 [] rt))))∧rt.news≤(qC0 N (rs.foldl qA5 (qA5 [] rt))).length∧Dk κ V A N C base l [] wn w')∧Kp [A] w w':=by
 obtain⟨bs,cp,rfl⟩:=qM0 hv;obtain⟨ln,hln⟩:∃ ln,ln=hs.length:=⟨_,rfl⟩;have HV:=zh hv;rw[←hln];have HLN:=zh hln;have HR:=zh hr;have HD:=zh hd;have HT:Hid (RR (EL V A N C l wn h1 h2 h3 h4).toEnv w h rt∧∀ n l,rt=.at n l→l.key=⟨#[]⟩):=⟨hrt,hkt⟩;have HNEW:=zh hnew;clear hv hln hr hd hrt hkt hnew;rw[τ];go_enter func66,ntmps66;have hmm:=@run_makeMap prog;go_wp2_with fail;obtain⟨W,hW,hT0,hM0,hB0,hK0,hs0⟩:=qV7 w (.cells #[.pointer (some ⟨V,0,none⟩),.string h.key,.int .i64 h.b,.int .u64 h.s,.pointer h.ptr] 83) (.map #[] 0) (.cells #[.pointer (some ⟨V,0,none⟩),.string h.key,.int .i64 h.b,.int .u64 h.s,.pointer h.ptr] 83);have hbs:BS W (w.heap.size+1) 0 []:=by
  have z1:=(BS.made (w.alloc (.cells #[.pointer (some ⟨V,0,none⟩),.string h.key,.int .i64 h.b,.int .u64 h.s,.pointer h.ptr] 83))).kp ((Kp.refl [] _).alloc (.cells #[.pointer (some ⟨V,0,none⟩),.string h.key,.int .i64 h.b,.int .u64 h.s,.pointer h.ptr] 83)) (by simp);rw[←hW] at z1;simpa using z1
 rw[←hW];clear hW hmm;have hDW:=(HD.out.keep0 hK0);have hrW:=RR.kp HT.out.1 hK0 (Apt.nil _ _);refine (zR3 h1 h2 h3 h4 (w.heap.size+1) 0 [] (.slice (some ⟨w.heap.size+1+1,0,none⟩) 1 1) [h] [rt] W hDW ⟨rfl,Or.inr ⟨w.heap.size+1+1,0,1,_,_,rfl,Nat.le_refl _,Nat.le_refl _,hB0,fun j u hu=>by simpa [qL1,tcs] using hu⟩⟩ rfl (fun i g1 g2=>by have e:i=0:=(by simpa using g1);subst e;exact⟨hrW,HT.out.2⟩) hbs (by simp[qF1,qE2];omega) (by simp)).mono ?_;rintro e w1 ⟨(⟨⟨hnq,p,rfl⟩,hD1⟩|⟨rfl,hM1,hD1⟩),hK1⟩
 ·go_wp2;exact⟨rfl,.inl ⟨⟨hnq,p,rfl⟩,hD1⟩,(hK0.mono (by simp)).trans hK1 (fun i hi hlt=>by simp at hi ⊢;omega)⟩
 simp only[List.foldl_cons,List.foldl_nil,qF1,qE2,Nat.zero_add,Nat.add_zero] at hM1;have hapW:=qY7 hDW hbs;have hT1:=hK1.heap hT0 (qQ4 hDW hbs hT0 (by decide));have hr1:=RR.kp hrW hK1 hapW;have hlen:=hM1.len 3;have hcard:=hM1.card;have t:=ξ hT1;have hT1s:=ζ hT1;obtain⟨k1,hk1⟩:∃ k1,k1=(qA5 [] rt).length:=⟨_,rfl⟩;rw[←hk1] at hlen hcard;obtain⟨nw,hnw⟩:∃ nw,nw=rt.news:=⟨_,rfl⟩;have HKN:Hid (k1=(qA5 [] rt).length∧nw=rt.news):=⟨hk1,hnw⟩;have HM1:=zh hM1;have HD1:=zh hD1;have HW1:Hid (Kp [A] w w1):=(hK0.mono (by simp)).trans hK1 (fun i hi hlt=>by simp at hi ⊢;omega);have HT1:=zh hT1;have HR1:=zh hr1;clear hM1 hD1 hK1 hT1 hr1 hk1 hapW hrW hDW hbs hK0 hT0 hM0 hB0;rw[←hnw] at hnb;clear hnw;go_wp2_with fail;refine (show Calls _ _ _ _ _ from HNEW.out w1 HD1.out HR1.out).mono ?_;rintro e w2 ⟨rfl,hK2⟩;rw[←HKN.out.2];have hM2:=HM1.out.kp hK2 (by simp);have hD2:=(HD1.out.keep0 hK2);have hT2:=hK2.hp HT1.out;have hKw2:Kp [A] w w2:=HW1.out.tr hK2;have haT:Apt w [A] [83]:=fun k hk c t fr e hm=>HD.out.nin e (by rw[List.mem_singleton.1 hm];decide) hk;have hsl2:=HV.out.keep hKw2 haT;have HRS:Hid (∀ i (g1:i<hs.length) (g2:i<rs.length),RR (EL V A N C l wn h1 h2 h3 h4).toEnv w2 hs[i] rs[i]∧(∀ n l,rs[i]=.at n l→l.key=⟨#[]⟩)):=fun i g1 g2=>⟨RR.kp (HR.out i g1 g2).1 hKw2 HD.out.aptA,(HR.out i g1 g2).2⟩;have HM2:=zh hM2;have HD2:=zh hD2;have HW2:=zh hKw2;have HT2:=zh hT2;have HS2:=zh hsl2;clear hM2 hD2 hT2 hKw2 hsl2 hK2 haT t hlen;go_wp2_with fail;refine (show Calls _ _ _ _ _ from (by rw[HLN.out];exact zR3 h1 h2 h3 h4 (w.heap.size+1) (qC4 rt) (qA5 [] rt) (.slice bs hs.length cp) hs rs w2 HD2.out HS2.out hl HRS.out HM2.out hc hn:Calls prog 102 #[.map (some (w.heap.size+1)),.slice bs ln cp] w2 _)).mono ?_;rintro e w3 ⟨(⟨⟨hnq,p,rfl⟩,hD3⟩|⟨rfl,hM3,hD3⟩),hK3⟩
 ·go_wp2;exact⟨rfl,.inl ⟨⟨hnq,p,rfl⟩,hD3⟩,HW2.out.trans hK3 (fun i hi hlt=>by simp at hi ⊢;omega)⟩
 have hT3:=hK3.heap HT2.out (qQ4 HD2.out HM2.out HT2.out (by decide));have hr3:=RR.kp (RR.kp HT.out.1 HW2.out HD.out.aptA) hK3 (qY7 HD2.out HM2.out);have hKw3:Kp [A] w w3:=HW2.out.trans hK3 (fun i hi hlt=>by simp at hi ⊢;omega);have t:=ξ hT3;have hT3s:=ζ hT3;go_wp2_with fail;refine (jO6 (w.heap.size+1) _ V A N _ w3 hM3 hD3.hV hN2 h1).mono ?_;rintro e w4 ⟨vf,rfl,hsf,hK4⟩;obtain⟨fs,hfs⟩:∃ fs,fs=qC0 N (rs.foldl qA5 (qA5 [] rt)):=⟨_,rfl⟩;rw[←hfs] at hsf;obtain⟨fb,fc,rfl⟩:=qM0 hsf;obtain⟨fl,hfl⟩:∃ fl,fl=fs.length:=⟨_,rfl⟩;have hT4:=hK4.hp hT3;have t4:=ξ hT4;have hT4s:=ζ hT4;have hD4:=(hD3.keep0 hK4);have hr4:=RR.kp hr3 hK4 (Apt.nil _ _);have HF4:Hid (Slc w4 3 1 (.slice fb fl fc) fs.length (ints fs)∧fl=fs.length∧fs=qC0 N (rs.foldl qA5 (qA5 [] rt))):=⟨by rw[hfl];exact hsf,hfl,hfs⟩;rw[←hfl];have HD4:=zh hD4;have HK4:Hid (Kp [A] w w4):=hKw3.tr hK4;have HR4:=zh hr4;clear t hT3 hM3 hD3 hK3 hr3 hKw3 hsf hK4 hT4 hD4 hr4 hfs hfl hT3s;go_wp2_with fail;refine (show Calls _ _ _ _ _ from HNEW.out w4 HD4.out HR4.out).mono ?_;rintro e w5 ⟨rfl,hK5⟩;rw[←HKN.out.2];have HE:Hid (Slc w5 3 1 (.slice fb fl fc) fs.length (ints fs)∧Dk κ V A N C base l [] wn w5∧Kp [A] w w5):=⟨HF4.out.1.keep0 hK5,HD4.out.keep0 hK5,HK4.out.tr hK5⟩;clear hK5 t4;by_cases hlt:fl<nw
 ·have hgt:(fl:Int)<(nw:Int):=by omega
  go_wp2;exact⟨rfl,rfl,.inr (.inl ⟨rfl,by rw[←HF4.out.2.2,←HF4.out.2.1,←HKN.out.2];exact hlt,HE.out.2.1⟩),HE.out.2.2⟩
 have hgt:¬(fl:Int)<(nw:Int):=by omega
 go_wp2
 go_ret2
 refine⟨.inr (.inr ⟨.slice fb fl fc,?_,?_,?_,HE.out.2.1⟩),HE.out.2.2⟩
 ·rw[←HKN.out.1,←HKN.out.2,Int.natCast_add];rfl
 ·rw[←HF4.out.2.2];exact HE.out.1
 ·rw[←HF4.out.2.2,←HF4.out.2.1,←HKN.out.2];omega
end Go.Proofs.YtdohpenfkdckiabGreatDoor
namespace Go.Proofs.YtdohpenfkdckiabGreatDoor
open Go.Proofs.Tryz
open Go.RowKit
variable {κ:Kd}
theorem jQ9{V A N C base:Nat}{l:List UInt8}{wn:Int}{w:World}(hd:Dk κ V A N C base l [] wn w)(E:Env)(hO:∀ (n b:Nat) (s:Int) (t:Tn n),E.O n b s t→b≤1000000∧0≤s)(rt:Root)(h:HL)(fr:List Nat)(v:Value)(hr:RR E w h rt)(ho:OkR rt)(hn:rt.news≤fr.length)(hf:∀ b∈fr,b<N)(hl:fr.length≤10000)(hv:Slc w 3 1 v fr.length (ints fr)):
  Calls prog 69 #[τ V h,v] w fun e w'=>((∃ b,w.heap.size≤b∧qV4 κ V A N C b l wn fr rt.news e w')∨(e=.returned (.agg #[.int .i64 (qB5 rt fr).1.b,.int .u64 (qB5 rt fr).1.s])∧∃ b,w.heap.size≤b∧Dk κ V A N C b (laidAll l (qB5 rt fr).2) [] (nk wn (qB5 rt fr).2.length) w'))∧Kp [A,C] w w':=by
 cases rt with
 | none=>
  have hh:h=⟨⟨#[]⟩,0,0,none⟩:=hr;subst hh;exact jV7 hd fr v hv
 | «at» n L=>exact jV6 hd E.O hO n h L fr v hr ho hn hf hl hv
theorem xE6{V A N C:Nat}{l:List UInt8}{wr:Int}(hN:N≤1000)(hl:N*128≤l.length)(hAC:C≠A)(hVA:V≠A){rt:Root}{h:HL}{W:World}(hr:RR (EL V A N C l wr hN hl hAC hVA).toEnv W h rt)(hg:RGood rt)(hsz:rt.cont.length≤1000000):Calls prog 58 #[τ V h] W fun e w'=>e=.returned (.int .i64 (rt.news:Int))∧Kp [] W w':=qX6 (EL V A N C l wr hN hl hAC hVA).toEnv rt h W hr hg hsz
theorem xC1(c:Int)(a:Nat):∀ b,nk (nk c a) b=nk c (a+b)
 | 0=>rfl
 | b+1=>by rw[nk,xC1 c a b,←Nat.add_assoc,nk]
def qV3(N:Nat)(l:List UInt8)(sN rb rs:Int)(rt nw:Root)(rds:List Root)(i j:Nat)(l1:List UInt8)(ws1:List (Nat × List UInt8)):Prop:=
 (l1=l∧(ws1=[]∨ws1=[(i,qB4 (sN+1) rb rs)]))∨
 (l1=qB6 l i (qB4 (sN+1) rb rs)∧∀ x∈ws1,x.1∈qC0 N ((rds++[nw]).foldl qA5 (qA5 [] rt)))∨
 (∃ fr,fr=qC0 N ((rds++[nw]).foldl qA5 (qA5 [] rt))∧rt.news≤fr.length∧l1=laidAll (qB6 l i (qB4 (sN+1) rb rs)) (qB5 rt fr).2∧(ws1=[]∨ws1=[(j,qB4 (sN+1+1) (qB5 rt fr).1.b (qB5 rt fr).1.s)]))
def xI3(κ:Kd)(St A N C:Nat)(s:Sto)(l:List UInt8)(wr:Int)(rt nw:Root)(P:List HL→List Root→Prop)(i j:Nat)(e:Ending)(w:World):Prop:=
 Io κ e∧∃ hs rs b l1 ws1 k,(∃ s1:Sto,w.heap[St]?=some (ν 1 s1)∧s1.V=s.V∧s1.M=s.M∧s1.po=s.po∧s1.bg=s.bg∧s1.wr=s.wr)∧P hs rs∧qV3 N l s.N s.rb s.rs rt nw rs i j l1 ws1∧k≤rt.news+2∧Dk κ.up s.V A N C b l1 ws1 (nk wr k) w
theorem xQ4{St A N C base:Nat}{s:Sto}{l:List UInt8}{wr:Int}{w:World}(h:HL)(rt nw:Root)(P:List HL→List Root→Prop)(hN2:2≤N)(hN:N≤1000)(hl:N*128≤l.length)(hAC:C≠A)(hVA:s.V≠A)
  (hSt:w.heap[St]?=some (ν 1 s)) (hd:Dk κ s.V A N C base l [] wr w) (hr:RR (EL s.V A N C l wr hN hl hAC hVA).toEnv w h rt) (hkt:∀ n l,rt=.at n l→l.key=⟨#[]⟩) (hg:RGood rt) (hsz:rt.cont.length≤1000000) (hnb:rt.news≤1000000) (hok:OkR rt)
  (hnow:RR (EL s.V A N C l wr hN hl hAC hVA).toEnv w ⟨⟨#[]⟩,s.rb,s.rs,none⟩ nw) (hkn:∀ n l,nw=.at n l→l.key=⟨#[]⟩) (hN0:0≤s.N) (hN1:s.N≤999999999) (hb0:0≤s.rb) (hb1:s.rb≤1000) (hs0:0≤s.rs)
  (heq:∀ W:World,Sem.run prog (Op.equalIn 10000 83 (τ s.V h) (τ s.V ⟨⟨#[]⟩,s.rb,s.rs,none⟩)) W=.ok false W)
  (hread:∀ W,Kp [] w W→Calls prog 67 #[.pointer (some ⟨St,0,none⟩)] W fun e w'=>∃ v hs rs,e=.returned v∧w'.ownsRow W.heap.size 83 5 v hs.length (qL1 s.V hs)∧P hs rs∧Kp [] W w')
  (hP:∀ hs rs,P hs rs→hs.length=rs.length∧hs.length≤4∧(∀ i (h1:i<hs.length) (h2:i<rs.length),RR (EL s.V A N C l wr hN hl hAC hVA).toEnv w hs[i] rs[i]∧(∀ n l,rs[i]=.at n l→l.key=⟨#[]⟩))∧qC4 rt+meas qC4 (rs++[nw])<1000000∧(rt.news≤(qC0 N ((rs++[nw]).foldl qA5 (qA5 [] rt))).length→0≤(qB5 rt (qC0 N ((rs++[nw]).foldl qA5 (qA5 [] rt)))).1.b∧(qB5 rt (qC0 N ((rs++[nw]).foldl qA5 (qA5 [] rt)))).1.b≤1000∧0≤(qB5 rt (qC0 N ((rs++[nw]).foldl qA5 (qA5 [] rt)))).1.s))
  (i j:Nat) (hi:(s.N+1) % 2=i) (hj:(s.N+1+1) % 2=j):
  Calls prog 41 #[.pointer (some ⟨St,0,none⟩),τ s.V h] w fun e w'=>(xI3 κ St A N C s l wr rt nw P i j e w'∨(e=qC6 (some 3)∧∃ hs rs,P hs rs∧(qC0 N ((rs++[nw]).foldl qA5 (qA5 [] rt))).length<rt.news∧w'.heap[St]?=some (ν 1 s)∧Dk κ s.V A N C base l [] wr w')∨(e=.returned (.tuple #[])∧∃ hs rs fr,P hs rs∧fr=qC0 N ((rs++[nw]).foldl qA5 (qA5 [] rt))∧rt.news≤fr.length∧
   w'.heap[St]?=some (ν 1 (s.cmt (qB5 rt fr).1.b (qB5 rt fr).1.s (((qA5 [] rt).length+rt.news:Nat):Int)))∧
   ∃ b,Dk κ s.V A N C b (qB6 (laidAll (qB6 l i (qB4 (s.N+1) s.rb s.rs)) (qB5 rt fr).2) j (qB4 (s.N+1+1) (qB5 rt fr).1.b (qB5 rt fr).1.s)) [] (nx (nk (nx wr) (qB5 rt fr).2.length)) w'))∧Kp [St,A,C] w w':=by
 have hSts:=ζ hSt;have HS:=zh hSt;have HD:=zh hd;have HR:=zh hr;have HNOW:=zh hnow;have HREAD:=zh hread;have HIJ:Hid ((s.N+1) % 2=(i:Int)∧(s.N+1+1) % 2=(j:Int)):=⟨hi,hj⟩;have HP:=Hid.mk' hP;have hStA:St≠A:=by obtain⟨v,c,h1,_⟩:=hd.hA;exact qL8 hSt h1 (by decide)
 have hStC:St≠C:=qL8 hSt hd.hC (by decide);have HSA:Hid (∀ W,Kp [A] w W→W.heap[St]?=some (ν 1 s)):=fun W hK=>hK.heap hSt (by simpa using hStA);clear hSt hd hr hnow hread hi hj hP;rw[τ,show τ s.V ⟨⟨#[]⟩,s.rb,s.rs,none⟩=.agg #[.pointer (some ⟨s.V,0,none⟩),.string ⟨#[]⟩,.int .i64 s.rb,.int .u64 s.rs,.pointer none] from rfl] at heq;rw[τ];go_enter func41,ntmps41;go_wp2_with fail;obtain⟨w0,hw0,hT0,hK0,hs0'⟩:=qE8 w (.cells #[.pointer (some ⟨s.V,0,none⟩),.string h.key,.int .i64 h.b,.int .u64 h.s,.pointer h.ptr] 83);rw[←hw0];clear hw0;refine (zB9 St 1 s w0 (hK0.hp HS.out)).mono ?_;rintro e w1 ⟨rfl,hK1⟩;rw[show τ s.V ⟨⟨#[]⟩,s.rb,s.rs,none⟩=.agg #[.pointer (some ⟨s.V,0,none⟩),.string ⟨#[]⟩,.int .i64 s.rb,.int .u64 s.rs,.pointer none] from rfl];have hT1:=hK1.hp hT0;have hT1s:=ζ hT1;have t:=ξ hT1;go_wp2_with fail;rename_i K0 hK0';obtain⟨w2,hw2,hN2',hK2,hs2⟩:=qE8 w1 (.cells #[.pointer (some ⟨s.V,0,none⟩),.string ⟨#[]⟩,.int .i64 s.rb,.int .u64 s.rs,.pointer none] 83);rw[←hw2];clear hw2 t;have hAs:A<w.heap.size:=HD.out.sA;have hCs:=ζ HD.out.hC;have hVs:=ζ HD.out.hV;have hKd:Kp [] w w2.drew:=((hK0.tr hK1).tr hK2).drew;have hs1:=hK1.size;obtain⟨Nn,hNn⟩:∃ Nn,Nn=w1.heap.size:=⟨_,rfl⟩;rw[←hNn] at hN2' hs2 ⊢;have hSd:w2.drew.heap[w.heap.size]?=some (.cells #[.pointer (some ⟨s.V,0,none⟩),.string h.key,.int .i64 h.b,.int .u64 h.s,.pointer h.ptr] 83)∧w2.drew.heap[Nn]?=some (.cells #[.pointer (some ⟨s.V,0,none⟩),.string ⟨#[]⟩,.int .i64 s.rb,.int .u64 s.rs,.pointer none] 83):=⟨hK2.hp hT1,hN2'⟩;have hTN:w.heap.size<Nn:=by omega
 clear hN2' hT1 hT0 hK0 hK1 hK2 hT1s heq hNn;obtain⟨szv,hszv⟩:∃ szv:Int,szv=(((qA5 [] rt).length+rt.news:Nat):Int):=⟨_,rfl⟩;have HSZ:=zh hszv;clear hszv;refine zD2 (α:=Value→Nat→Nat→Nat→Nat→Value→Act) (R:=fun A0=>∀ v n d g c vf hs rs W,Hid (P hs rs∧Slc W 3 1 vf (qC0 N ((rs++[nw]).foldl qA5 (qA5 [] rt))).length (ints (qC0 N ((rs++[nw]).foldl qA5 (qA5 [] rt))))∧Dk κ s.V A N C base l [] wr W∧Kp [A] w W∧W.heap[w.heap.size]?=some (.cells #[.pointer (some ⟨s.V,0,none⟩),.string h.key,.int .i64 h.b,.int .u64 h.s,.pointer h.ptr] 83)∧rt.news≤(qC0 N ((rs++[nw]).foldl qA5 (qA5 [] rt))).length)→K0 (A0 v n d g c vf) W) ?_;apply Exists.intro;apply And.intro
 rotate_left
 ·intro HREST;refine wp_region_held_drew (S:=fun W=>W.heap[w.heap.size]?=some (.cells #[.pointer (some ⟨s.V,0,none⟩),.string h.key,.int .i64 h.b,.int .u64 h.s,.pointer h.ptr] 83)∧W.heap[Nn]?=some (.cells #[.pointer (some ⟨s.V,0,none⟩),.string ⟨#[]⟩,.int .i64 s.rb,.int .u64 s.rs,.pointer none] 83)) (by kernel_rfl) hSd (fun _=>?_);refine zV 0 (.agg #[.pointer (some ⟨s.V,0,none⟩),.string h.key,.int .i64 h.b,.int .u64 h.s,.pointer h.ptr]) rfl (fun W hS=>by have a:=ξ hS.1;clear hS;go_simp) hSd ?_;refine zP 1 St 0 hSd ?_;refine zV 3 (.agg #[.pointer (some ⟨s.V,0,none⟩),.string ⟨#[]⟩,.int .i64 s.rb,.int .u64 s.rs,.pointer none]) rfl (fun W hS=>by have a:=ξ hS.2;clear hS;go_simp) hSd ?_;refine zr 2 4 (fun K hK=>?_) fun K hK=>?_
  ·skip
   go_simp;refine (show Calls _ _ _ _ _ from HREAD.out w2.drew hKd).mono ?_;rintro e w3 ⟨v,hs,rs,rfl,hown,hPr,hKr⟩;have hSr:=And.intro (hKr.hp hSd.1) (hKr.hp hSd.2);refine hK.out _ _ hSr (fun _=>?_);clear hK K
   try simp only[zZ]
   have how3:=qH4 hown (show Nn+1≤w2.drew.heap.size by show _≤w2.heap.size;omega);have hKw3:Kp [] w w3:=hKd.tr hKr;refine zq 4 fun K hK=>?_;go_simp;obtain⟨w4,hwb,hBb,hKb,hsb⟩:=qE8 w3 (.cells #[.pointer (some ⟨s.V,0,none⟩),.string ⟨#[]⟩,.int .i64 s.rb,.int .u64 s.rs,.pointer none] 83);rw[←hwb];clear hwb;obtain⟨d,hd⟩:∃ d,d=(w3).heap.size:=⟨_,rfl⟩
   try rw[←hd] at hBb ⊢
   clear hd;have hSb:=And.intro (hKb.hp hSr.1) (hKb.hp hSr.2);refine hK.out _ _ hSb (fun _=>?_);clear hK K
   try simp only[zZ]
   have hown4:=qG5 how3 hKb (Apt.nil _ _);have hKw4:Kp [] w w4:=hKw3.tr hKb;refine zq 5 fun K hK=>?_;obtain⟨hl1,hl2,hl3,hl4,_⟩:=HP.out hs rs hPr;obtain⟨n,hn⟩:∃ n,n=hs.length:=⟨_,rfl⟩;rw[←hn] at hown4;refine qM1 rfl rfl (.agg #[.pointer none,.string ⟨#[]⟩,.int .i64 0,.int .u64 0,.pointer none]) 5 48 underlying112 zH7 rfl (by decide) (Nn+1) v n _ (by simp[Act.eval]) hown4 d 0 1 1 #[.pointer (some ⟨s.V,0,none⟩),.string ⟨#[]⟩,.int .i64 s.rb,.int .u64 s.rs,.pointer none] 83 (0,0) (by simp[Act.eval]) hBb (by simp) (by simp[qA1,Value.oneCell']) (by omega) (by omega) (by have:=hKw4.size;have:=ζ hSb.2;omega) ?_;intro v5 w5 hown5 hgr5 _;obtain⟨g,c,rfl⟩:=qJ6 (n:=n) hown5;have hKg:Kp v.ownBlock.toList w4 w5:=(Kp.refl _ _).grown hgr5 (fun k hk=>Or.inl (by simp[hk]));have hlo:∀ k,k<Nn+1→k ∉ v.ownBlock.toList:=fun k hk hm=>by
    have h1:=qR5 hown4 k (by simpa using hm);omega
   have hS5:=And.intro (hKg.heap hSb.1 (hlo _ (by omega))) (hKg.heap hSb.2 (hlo _ (by omega)));refine hK.out _ _ hS5 (fun _=>?_);clear hK K
   try simp only[zZ]
   have hKw5:Kp [] w w5:=hKw4.trans hKg (fun k hk hlt=>absurd hk (hlo k (by omega)));have hd5:Dk κ s.V A N C base l [] wr w5:=HD.out.keep0 hKw5;have hsl5:Slc w5 83 5 (.slice (some ⟨g,0,none⟩) (hs++[qM9 s]).length c) (hs++[qM9 s]).length (qL1 s.V (hs++[qM9 s])):=by
    have h:=qF7 hown5;rw[List.length_append,←hn,zM6];exact h
   refine zq 6 fun K hK=>?_;have HROOM:Hid (Calls prog 66 #[τ s.V h,.slice (some ⟨g,0,none⟩) (n+1) c] w5 fun e w'=>((Io κ e∧Dk κ.up s.V A N C base l [] wr w')∨(e=qC6 (some 3)∧(qC0 N ((rs++[nw]).foldl qA5 (qA5 [] rt))).length<rt.news∧Dk κ s.V A N C base l [] wr w')∨∃ vf,e=.returned (.tuple #[vf,.int .i64 szv])∧Slc w' 3 1 vf (qC0 N ((rs++[nw]).foldl qA5 (qA5 [] rt))).length (ints (qC0 N ((rs++[nw]).foldl qA5 (qA5 [] rt))))∧rt.news≤(qC0 N ((rs++[nw]).foldl qA5 (qA5 [] rt))).length∧Dk κ s.V A N C base l [] wr w')∧Kp [A] w5 w'):=by
    have h:=xE7 hN hl hAC hVA h rt (.slice (some ⟨g,0,none⟩) (hs++[qM9 s]).length c) (hs++[qM9 s]) (rs++[nw]) w5 hd5 hsl5 (by simp[hl1]) (fun i h1 h2=>by
     by_cases hi:i<hs.length
     ·rw[List.getElem_append_left hi,List.getElem_append_left (by omega)];exact⟨RR.kp (hl3 i hi (by omega)).1 hKw5 (Apt.nil _ _),(hl3 i hi (by omega)).2⟩
     ·have e:i=hs.length:=by simp at h1;omega
      subst e;rw[List.getElem_append_right (by omega),List.getElem_append_right (by omega)];simp only[hl1,Nat.sub_self,zF];exact⟨RR.kp (h:=qM9 s) HNOW.out hKw5 (Apt.nil _ _),hkn⟩) (RR.kp HR.out hKw5 (Apt.nil _ _)) hkt hl4 (by simp;omega) hN2 (fun W hW hr=>xE6 hN hl hAC hVA hr hg hsz) hnb
    rw[List.length_append,←hn,←HSZ.out] at h;exact h
   clear hn hl1 hl2 hl3 hl4;rw[τ] at HROOM;go_simp;refine (show Calls _ _ _ _ _ from HROOM.out).mono ?_;rintro e w6 ⟨hres6,hK6⟩;have hKw6:Kp [A] w w6:=(hKw5.mono (by simp)).tr hK6;rcases hres6 with⟨⟨hnq,p,rfl⟩,hd6⟩|⟨rfl,hfew,hd6⟩|⟨vf,rfl,hsf,hfit6,hd6⟩
   ·clear hK;go_wp2;exact⟨rfl,.inl ⟨⟨hnq,p,rfl⟩,hs,rs,base,l,[],0,⟨s,HSA.out _ hKw6,rfl,rfl,rfl,rfl,rfl⟩,hPr,.inl ⟨rfl,.inl rfl⟩,by omega,hd6⟩,hKw6.mono (by simp +contextual)⟩
   ·clear hK;unfold qC6;go_wp2;exact⟨rfl,.inr (.inl ⟨rfl,hs,rs,hPr,hfew,HSA.out _ hKw6,hd6⟩),hKw6.mono (by simp +contextual)⟩
   have hS6:=And.intro (hK6.ho hS5.1) (hK6.ho hS5.2);refine hK.out _ _ hS6 (fun _=>?_);clear hK K HROOM
   try simp only[zZ]
   refine zU 7 (.tuple #[vf,.int .i64 szv]) hS6 ?_;refine zU 8 vf hS6 ?_;refine zU 9 (.int .i64 szv) hS6 ?_;refine zU 10 vf hS6 ?_;refine zU 11 (.int .i64 szv) hS6 ?_;refine zd ?_;show K0 _ w6;exact HREST v n d g c vf hs rs w6 (Hid.mk' ⟨hPr,hsf,hd6,hKw6,hS6.1,hfit6⟩)
  ·skip
   go_simp;obtain⟨w3,hwb,hBb,hKb,hsb⟩:∃ w3,w3=(w2.alloc (.cells #[.pointer (some ⟨s.V,0,none⟩),.string ⟨#[]⟩,.int .i64 s.rb,.int .u64 s.rs,.pointer none] 83)).drew∧w3.heap[Nn+1]?=some (.cells #[.pointer (some ⟨s.V,0,none⟩),.string ⟨#[]⟩,.int .i64 s.rb,.int .u64 s.rs,.pointer none] 83)∧Kp [] w2.drew w3∧w3.heap.size=w2.heap.size+1:=⟨_,rfl,by rw[←hs2];exact μ w2 _,(by exact (Kp.refl [] w2.drew).alloc _),by simp⟩;rw[←hwb];clear hwb;obtain⟨d,hd⟩:∃ d,d=Nn+1:=⟨_,rfl⟩;rw[←hd] at hBb ⊢;clear hd;have hSb:=And.intro (hKb.hp hSd.1) (hKb.hp hSd.2);refine hK.out _ _ hSb (fun _=>?_);clear hK K
   try simp only[zZ]
   have hKw3:Kp [] w w3:=hKd.tr hKb;refine zq 2 fun K hK=>?_;have hS3:=hSb;have hB3:=hBb;clear hSb hBb;go_simp;refine (show Calls _ _ _ _ _ from HREAD.out w3 hKw3).mono ?_;rintro e w4 ⟨v,hs,rs,rfl,hown,hPr,hKr⟩;have hSr:=And.intro (hKr.hp hS3.1) (hKr.hp hS3.2);refine hK.out _ _ hSr (fun _=>?_);clear hK K
   try simp only[zZ]
   have hSb:=hSr;have hBb:=hKr.hp hB3;have hown4:=qH4 hown (show Nn+1≤w3.heap.size by have:=hKb.size;have e:w2.drew.heap.size=w2.heap.size:=rfl;omega);have hKw4:Kp [] w w4:=hKw3.tr hKr;refine zq 5 fun K hK=>?_;obtain⟨hl1,hl2,hl3,hl4,_⟩:=HP.out hs rs hPr;obtain⟨n,hn⟩:∃ n,n=hs.length:=⟨_,rfl⟩;rw[←hn] at hown4;refine qM1 rfl rfl (.agg #[.pointer none,.string ⟨#[]⟩,.int .i64 0,.int .u64 0,.pointer none]) 5 48 underlying112 zH7 rfl (by decide) (Nn+1) v n _ (by simp[Act.eval]) hown4 d 0 1 1 #[.pointer (some ⟨s.V,0,none⟩),.string ⟨#[]⟩,.int .i64 s.rb,.int .u64 s.rs,.pointer none] 83 (0,0) (by simp[Act.eval]) hBb (by simp) (by simp[qA1,Value.oneCell']) (by omega) (by omega) (by have:=hKw4.size;have:=ζ hSb.2;omega) ?_;intro v5 w5 hown5 hgr5 _;obtain⟨g,c,rfl⟩:=qJ6 (n:=n) hown5;have hKg:Kp v.ownBlock.toList w4 w5:=(Kp.refl _ _).grown hgr5 (fun k hk=>Or.inl (by simp[hk]));have hlo:∀ k,k<Nn+1→k ∉ v.ownBlock.toList:=fun k hk hm=>by
    have h1:=qR5 hown4 k (by simpa using hm);omega
   have hS5:=And.intro (hKg.heap hSb.1 (hlo _ (by omega))) (hKg.heap hSb.2 (hlo _ (by omega)));refine hK.out _ _ hS5 (fun _=>?_);clear hK K
   try simp only[zZ]
   have hKw5:Kp [] w w5:=hKw4.trans hKg (fun k hk hlt=>absurd hk (hlo k (by omega)));have hd5:Dk κ s.V A N C base l [] wr w5:=HD.out.keep0 hKw5;have hsl5:Slc w5 83 5 (.slice (some ⟨g,0,none⟩) (hs++[qM9 s]).length c) (hs++[qM9 s]).length (qL1 s.V (hs++[qM9 s])):=by
    have h:=qF7 hown5;rw[List.length_append,←hn,zM6];exact h
   refine zq 6 fun K hK=>?_;have HROOM:Hid (Calls prog 66 #[τ s.V h,.slice (some ⟨g,0,none⟩) (n+1) c] w5 fun e w'=>((Io κ e∧Dk κ.up s.V A N C base l [] wr w')∨(e=qC6 (some 3)∧(qC0 N ((rs++[nw]).foldl qA5 (qA5 [] rt))).length<rt.news∧Dk κ s.V A N C base l [] wr w')∨∃ vf,e=.returned (.tuple #[vf,.int .i64 szv])∧Slc w' 3 1 vf (qC0 N ((rs++[nw]).foldl qA5 (qA5 [] rt))).length (ints (qC0 N ((rs++[nw]).foldl qA5 (qA5 [] rt))))∧rt.news≤(qC0 N ((rs++[nw]).foldl qA5 (qA5 [] rt))).length∧Dk κ s.V A N C base l [] wr w')∧Kp [A] w5 w'):=by
    have h:=xE7 hN hl hAC hVA h rt (.slice (some ⟨g,0,none⟩) (hs++[qM9 s]).length c) (hs++[qM9 s]) (rs++[nw]) w5 hd5 hsl5 (by simp[hl1]) (fun i h1 h2=>by
     by_cases hi:i<hs.length
     ·rw[List.getElem_append_left hi,List.getElem_append_left (by omega)];exact⟨RR.kp (hl3 i hi (by omega)).1 hKw5 (Apt.nil _ _),(hl3 i hi (by omega)).2⟩
     ·have e:i=hs.length:=by simp at h1;omega
      subst e;rw[List.getElem_append_right (by omega),List.getElem_append_right (by omega)];simp only[hl1,Nat.sub_self,zF];exact⟨RR.kp (h:=qM9 s) HNOW.out hKw5 (Apt.nil _ _),hkn⟩) (RR.kp HR.out hKw5 (Apt.nil _ _)) hkt hl4 (by simp;omega) hN2 (fun W hW hr=>xE6 hN hl hAC hVA hr hg hsz) hnb
    rw[List.length_append,←hn,←HSZ.out] at h;exact h
   clear hn hl1 hl2 hl3 hl4;rw[τ] at HROOM;go_simp;refine (show Calls _ _ _ _ _ from HROOM.out).mono ?_;rintro e w6 ⟨hres6,hK6⟩;have hKw6:Kp [A] w w6:=(hKw5.mono (by simp)).tr hK6;rcases hres6 with⟨⟨hnq,p,rfl⟩,hd6⟩|⟨rfl,hfew,hd6⟩|⟨vf,rfl,hsf,hfit6,hd6⟩
   ·clear hK;go_wp2;exact⟨rfl,.inl ⟨⟨hnq,p,rfl⟩,hs,rs,base,l,[],0,⟨s,HSA.out _ hKw6,rfl,rfl,rfl,rfl,rfl⟩,hPr,.inl ⟨rfl,.inl rfl⟩,by omega,hd6⟩,hKw6.mono (by simp +contextual)⟩
   ·clear hK;unfold qC6;go_wp2;exact⟨rfl,.inr (.inl ⟨rfl,hs,rs,hPr,hfew,HSA.out _ hKw6,hd6⟩),hKw6.mono (by simp +contextual)⟩
   have hS6:=And.intro (hK6.ho hS5.1) (hK6.ho hS5.2);refine hK.out _ _ hS6 (fun _=>?_);clear hK K HROOM
   try simp only[zZ]
   refine zU 7 (.tuple #[vf,.int .i64 szv]) hS6 ?_;refine zU 8 vf hS6 ?_;refine zU 9 (.int .i64 szv) hS6 ?_;refine zU 10 vf hS6 ?_;refine zU 11 (.int .i64 szv) hS6 ?_;refine zd ?_;show K0 _ w6;exact HREST v n d g c vf hs rs w6 (Hid.mk' ⟨hPr,hsf,hd6,hKw6,hS6.1,hfit6⟩)
 rintro v n d g c vf hs rs W HFR;refine hK0' _ _ ?_;clear hK0' K0 hSd hKd;obtain⟨hPr,hsf,hdW,hKW,hTW,q1⟩:=HFR.out;obtain⟨_,_,_,_,hq⟩:=HP.out hs rs hPr;obtain⟨q2,q3,q4⟩:=hq q1;clear hq;obtain⟨fr,hfr⟩:∃ fr,fr=qC0 N ((rs++[nw]).foldl qA5 (qA5 [] rt)):=⟨_,rfl⟩;have hfo:=qW4 (N:=N) (ks:=(rs++[nw]).foldl qA5 (qA5 [] rt));have hfl:=zV8 N ((rs++[nw]).foldl qA5 (qA5 [] rt));rw[←hfr] at hsf q1 q2 q3 q4 hfo hfl;obtain⟨X,ws,hX⟩:∃ X ws,(X,ws)=qB5 rt fr:=⟨_,_,rfl⟩;rw[←hX] at q2 q3 q4;simp only at q2 q3 q4;have hSW:=hKW.heap HS.out (by simpa using hStA);have hsW:=hKW.size;have hTW':=hTW;have HFX:Hid (P hs rs∧fr=qC0 N ((rs++[nw]).foldl qA5 (qA5 [] rt))∧(X,ws)=qB5 rt fr):=⟨hPr,hfr,hX⟩;have HSF:=zh hsf;have hSWs:=ζ hSW;have HSW:=zh hSW;have y4:=ξ hSW 4;have y5:=ξ hSW 5;simp only[ν,zG,zH,zI] at y4 y5;have HTW:=zh hTW;clear hPr hsf hTW hTW' hfr hX hSW HFR;go_wp2_with fail;refine (xA6 HSW.out hdW s.rb s.rs hN2 hN0 (by omega) hb0 hb1 hs0 i HIJ.out.1).mono ?_;rintro e w7 ⟨hres7,hK7⟩;have hKw7:Kp [St,A,C] w w7:=(hKW.mono (by simp)).tr hK7;rcases hres7 with⟨⟨⟨hnq,p,rfl⟩,b7,_,ws7,hws7,hd7⟩,hS7⟩|⟨rfl,hS7,b7,_,hd7⟩
 ·go_wp2;exact⟨rfl,.inl ⟨⟨hnq,p,rfl⟩,hs,rs,b7,l,ws7,ws7.length,⟨s,hS7,rfl,rfl,rfl,rfl,rfl⟩,HFX.out.1,.inl ⟨rfl,hws7⟩,by rcases hws7 with rfl | rfl<;>simp,hd7⟩,hKw7⟩
 have hT7:=hK7.ho HTW.out;have hT7s:=ζ hT7;have t:=ξ hT7;have hsl7:=HSF.out.keep hK7 (fun k hk c ty fr e hm=>by
  rw[List.mem_singleton.1 hm] at e;simp only[List.mem_cons,List.not_mem_nil,or_false] at hk;rcases hk with rfl|rfl|rfl
  ·rw[HSW.out] at e;simp[ν] at e
  ·obtain⟨v',c',h',_⟩:=hdW.hA;rw[h'] at e;simp[qC1] at e
  ·rw[hdW.hC] at e;simp at e)
 have hap7:Apt W [St,A,C] qF8:=(Apt.one HSW.out (by decide)).cons (hdW.aptA.cons (Apt.one hdW.hC (by decide)));have hr7:=RR.kp (RR.kp HR.out hKW HD.out.aptA) hK7 hap7;have HS7:=zh hS7;have HK7:=zh hKw7;have HLAY:Hid (Calls prog 69 #[τ s.V h,vf] w7 fun e w'=>((∃ b,w7.heap.size≤b∧qV4 κ s.V A N C b (qB6 l i (qB4 (s.N+1) s.rb s.rs)) (nx wr) fr rt.news e w')∨(e=.returned (.agg #[.int .i64 X.b,.int .u64 X.s])∧∃ b,w7.heap.size≤b∧Dk κ s.V A N C b (laidAll (qB6 l i (qB4 (s.N+1) s.rb s.rs)) ws) [] (nk (nx wr) ws.length) w'))∧Kp [A,C] w7 w'):=by
  have h:=jQ9 hd7 (EL s.V A N C l wr hN hl hAC hVA).toEnv (fun n b s t h=>by have:=Laid.at h;omega) rt h fr vf hr7 hok q1 (fun b hb=>(hfo b hb).2.1) (by omega) hsl7;rw[←HFX.out.2.2] at h;exact h
 have HWL:Hid (ws.length=rt.news):=by
  have e:=HFX.out.2.2;show ws.length=rt.news
  cases rt with
  | none=>simp only[qB5,Prod.mk.injEq] at e;rw[e.2];rfl
  | «at» n L=>simp only[qB5,Prod.mk.injEq] at e;rw[e.2];exact qU2 n L fr
 clear hS7 hd7 hK7 hKw7 hsl7 hr7 hdW hKW hap7 y4 y5;rw[τ] at HLAY;go_wp2_with fail;refine (show Calls _ _ _ _ _ from HLAY.out).mono ?_;rintro e w8 ⟨hres8,hK8⟩;have hS8:=hK8.heap HS7.out (by simp[hStA,hStC]);have hKw8:Kp [St,A,C] w w8:=HK7.out.trans hK8 (by simp +contextual);have hnn:∀ (c:Int) (k:Nat),nk (nx c) k=nk c (k+1):=fun c k=>by induction k with | zero=>rfl | succ k ih=>simp only[nk] at ih ⊢;rw[ih]
 rcases hres8 with⟨b8,_,⟨hnq,p,rfl⟩,ws8,hd8,hx8,hl8⟩|⟨rfl,b8,_,hd8⟩
 ·go_wp2;exact⟨rfl,.inl ⟨⟨hnq,p,rfl⟩,hs,rs,b8,_,ws8,ws8.length+1,⟨_,hS8,rfl,rfl,rfl,rfl,rfl⟩,HFX.out.1,.inr (.inl ⟨rfl,by rw[←HFX.out.2.1];exact hx8⟩),by omega,by rw[←hnn];exact hd8⟩,hKw8⟩
 clear t hT7 HLAY;go_wp2_with fail;refine (xA6 (s:=s.led s.rb s.rs) hS8 hd8 X.b X.s hN2 (by show 0≤s.N+1;omega) (by show s.N+1≤1000000000;omega) q2 q3 q4 j HIJ.out.2).mono ?_;rintro e w9 ⟨hres9,hK9⟩;have hKw9:Kp [St,A,C] w w9:=hKw8.tr hK9;rcases hres9 with⟨⟨⟨hnq,p,rfl⟩,b9,_,ws9,hws9,hd9⟩,hS9⟩|⟨rfl,hS9,b9,_,hd9⟩
 ·go_wp2;have hcut:qV3 N l s.N s.rb s.rs rt nw rs i j (laidAll (qB6 l i (qB4 (s.N+1) s.rb s.rs)) ws) ws9:=.inr (.inr ⟨fr,HFX.out.2.1,q1,by rw[←HFX.out.2.2],by rw[←HFX.out.2.2];exact hws9⟩);have hk9:nk (nk (nx wr) ws.length) ws9.length=nk wr (ws.length+ws9.length+1):=by rw[xC1,hnn]
  rw[hk9] at hd9;exact⟨rfl,.inl ⟨⟨hnq,p,rfl⟩,hs,rs,b9,_,ws9,_,⟨_,hS9,rfl,rfl,rfl,rfl,rfl⟩,HFX.out.1,hcut,by have:=HWL.out;rcases hws9 with rfl | rfl<;>simp<;>omega,hd9⟩,hKw9⟩
 have HE:Hid (w9.heap[St]?=some (ν 1 ((s.led s.rb s.rs).led X.b X.s))∧Dk κ s.V A N C b9 (qB6 (laidAll (qB6 l i (qB4 (s.N+1) s.rb s.rs)) ws) j (qB4 (s.N+1+1) X.b X.s)) [] (nx (nk (nx wr) ws.length)) w9∧Kp [St,A,C] w w9):=⟨hS9,hd9,hKw9⟩;have hS9s:=ζ hS9;have y6:=ξ hS9 6;simp only[ν,Sto.led,zG,zH,zI] at y6;have fy6:=ψ hS9 6;clear hS9 hd9 hK9 hS8 hd8 hK8 hKw8 hKw9;go_wp2
 go_end0
 obtain⟨e1,e2,e3⟩:=HE.out;have hKs:Kp [St] w9 (w9.setCell ⟨St,6,none⟩ (.int .i64 szv)):=(Kp.refl _ _).sc _;refine⟨.inr (.inr ⟨rfl,hs,rs,fr,HFX.out.1,HFX.out.2.1,q1,?_,b9,?_⟩),e3.tr hKs⟩
 ·rw[←HFX.out.2.2,←HSZ.out];exact φ e1 6 _
 ·rw[←HFX.out.2.2];exact e2.keep hKs (fun k hk c t fr e=>by rw[List.mem_singleton.1 hk,e1] at e;cases e;decide)
variable {κ:Nat}
theorem kA5(k:Nat):∀ v∈(Builtin.zeroCells zeroCells87 k).toList,v=.int .u8 0:=by
 intro v hv;unfold Builtin.zeroCells at hv;simp only[Array.toList_map,List.mem_map] at hv;obtain⟨i,_,rfl⟩:=hv;have hlt:i % zeroCells87.size<zeroCells87.size:=Nat.mod_lt _ (by rw[zN6];decide);rw[getElem!_pos zeroCells87 (i % zeroCells87.size) hlt];exact xH8 _ (by simp)
theorem kA4(k:Nat):Builtin.zeroCells zeroCells87 k=enc (List.replicate (k*128) 0):=by
 apply Array.ext';have h1:(Builtin.zeroCells zeroCells87 k).toList.length=k*128:=by rw[Array.length_toList,size_zeroCells,zN6]
 have e:(Builtin.zeroCells zeroCells87 k).toList=List.replicate (k*128) (.int .u8 0):=List.eq_replicate_iff.2 ⟨h1,kA5 k⟩;rw[e];simp[enc,qD8]
def pad(l:List UInt8)(N z:Nat):List UInt8:=l.take (N*128)++List.replicate (z*128) 0
theorem zL3{l:List UInt8}{N z:Nat}(h:N*128≤l.length):(pad l N z).length=(N+z)*128:=by simp[pad];omega
theorem xD5{l:List UInt8}{N z k:Nat}(h:N*128≤l.length)(hk:k<N):χ (pad l N z) k=χ l k:=by
 unfold χ pad;rw[List.drop_append_of_le_length (by simp;omega),List.take_append_of_le_length (by simp;omega),List.drop_take,List.take_take]
 congr 1
 omega
def qI7(xs:List Int):List Value:=xs.map (.int .i64)
theorem Slc.ints{w:World}{T:TypeId}{v:Value}{xs:List Int}(h:Slc w T 1 v xs.length (qI7 xs))(hn:1≤xs.length):
  ∃ g off cap cur fr,v=.slice (some ⟨g,off,none⟩) xs.length cap∧w.heap[g]?=some (.cells cur T fr)∧∀ i (h:i<xs.length),cur[off+i]?=some (.int .i64 xs[i]):=by
 rcases h.val with⟨h0,_⟩|⟨g,off,cap,cur,fr,h1,h2,h3,h4,h5⟩
 ·omega
 ·exact⟨g,off,cap,cur,fr,h1,h4,fun i hi=>by have:=h5 i (.int .i64 xs[i]) (by simp[qI7,hi]);simpa using this⟩
def zN9(w:World)(e:Ending)(w':World):Prop:=∃ v ys,e=.returned v∧ys.length≤64∧w'.ownsRow w.heap.size 3 1 v ys.length (qI7 ys)∧Kp [] w w'
theorem xT0{T:TypeId}(bs:Option Addr)(cp:Nat)(xs:List Int)(w:World)(hs:Slc w T 1 (.slice bs xs.length cp) xs.length (qI7 xs))(hn:(xs.length:Int)≤9223372036854775807):
  Calls prog 10 #[.slice bs xs.length cp] w (zN9 w):=by
 obtain⟨i0,hi,hz0,hz1,hz2⟩:=info_parts zX2;have HS:=zh hs;clear hs;go_enter func10,ntmps10;go_wp2_with fail
 go_loopw [3,4] (fun s i wr=>∃ (k:Nat),k≤64∧k≤xs.length∧i=.int .i64 (k:Int)∧Hid (wr.ownsRow w.heap.size 3 1 s k (qI7 (xs.take k)))∧Hid (Kp [] w wr)) (fun _ i _=>64-(intOf i).toNat)
 case atStart=>exact⟨0,by omega,by omega,rfl,World.ownsRow_nil _ _ _ _,Kp.refl _ _⟩
 case round=>
  obtain⟨k,hk,hkn,rfl,HO,HK⟩:=hrel;by_cases hlt:k<xs.length
  ·have hjb:(k:Int)<(xs.length:Int):=by omega
   by_cases h64:k<64
   ·have hj6:(k:Int)<64:=by omega
    obtain⟨g,off,cap,cur,fr,hv,hrow,hcur⟩:=HS.out.ints (by omega);have hc:=hcur k hlt;simp only[Value.slice.injEq,true_and] at hv;obtain⟨rfl,rfl⟩:=hv;have hR:=HK.out.hp hrow;have a0:=ξ hR (off+k);rw[hc] at a0;have hgs:=ζ hR;have HTK:Hid (qI7 (xs.take (k+1))=qI7 (xs.take k)++[.int .i64 xs[k]]):=by
     show qI7 (xs.take (k+1))=_;rw[List.take_succ_eq_append_getElem hlt];simp only[qI7,List.map_append,List.map_cons,List.map_nil]
    generalize xs[k]=x at a0 HTK;clear hc hcur hrow hR
    go_wp2_with (at_builtin;refine wpList_append_own _ rfl _ _ 22 rfl w.heap.size 3 i0 (.int .i64 0) 1 8 underlying22 hi hz0 hz1 hz2 rfl (by decide) _ _ _ rfl (HO.out.alloc _) ⟨wr.heap.size,0,none⟩ 1 1 [.int .i64 x] rfl rfl ?_ (by simp[Value.oneCell']) (by unfold maxLen;omega) (by omega) (by have:=HK.out.size;simp;omega) ?_)
    ·intro j u hu
     cases j with
     | zero=>
      simp only[zH,Option.some.injEq] at hu;subst hu;simp[Addr.add]
     | succ j=>simp at hu
    ·intro v1 w1 hown1 hgr1 _;have HO1:Hid (w1.ownsRow w.heap.size 3 1 v1 (k+1) (qI7 (xs.take (k+1)))):=by
      show World.ownsRow _ _ _ _ _ _ _;rw[HTK.out];exact hown1
     have HK1:Hid (Kp [] w w1):=(HK.out.alloc _).grown hgr1 (fun q hq=>Or.inr (qH7 HO.out q hq));clear hown1 hgr1;go_wp2;exact⟨⟨k+1,by omega,by omega,by go_num,HO1,HK1⟩,by simp[intOf];omega⟩
   ·have hj6:¬(k:Int)<64:=by omega
    go_wp2;go_ret;exact⟨_,xs.take k,rfl,by rw[List.length_take];omega,by rw[List.length_take,Nat.min_eq_left hkn];exact HO.out,HK.out⟩
  ·have hjb:¬(k:Int)<(xs.length:Int):=by omega
   go_wp2;go_ret;exact⟨_,xs.take k,rfl,by rw[List.length_take];omega,by rw[List.length_take,Nat.min_eq_left hkn];exact HO.out,HK.out⟩
variable {κ:Kd}
structure Mixed(N:Nat)(l:List UInt8)(ws:List (Nat × List UInt8))(l2:List UInt8):Prop where
 len:N*128≤l2.length
 oth:∀ k,k<N→k ∉ ws.map Prod.fst→χ l2 k=χ l k
 sec:∀ k,k<N→(χ l2 k).take 32=(χ l k).take 32∨∃ x∈ws,x.1=k∧(χ l2 k).take 32=x.2.take 32
def qN4(l:List UInt8)(i s:Nat)(b:List UInt8):List UInt8:=l.take (i*128+s*32)++(b.drop (s*32)).take 32++l.drop (i*128+s*32+32)
theorem zL9(l b:List UInt8)(i s n:Nat)(hl:n*128≤l.length)(hi:i<n)(hs:s<4)(hb:b.length=128)(q:Nat):(qN4 l i s b)[q]?=if i*128+s*32≤q∧q<i*128+s*32+32 then b[q-i*128]? else l[q]?:=by
 have h1:(l.take (i*128+s*32)).length=i*128+s*32:=by rw[List.length_take];omega
 have h2:((b.drop (s*32)).take 32).length=32:=by rw[List.length_take,List.length_drop];omega
 unfold qN4;rw[List.append_assoc,List.getElem?_append,h1];split
 ·rename_i h;rw[if_neg (by omega),List.getElem?_take,if_pos h]
 ·rename_i h;rw[List.getElem?_append,h2];split
  ·rename_i h3;rw[if_pos (by omega),List.getElem?_take,if_pos h3,List.getElem?_drop]
   congr 1
   omega
  ·rename_i h3;rw[if_neg (by omega),List.getElem?_drop]
   congr 1
   omega
theorem jS9(l b:List UInt8)(i s n:Nat)(hl:n*128≤l.length)(hi:i<n)(hs:s<4)(hb:b.length=128):(qN4 l i s b).length=l.length:=by
 unfold qN4;rw[List.length_append,List.length_append,List.length_take,List.length_take,List.length_drop,List.length_drop];omega
theorem jT0(l b:List UInt8)(i s n k:Nat)(hl:n*128≤l.length)(hi:i<n)(hs:s<4)(hb:b.length=128)(hk:k≠i):χ (qN4 l i s b) k=χ l k:=by
 refine List.ext_getElem? fun q=>?_;simp only[χ,List.getElem?_take,List.getElem?_drop];split
 ·rw[zL9 l b i s n hl hi hs hb,if_neg (by omega)]
 ·rfl
theorem jS8(l b:List UInt8)(i s n:Nat)(hl:n*128≤l.length)(hi:i<n)(hs:s<4)(hb:b.length=128):(χ (qN4 l i s b) i).take 32=if s=0 then b.take 32 else (χ l i).take 32:=by
 refine List.ext_getElem? fun q=>?_;simp only[χ,List.getElem?_take,List.getElem?_drop];by_cases h0:s=0
 ·subst h0;rw[if_pos rfl,List.getElem?_take];split
  ·rw[if_pos (by omega),zL9 l b i 0 n hl hi hs hb,if_pos (by omega)]
   congr 1
   omega
  ·rfl
 ·rw[if_neg h0];simp only[List.getElem?_take,List.getElem?_drop];split
  ·rw[if_pos (by omega),if_pos (by omega),zL9 l b i s n hl hi hs hb,if_neg (by omega)]
  ·rfl
theorem Mixed.none{N:Nat}{l:List UInt8}(h:N*128≤l.length):Mixed N l [] l:=⟨h,fun _ _ _=>rfl,fun _ _=>.inl rfl⟩
theorem Mixed.pad{N z:Nat}{l l2:List UInt8}{ws:List (Nat × List UInt8)}(hl:N*128≤l.length)(h:Mixed N (pad l N z) ws l2):Mixed N l ws l2:=
 ⟨h.len,fun k hk hn=>(h.oth k hk hn).trans (xD5 hl hk),fun k hk=>by rw[←xD5 (z:=z) hl hk];exact h.sec k hk⟩
theorem Mixed.more{N:Nat}{l l2:List UInt8}{ws ws':List (Nat × List UInt8)}(h:Mixed N l ws l2)(hw:∀ x∈ws,x∈ws'):Mixed N l ws' l2:=
 ⟨h.len,fun k hk hn=>h.oth k hk (fun hm=>hn (by obtain⟨x,hx,e⟩:=List.mem_map.1 hm;exact List.mem_map.2 ⟨x,hw x hx,e⟩)),fun k hk=>(h.sec k hk).imp_right (fun ⟨x,hx,e⟩=>⟨x,hw x hx,e⟩)⟩
structure MixS(N i s:Nat)(b l l2:List UInt8):Prop where
 len:l2.length=l.length
 oth:∀ k,k≠i→χ l2 k=χ l k
 sec:(χ l2 i).take 32=(χ l i).take 32∨(1≤s∧(χ l2 i).take 32=b.take 32)
theorem MixS.skip{N i s:Nat}{b l l2:List UInt8}(h:MixS N i s b l l2):MixS N i (s+1) b l l2:=⟨h.len,h.oth,h.sec.imp_right fun h=>⟨by omega,h.2⟩⟩
theorem MixS.put{N i s:Nat}{b l l2:List UInt8}(h:MixS N i s b l l2)(hl:N*128≤l.length)(hi:i<N)(hs:s<4)(hb:b.length=128):MixS N i (s+1) b l (qN4 l2 i s b):=by
 have hl2:N*128≤l2.length:=by rw[h.len];exact hl
 refine⟨(jS9 l2 b i s N hl2 hi hs hb).trans h.len,fun k hk=>(jT0 l2 b i s N k hl2 hi hs hb hk).trans (h.oth k hk),?_⟩;rw[jS8 l2 b i s N hl2 hi hs hb];by_cases h0:s=0
 ·rw[if_pos h0];exact .inr ⟨by omega,rfl⟩
 ·rw[if_neg h0];exact h.sec.imp_right fun h=>⟨by omega,h.2⟩
theorem Mixed.one{N:Nat}{l l1 l2:List UInt8}{ws:List (Nat × List UInt8)}{j:Nat}(hj:j<ws.length)(h:Mixed N l (ws.take j) l1)(hs:MixS N ws[j].1 4 ws[j].2 l1 l2):Mixed N l (ws.take (j+1)) l2:=by
 have e:ws.take (j+1)=ws.take j++[ws[j]]:=List.take_succ_eq_append_getElem hj;refine⟨by rw[hs.len];exact h.len,fun k hk hn=>?_,fun k hk=>?_⟩
 ·rw[e,List.map_append,List.mem_append,not_or] at hn;exact (hs.oth k (fun e=>hn.2 (by simp[e]))).trans (h.oth k hk hn.1)
 ·by_cases hki:k=ws[j].1
  ·rcases hs.sec with h1|⟨_,h1⟩
   ·rw[hki,h1,←hki];exact (h.sec k hk).imp_right fun ⟨x,hx,e1⟩=>⟨x,by rw[e];exact List.mem_append_left _ hx,e1⟩
   ·exact .inr ⟨ws[j],by rw[e];exact List.mem_append_right _ (List.mem_singleton_self _),hki.symm,by rw[hki];exact h1⟩
  ·rw[hs.oth k hki];exact (h.sec k hk).imp_right fun ⟨x,hx,e1⟩=>⟨x,by rw[e];exact List.mem_append_left _ hx,e1⟩
theorem jP4{x:Nat × List UInt8}(h:x.2.length=128)(s:Nat)(hs:s<4):qA1 (wcs x).toArray (1+s*32) 32=enc ((x.2.drop (s*32)).take 32):=by
 have h1:qA1 (wcs x).toArray (1+s*32) 32=qA1 (enc x.2) (s*32) 32:=by
  unfold qA1;simp[wcs,enc,Nat.add_comm 1]
 rw[h1,qI8]
theorem jS5:∀ (s:Nat),s<4→∀ (B o:Nat) (W:World),Sem.run prog (Instr.sliceAt 87 (.pointer (some ⟨B,o,none⟩)) (some (.int .i64 ((s:Int)*32))) (some (.int .i64 ((s:Int)*32+32))) none) W=.ok (.slice (some ⟨B,o+s*32,none⟩) 32 (128-s*32)) W
 | 0,_=>fun B o W=>by kernel_rfl
 | 1,_=>fun B o W=>by kernel_rfl
 | 2,_=>fun B o W=>by kernel_rfl
 | 3,_=>fun B o W=>by kernel_rfl
 | n+4,h=>absurd h (by omega)
def qY2(N:Nat)(l:List UInt8)(ws:List (Nat × List UInt8))(w:World)(e:Ending)(w':World):Prop:=
 ∃ A' C' l2,e=.returned (.pointer (some ⟨A',0,none⟩))∧w.heap.size≤A'∧w.heap.size≤C'∧C'≠A'∧w'.heap[A']?=some (qA8 (l2.length / 128) N C' (.slice none 0 0) 0 0)∧w'.heap[C']?=some (.cells (enc l2) 87)∧Mixed N l ws l2∧Kp [] w w'
theorem xI9{V A N C base:Nat}{l:List UInt8}{ws:List (Nat × List UInt8)}{wr:Int}{w:World}(hd:Dk κ V A N C base l ws wr w)(hN:1≤N)(T:TypeId)(kv:Value)(ys:List Int)(hy:Slc w T 1 kv ys.length (qI7 ys))(hyl:ys.length≤100000):
  Calls prog 15 #[.pointer (some ⟨A,0,none⟩),kv] w (qY2 N l ws w):=by
 obtain⟨kb,kc,rfl⟩:=qM0 hy;obtain⟨kn,hkn⟩:∃ kn,kn=ys.length:=⟨_,rfl⟩;rw[←hkn];have HY:Hid (Slc w T 1 (.slice kb kn kc) kn (qI7 ys)∧kn=ys.length):=⟨by rw[hkn];exact hy,hkn⟩;have hknb:kn≤100000:=by omega
 clear hy hkn hyl;obtain⟨v,calls,h,hO,_⟩:=hd.hA;have hC:=hd.hC;have hl:=hd.len;have hN4:=hd.N1;have HWS:Hid ((∀ x∈ws,x.1<N∧x.2.length=128)∧N*128≤l.length∧ws.length≤100000):=⟨hd.fit,hd.len,hd.wl⟩;obtain⟨bs,cp,rfl⟩:∃ bs cp,v=.slice bs ws.length cp:=by
  rcases hO.2 with⟨rfl,hl0⟩|⟨g,cap,cur,rfl,_⟩
  ·rw[hl0];exact⟨_,_,rfl⟩
  ·exact⟨_,_,rfl⟩
 have HO:=zh hO;clear hO hd;obtain⟨i,hi,hiz⟩:=Option.map_eq_some_iff.1 zX1;simp only[Prod.mk.injEq] at hiz;obtain⟨hz,hsz,hby⟩:=hiz;have hr:=run_append_nil (P:=prog) w 69 69 87 i (.agg zeroCells87) underlying69 hi hz ⟨C,0,none⟩ N κ.cap (qD8 (l.take (N*128))) (by rw[hsz];simp[qD8];omega) (fun j v hj=>by
  have e:=ξ hC j;have hj2:(qD8 l)[j]?=some v:=by
   unfold qD8 at hj ⊢;rw[List.map_take,List.getElem?_take] at hj;split at hj
   ·exact hj
   ·cases hj
  rw[show (⟨C,0,none⟩:Addr).add j=⟨C,j,none⟩ by simp[Addr.add];omega,e];simpa [enc] using hj2) (by omega) (by omega) (by rw[hby];omega)
 have hge:=grownCap_ge w N 0 87;obtain⟨z,hzd⟩:∃ z,grownCap w N 0 87=N+z:=⟨grownCap w N 0 87-N,by omega⟩;rw[hzd,show N+z-N=z by omega,show (Value.agg zeroCells87).cells=zeroCells87 from rfl,kA4] at hr;have he:(qD8 (l.take (N*128))).toArray++enc (List.replicate (z*128) 0)=enc (pad l N z):=by simp[enc,qD8,pad]
 rw[he] at hr;have hAs:=ζ h;have a0:=ξ h 0;have a1:=ξ h 1;simp only[qC1,zG,zH,zI] at a0 a1;have HR:Hid (N+z=(pad l N z).length / 128):=by show N+z=_;rw[zL3 hl];omega
 clear h hge hzd he hi hz hsz hby hC;go_enter func15,ntmps15
 go_wp2_with (at_builtin;(with_reducible refine jZ0 ?_ ?_ hr ?_);rfl;rfl)
 obtain⟨w2,hw2,hC2,hA2,hK2,hs2⟩:∃ w2,w2=((w.alloc (.cells (enc (pad l N z)) 87)).alloc (qA8 (N+z) N w.heap.size (.slice none 0 0) 0 0)).drew∧w2.heap[w.heap.size]?=some (.cells (enc (pad l N z)) 87)∧w2.heap[w.heap.size+1]?=some (qA8 (N+z) N w.heap.size (.slice none 0 0) 0 0)∧Kp [] w w2∧w2.heap.size=w.heap.size+2:=by
  refine⟨_,rfl,θ _ (μ w _),?_,(((Kp.refl [] w).alloc _).alloc _).drew,by simp⟩;have e:=μ (w.alloc (.cells (enc (pad l N z)) 87)) (qA8 (N+z) N w.heap.size (.slice none 0 0) 0 0);rw[show (w.alloc (.cells (enc (pad l N z)) 87)).heap.size=w.heap.size+1 by simp] at e;exact e
 rw[qA8] at hw2;rw[←hw2];clear hw2 hr;have HL0:Hid (Mixed N (pad l N z) [] (pad l N z)∧(pad l N z).length=(N+z)*128):=⟨Mixed.none (by rw[zL3 HWS.out.2.1];exact Nat.mul_le_mul_right _ (by omega)),zL3 HWS.out.2.1⟩
 go_loopw [21] (fun k wr=>∃ (j:Nat),j≤ws.length∧k=.int .i64 j∧w.heap.size+2≤wr.heap.size∧∃ L,Hid (Mixed N (pad l N z) (ws.take j) L∧L.length=(N+z)*128)∧Hid (wr.heap[w.heap.size]?=some (.cells (enc L) 87))∧Hid (wr.heap[w.heap.size+1]?=some (qA8 (N+z) N w.heap.size (.slice none 0 0) 0 0))∧Hid (Kp [] w wr)) (fun k _=>ws.length-(intOf k).toNat)
 case atStart=>exact⟨0,Nat.zero_le _,rfl,by omega,_,by simpa using HL0,hC2,hA2,hK2⟩
 case round=>
  obtain⟨j,hj,rfl,hsw,L,HL,HC,HA,HK⟩:=hrel;clear hC2 hA2 hK2 hs2 HL0;have HFIN:Hid (qY2 N l ws w (.returned (.pointer (some ⟨w.heap.size+1,0,none⟩))) wr):=by
   refine⟨w.heap.size+1,w.heap.size,L,rfl,by omega,by omega,by omega,?_,HC.out,(HL.out.1.more (fun x hx=>List.mem_of_mem_take hx)).pad HWS.out.2.1,HK.out⟩;rw[HL.out.2,Nat.mul_div_cancel _ (by decide)];exact HA.out
  by_cases hlt:j<ws.length
  ·have hjb:(j:Int)<(ws.length:Int):=by omega
   obtain⟨hix,hbl⟩:=HWS.out.1 ws[j] (List.getElem_mem hlt);obtain⟨hXs,hX0,hXp,hX1⟩:=xH6 hbl;obtain⟨g,cap,cur,hvg,hg,hcs,hcp⟩:∃ g cap cur,Value.slice bs ws.length cp=.slice (some ⟨g,0,none⟩) ws.length cap∧w.heap[g]?=some (.cells cur 89)∧ws.length*129≤cur.size∧qA1 cur (j*129) 129=(wcs ws[j]).toArray:=by
    rcases HO.out.2 with⟨_,hl0⟩|⟨g,cap,cur,h1,_,h2,h3,_,h4,h5⟩
    ·omega
    ·exact⟨g,cap,cur,h1,h2,by rw[h4];exact Nat.mul_le_mul_right _ h3,xH5 HWS.out.1 h5 j hlt⟩
   simp only[Value.slice.injEq,true_and] at hvg;obtain⟨rfl,rfl⟩:=hvg;have hgr:=HK.out.hp hg;have HONE:Hid (∀ L2,MixS N ws[j].1 4 ws[j].2 L L2→Mixed N (pad l N z) (ws.take (j+1)) L2):=fun L2 h2=>Mixed.one hlt HL.out.1 h2;have HPW:Hid (∀ s,s<4→qA1 (wcs ws[j]).toArray (1+s*32) 32=enc ((ws[j].2.drop (s*32)).take 32)):=fun s hs=>jP4 hbl s hs;have HBL:Hid (ws[j].1<N∧ws[j].2.length=128):=⟨hix,hbl⟩;have HLL:Hid (N*128≤L.length∧L.length=(N+z)*128):=⟨HL.out.1.len,HL.out.2⟩;obtain⟨X,hX⟩:∃ X,X=(wcs ws[j]).toArray:=⟨_,rfl⟩;obtain⟨i,hi⟩:∃ i,i=ws[j].1:=⟨_,rfl⟩;obtain⟨bl,hbe⟩:∃ bl,bl=ws[j].2:=⟨_,rfl⟩;rw[←hX] at hXs hX0 hXp hX1 hcp HPW;rw[←hi] at hX0 HONE HBL hix;rw[←hbe] at hXp HONE HBL HPW;have hjm:j*129+129≤ws.length*129:=by omega
   clear hX hi hbe hbl hg;have hgs:=ζ hgr
   go_wp2_with (
    with_reducible refine qM4 (t:=89) ?_ 129 ?_ g (j*129) ?_ cur 89 (0,0) ?_ ?_ ?_
    ·kernel_rfl
    ·kernel_rfl
    ·rfl
    ·exact hgr
    ·omega)
   have hN:=μ wr (.cells zeroCells89 89);rw[qI9 hN (by simp[qI5,hXs]) hX1];obtain⟨W1,hW1,hK1,hA1,hC1,hT1,hs1⟩:∃ W1,W1=(wr.alloc (.cells zeroCells89 89)).setRow wr.heap.size (qD6 zeroCells89 0 X.toList.toArray)∧Kp [] w W1∧
     W1.heap[w.heap.size+1]?=some (qA8 (N+z) N w.heap.size (.slice none 0 0) 0 0)∧W1.heap[w.heap.size]?=some (.cells (enc L) 87)∧W1.heap[wr.heap.size]?=some (.cells X 89)∧W1.heap.size=wr.heap.size+1:=
    ⟨_,rfl,(HK.out.alloc _).setRow (Or.inr HK.out.size) _,(setRow_other _ _ _ _ (Nat.ne_of_lt (ζ HA.out))).trans (θ _ HA.out),(setRow_other _ _ _ _ (Nat.ne_of_lt (ζ HC.out))).trans (θ _ HC.out),by
     rw[setRow_heap _ _ _ _ _ _ hN,qH1 (by simp[qI5,hXs])],by simp⟩
   rw[←hW1];clear hW1 hN;have HFIN1:Hid (qY2 N l ws w (.returned (.pointer (some ⟨w.heap.size+1,0,none⟩))) W1):=by
    refine⟨w.heap.size+1,w.heap.size,L,rfl,by omega,by omega,by omega,?_,hC1,(HL.out.1.more (fun x hx=>List.mem_of_mem_take hx)).pad HWS.out.2.1,hK1⟩;rw[HL.out.2,Nat.mul_div_cancel _ (by decide)];exact hA1
   obtain⟨T0,hT0⟩:∃ T0,T0=wr.heap.size:=⟨_,rfl⟩;have hT0w:w.heap.size+2≤T0:=by omega
   rw[←hT0] at hT1 hs1 ⊢;have HW1:Hid (w.heap.size+2≤T0∧W1.heap.size=T0+1):=⟨hT0w,hs1⟩;clear hgr hgs HFIN HC HA HK hsw hcp hcs hjm hT0;by_cases hjk:j<kn
   ·have hjkb:¬(kn:Int)≤(j:Int):=by omega
    obtain⟨gk,ko,y,rfl,hky⟩:∃ gk ko y,kb=some ⟨gk,ko,none⟩∧∀ W:World,Kp [] w W→W.cell? ⟨gk,ko+j,none⟩=some (.int .i64 y)∧gk<W.heap.size:=by
     have hy:=HY.out.1;rw[HY.out.2] at hy;obtain⟨g,off,cap,cur,fr,h1,h2,h3⟩:=hy.ints (by have:=HY.out.2;omega);simp only[Value.slice.injEq] at h1;refine⟨g,off,ys[j]'(by have:=HY.out.2;omega),h1.1,fun W hW=>⟨?_,ζ (hW.hp h2)⟩⟩;rw[ξ (hW.hp h2)];exact h3 j _
    have HKY:=Hid.mk' hky;clear hky;go_wp2;have HI0:Hid (W1.heap[w.heap.size]?=some (.cells (enc L) 87)∧MixS N i 0 bl L L):=⟨hC1,rfl,fun _ _=>rfl,.inl rfl⟩
    go_loopw [8] (fun k wq=>∃ (s:Nat),s≤4∧k=.int .i64 s∧T0+1≤wq.heap.size∧∃ L2,Hid (wq.heap[w.heap.size]?=some (.cells (enc L2) 87)∧MixS N i s bl L L2)∧Hid (wq.heap[w.heap.size+1]?=some (qA8 (N+z) N w.heap.size (.slice none 0 0) 0 0))∧Hid (wq.heap[T0]?=some (.cells X 89))∧Hid (Kp [] w wq)) (fun k _=>4-(intOf k).toNat)
    case atStart=>exact⟨0,by omega,rfl,by omega,L,HI0,hA1,hT1,hK1⟩
    case round=>
     obtain⟨s,hs,rfl,hsq,L2,HI,HAq,HTq,HKq⟩:=hrel;clear hA1 hC1 hT1 hK1 HI0 HFIN1;by_cases hs4:s<4
     ·have hsb:(s:Int)<4:=by omega
      obtain⟨yc,ygs⟩:=HKY.out _ HKq.out;have HYC:=Hid.mk' ygs;clear ygs;have hAd:=HAq.out;have hTd:=HTq.out;have hCd:=HI.out.1;have HSK:Hid (MixS N i (s+1) bl L L2∧MixS N i (s+1) bl L (qN4 L2 i s bl)):=⟨HI.out.2.skip,HI.out.2.put HLL.out.1 HBL.out.1 hs4 HBL.out.2⟩;go_wp2_with fail
      rotate_left
      ·exact⟨⟨s+1,by omega,by go_num,hsq,L2,⟨hCd,HSK.out.1⟩,HAq,HTq,HKq⟩,by simp[intOf];omega⟩
      have hw1:IntKind.i64.wrap ((s:Int)*32)=(s:Int)*32:=by rw[IntKind.wrap_i64];omega
      have hw2:IntKind.i64.wrap ((s:Int)+1)=(s:Int)+1:=by rw[IntKind.wrap_i64];omega
      have hw3:IntKind.i64.wrap (((s:Int)+1)*32)=(s:Int)*32+32:=by rw[IntKind.wrap_i64];omega
      have hsl:=jS5 s hs4;have hSd:wr.drew.heap[w.heap.size+1]?=some (qA8 (N+z) N w.heap.size (.slice none 0 0) 0 0)∧wr.drew.heap[T0]?=some (.cells X 89):=⟨hAd,hTd⟩;refine wp_region_held_drew (S:=fun W=>W.heap[w.heap.size+1]?=some (qA8 (N+z) N w.heap.size (.slice none 0 0) 0 0)∧W.heap[T0]?=some (.cells X 89)) (by kernel_rfl) hSd (fun _=>?_);refine zU 0 (.pointer (some ⟨w.heap.size+1,0,none⟩)) hSd ?_;refine zV 1 (.pointer (some ⟨w.heap.size+1,0,none⟩)) rfl (fun W hS=>by have c:=ζ hS.1;clear hS;go_simp) hSd ?_;refine zU 2 (.pointer (some ⟨w.heap.size+1,0,none⟩)) hSd ?_;refine zV 3 (.slice (some ⟨w.heap.size,0,none⟩) N (N+z)) rfl (fun W hS=>by have c:=ξ hS.1 0;simp only[qA8,zG,zH] at c;clear hS;go_simp) hSd ?_;refine zP 4 T0 0 hSd ?_;refine zV 5 (.int .i64 i) rfl (fun W hS=>by have c:=ξ hS.2 0;rw[hX0] at c;clear hS;go_simp) hSd ?_;refine zU 6 (.pointer (some ⟨w.heap.size,i*128,none⟩)) hSd ?_;refine zU 7 (.int .i64 s) hSd ?_;refine zU 8 (.int .i64 ((s:Int)*32)) hSd ?_;refine zU 9 (.int .i64 s) hSd ?_;refine zU 10 (.int .i64 ((s:Int)+1)) hSd ?_;refine zU 11 (.int .i64 ((s:Int)*32+32)) hSd ?_;refine zU 12 (.slice (some ⟨w.heap.size,i*128+s*32,none⟩) 32 (128-s*32)) hSd ?_;refine zP 13 T0 1 hSd ?_;refine zU 14 (.int .i64 s) hSd ?_;refine zU 15 (.int .i64 ((s:Int)*32)) hSd ?_;refine zU 16 (.int .i64 s) hSd ?_;refine zU 17 (.int .i64 ((s:Int)+1)) hSd ?_;refine zU 18 (.int .i64 ((s:Int)*32+32)) hSd ?_;refine zU 19 (.slice (some ⟨T0,1+s*32,none⟩) 32 (128-s*32)) hSd ?_;have hls2:N*128≤L2.length:=by rw[HI.out.2.len];exact HLL.out.1
      have hbl2:((bl.drop (s*32)).take 32).length=32:=by rw[List.length_take,List.length_drop,HBL.out.2];omega
      refine zq 20 fun K hK=>?_;refine qJ0 rfl (zG4 rfl underlying90 Tryz.size5 w.heap.size (i*128+s*32) 32 (128-s*32) T0 (1+s*32) 32 (128-s*32) 32 rfl rfl (by decide) (show wr.drew.heap[w.heap.size]?=some (.cells (enc L2) 87) from hCd) hSd.2 (by rw[qD2];have:=HBL.out.1;omega) (by omega) (by rw[HPW.out s hs4];exact (qF9 _).one)) ?_;rw[HPW.out s hs4,qW7,hbl2];obtain⟨W2,hW2,hC2,hA2,hT2,hK2,hs2⟩:∃ W2,W2=wr.drew.setRow w.heap.size (enc (L2.take (i*128+s*32)++(bl.drop (s*32)).take 32++L2.drop (i*128+s*32+32)))∧W2.heap[w.heap.size]?=some (.cells (enc (qN4 L2 i s bl)) 87)∧W2.heap[w.heap.size+1]?=some (qA8 (N+z) N w.heap.size (.slice none 0 0) 0 0)∧W2.heap[T0]?=some (.cells X 89)∧Kp [] w W2∧W2.heap.size=wr.heap.size:=
       ⟨_,rfl,setRow_heap wr.drew _ _ _ _ _ hCd,(setRow_other wr.drew _ _ _ (by omega)).trans hAd,(setRow_other wr.drew _ _ _ (by have:=HW1.out;omega)).trans hTd,(HKq.out.drew).setRow (Or.inr (Nat.le_refl _)) _,by simp⟩
      rw[←hW2];clear hW2;refine hK.out _ _ ⟨hA2,hT2⟩ (fun _=>?_);clear hK K;refine zd ?_
      try simp only[zZ]
      have HE:Hid (W2.heap[w.heap.size]?=some (.cells (enc (qN4 L2 i s bl)) 87)∧MixS N i (s+1) bl L (qN4 L2 i s bl)):=⟨hC2,HSK.out.2⟩;have HA2:=Hid.mk' hA2;have HT2:=Hid.mk' hT2;have HK2:=Hid.mk' hK2;clear hC2 hA2 hT2 hK2 hSd hAd hTd hCd yc hw1 hw2 hw3 hsl;go_wp2;exact⟨⟨s+1,by omega,by go_num,by omega,qN4 L2 i s bl,HE,HA2,HT2,HK2⟩,by simp[intOf];omega⟩
     ·have hsb:¬(s:Int)<4:=by omega
      have hs4':s=4:=by omega
      subst hs4';have HE:Hid (Mixed N (pad l N z) (ws.take (j+1)) L2∧L2.length=(N+z)*128):=⟨HONE.out L2 HI.out.2,HI.out.2.len.trans HLL.out.2⟩;go_wp2;exact⟨⟨j+1,by omega,by go_num,by omega,L2,HE,HI.out.1,HAq,HKq⟩,by simp[intOf];omega⟩
   ·have hjkb:(kn:Int)≤(j:Int):=by omega
    go_wp2;go_ret;exact HFIN1.out
  ·have hjb:¬(j:Int)<(ws.length:Int):=by omega
   go_wp2;go_ret;exact HFIN.out
end Go.Proofs.YtdohpenfkdckiabGreatDoor
