import Derived.Test.YtdohpenfkdckiaaGreatDoorJ11
namespace Go.Proofs.YtdohpenfkdckiaaGreatDoor
set_option linter.unusedSimpArgs false
set_option linter.unusedVariables false
set_option maxRecDepth 100000
set_option maxHeartbeats 20000000
open Go.RowKit
structure PutIn (E:SEnv) (w:World) (Vc Tc Kc x A n:Nat) (t:Tx) (s:Sto) (r:Root) (p:KV):Prop where
 hVc:w.heap[Vc]?=some (.cells #[.string p.v] 9)
 hTc:w.heap[Tc]?=some (.cells #[.pointer (some ⟨x,0,none⟩)] 32)
 hKc:w.heap[Kc]?=some (.cells #[.string p.k] 9)
 hx:w.heap[x]?=some (xobj t)
 on:t.on=some ⟨E.V,0,none⟩
 hSt:w.heap[t.St]?=some (sobj 1 s)
 sV:s.V=E.V
 hV:w.heap[E.V]?=some (vobj A n)
 n1:n≤1000
 bl0:0≤s.bl
 bl1:s.bl≤1000
 dev:E.Dev w
 vS:E.V ∉ E.S
 rr:RR E.toEnv w t.h r
 good:RGood r
 sz:r.cont.length≤50000
theorem put1_long (Vc Tc Kc:Nat) (v:ByteArray) (w:World) (hVc:w.heap[Vc]?=some (.cells #[.string v] 9)) (h12:12 < v.size) :
  Calls Tryz.prog 72 #[.pointer (some ⟨Vc,0,none⟩),.pointer (some ⟨Tc,0,none⟩),.pointer (some ⟨Kc,0,none⟩)] w fun e w'=>e=outc (some 2)∧w'=w:=by
 have hb:(12:Int) < (v.size:Int):=by omega
 have hs:=lt_of_heap hVc
 have v0:=cell_of hVc 0
 simp only [zG,zH,zI] at v0
 go_enter Tryz.func72,Tryz.ntmps72
 go_wp2
 exact ⟨rfl,rfl,rfl,rfl⟩
theorem txn_set {W:World} {x:Nat} {t:Tx} (v0 v1 v2 v3 v4:Value) (h:W.heap[x]?=some (xobj t)) :
  (((((W.setCell ⟨x,4,none⟩ v0).setCell ⟨x,5,none⟩ v1).setCell ⟨x,6,none⟩ v2).setCell ⟨x,7,none⟩ v3).setCell ⟨x,8,none⟩ v4).heap[x]?=some (.cells #[.pointer (some ⟨t.St,0,none⟩),.int .u64 t.nr,.bool t.wrt,.bool t.over,v0,v1,v2,v3,v4,.int .u64 t.ch] 99)∧Kp [x] W (((((W.setCell ⟨x,4,none⟩ v0).setCell ⟨x,5,none⟩ v1).setCell ⟨x,6,none⟩ v2).setCell ⟨x,7,none⟩ v3).setCell ⟨x,8,none⟩ v4):=
 ⟨heap_set (heap_set (heap_set (heap_set (heap_set h 4 _) 5 _) 6 _) 7 _) 8 _,(((((Kp.refl _ W).setCell (by simp) _).setCell (by simp) _).setCell (by simp) _).setCell (by simp) _).setCell (by simp) _⟩
theorem put1_ok (E:SEnv) (Vc Tc Kc x A n:Nat) (t:Tx) (s:Sto) (r:Root) (p:KV) (w:World) (hI:PutIn E w Vc Tc Kc x A n t s r p) (hok:okKV p) (hroom:((r.put p).news:Int)≤(n:Int) - 2 - s.bl) :
  Calls Tryz.prog 72 #[.pointer (some ⟨Vc,0,none⟩),.pointer (some ⟨Tc,0,none⟩),.pointer (some ⟨Kc,0,none⟩)] w fun e w'=>e=outc none∧∃ w1 h',E.To w w1∧RR E.toEnv w' h' (r.put p)∧w'.heap[x]?=some (xobj { t with h:=h' })∧Kp [x] w1 w':=by
 have HI:Hid (PutIn E w Vc Tc Kc x A n t s r p):=hI
 have HOK:Hid (okKV p):=hok
 have hon:=hI.on
 have HVS:Hid (E.V ∉ E.S):=hI.vS
 have HST:Hid (∀ W,E.To w W→W.heap[Tc]?=some (.cells #[.pointer (some ⟨x,0,none⟩)] 32)∧W.heap[x]?=some (xobj t)∧W.heap[Kc]?=some (.cells #[.string p.k] 9)∧W.heap[Vc]?=some (.cells #[.string p.v] 9)):=
  fun W hT=>⟨E.stay hI.dev hT hI.hTc (by decide),E.stay hI.dev hT hI.hx (by decide),E.stay hI.dev hT hI.hKc (by decide),E.stay hI.dev hT hI.hVc (by decide)⟩
 have hb:¬ (12:Int) < (p.v.size:Int):=by have:=hok.2.2;omega
 have hkl:p.k.size≤1000000:=by have:=hok.2.1;omega
 have hvl:p.v.size≤1000000:=by have:=hok.2.2;omega
 have hVs:=lt_of_heap hI.hVc
 have hVc:=hI.hVc
 have v0:=cell_of hVc 0
 simp only [zG,zH,zI] at v0
 clear hI hok hVc
 go_enter Tryz.func72,Tryz.ntmps72
 go_wp2_with fail
 clear hb v0
 have hT0:E.To w w:=Env.To.of0 HI.out.dev (Kp.refl _ _)
 have hS0:=HST.out _ hT0
 refine wp_region_held_drew (S:=fun W=>W.heap[Tc]?=some (.cells #[.pointer (some ⟨x,0,none⟩)] 32)∧W.heap[x]?=some (xobj t)∧W.heap[Kc]?=some (.cells #[.string p.k] 9)∧W.heap[Vc]?=some (.cells #[.string p.v] 9)) (by kernel_rfl) hS0 (fun _=>?_)
 refine zT (i:=0) (v:=.pointer (some ⟨x,0,none⟩)) rfl (by kernel_rfl) (fun _ _ _ h=>h) (Or.inl ⟨by rfl,fun W hS=>by have c:=cell_of hS.1 0;simp at c;clear hS;go_simp⟩) hS0 ?_
 simp only [Act.put,zA,zB,zC,zD,zE,zF]
 refine zT (i:=1) (v:=.pointer (some ⟨x,0,none⟩)) rfl (by kernel_rfl) (fun _ _ _ h=>h) (Or.inl ⟨by rfl,fun W hS=>by clear hS;go_simp⟩) hS0 ?_
 simp only [Act.put,zA,zB,zC,zD,zE,zF]
 refine zT (i:=2) (v:=.pointer (some ⟨x,4,none⟩)) rfl (by kernel_rfl) (fun _ _ _ h=>h) (Or.inl ⟨by rfl,fun W hS=>by clear hS;go_simp⟩) hS0 ?_
 simp only [Act.put,zA,zB,zC,zD,zE,zF]
 refine zT (i:=3) (v:=tval E.V t.h) rfl (by kernel_rfl) (fun _ _ _ h=>h) (Or.inl ⟨by rfl,fun W hS=>by have a0:=cell_of hS.2.1 4;have a1:=cell_of hS.2.1 5;have a2:=cell_of hS.2.1 6;have a3:=cell_of hS.2.1 7;have a4:=cell_of hS.2.1 8;simp only [xobj,hon,zG,zH,zI] at a0 a1 a2 a3 a4;clear hS;rw [tval];go_simp⟩) hS0 ?_
 simp only [Act.put,zA,zB,zC,zD,zE,zF]
 refine zT (i:=4) (v:=.string p.k) rfl (by kernel_rfl) (fun _ _ _ h=>h) (Or.inl ⟨by rfl,fun W hS=>by have c:=cell_of hS.2.2.1 0;simp at c;clear hS;go_simp⟩) hS0 ?_
 simp only [Act.put,zA,zB,zC,zD,zE,zF]
 refine zT (i:=6) (v:=.string p.v) rfl (by kernel_rfl) (fun _ _ _ h=>h) (Or.inl ⟨by rfl,fun W hS=>by have c:=cell_of hS.2.2.2 0;simp at c;clear hS;go_simp⟩) hS0 ?_
 simp only [Act.put,zA,zB,zC,zD,zE,zF]
 have hTd:E.To w w.drew:=hT0.tail ((Kp.refl _ _).drew)
 have hSd:=HST.out _ hTd
 clear hT0 hS0
 refine wpAnyH_ready (rs:=[5,10]) (by kernel_rfl) (by simp) ?_
 refine AllReadyH.cons rfl (fun K hK=>?_) (AllReadyH.cons rfl (fun K hK=>?_) AllReadyH.nil)
 ·go_simp
  refine (clone_ok p.k w.drew (by omega)).mono ?_
  rintro e w1 ⟨rfl,hKn⟩
  have hT1:=hTd.tail hKn
  have hS1:=HST.out _ hT1
  clear hTd hSd
  refine hK.out _ _ hS1 (fun _=>?_)
  clear hK K
  try simp only [Act.put,zA,zB,zC,zD,zE,zF]
  refine wpAnyH_ready (rs:=[7,10]) (by kernel_rfl) (by simp) ?_
  refine AllReadyH.cons rfl (fun K hK=>?_) (AllReadyH.cons rfl (fun K hK=>?_) AllReadyH.nil)
  ·go_simp
   refine (clone_ok p.v w1 (by omega)).mono ?_
   rintro e w2 ⟨rfl,hKn⟩
   have hT2:=hT1.tail hKn
   have hS2:=HST.out _ hT2
   clear hT1 hS1
   refine hK.out _ _ hS2 (fun _=>?_)
   clear hK K
   try simp only [Act.put,zA,zB,zC,zD,zE,zF]
   refine zT (i:=8) (v:=.agg #[.string p.k,.string p.v]) rfl (by kernel_rfl) (fun _ _ _ h=>h) (Or.inl ⟨by rfl,fun W hS=>by clear hS;go_simp⟩) hS2 ?_
   simp only [Act.put,zA,zB,zC,zD,zE,zF]
   refine wpAnyH_ready (rs:=[9,10]) (by kernel_rfl) (by simp) ?_
   refine AllReadyH.cons rfl (fun K hK=>?_) (AllReadyH.cons rfl (fun K hK=>?_) AllReadyH.nil)
   ·go_simp
    refine (tput_ok E.toEnv r t.h p w2 hT2.dev (HI.out.rr.to HI.out.dev hT2) HI.out.good (by have:=HI.out.sz;omega) HOK.out).mono ?_
    rintro e w3 ⟨h',rfl,hRR,hTn⟩
    have hT3:=hT2.trans hTn
    have hS3:=HST.out _ hT3
    clear hT2 hS2 hTn
    refine hK.out _ _ hS3 (fun _=>?_)
    clear hK K
    try simp only [Act.put,zA,zB,zC,zD,zE,zF]
    refine wpAnyH_ready (rs:=[10]) (by kernel_rfl) (by simp) ?_
    refine AllReadyH.cons rfl (fun K hK=>?_) AllReadyH.nil
    go_simp
    obtain ⟨w4,hw,hTb,hKa⟩:∃ w4,w4=w3.alloc (Obj.cells #[.pointer none,.string ⟨#[]⟩,.int .i64 0,.int .u64 0,.pointer none] 89)∧w4.heap[w3.heap.size]?=some (Obj.cells #[.pointer none,.string ⟨#[]⟩,.int .i64 0,.int .u64 0,.pointer none] 89)∧Kp [] w3 w4:=⟨_,rfl,heap_new _ _,(Kp.refl _ _).alloc _⟩
    rw [← hw]
    clear hw
    have hTbl:w.heap.size≤w3.heap.size:=hT3.kp.size
    have hTbs:w3.heap.size < w4.heap.size:=lt_of_heap hTb
    have hT4:=hT3.tail hKa
    have hS4:=HST.out _ hT4
    obtain ⟨Tb,hTbe⟩:∃ Tb,Tb=w3.heap.size:=⟨_,rfl⟩
    rw [← hTbe] at hTb hTbl hTbs ⊢
    clear hTbe
    have hRR4:=hRR.keepT hKa (Apt.nil _ _)
    clear hRR hT3 hS3 hKa
    have hRR:=hRR4
    refine hK.out _ _ hS4 (fun _=>?_)
    clear hK K
    try simp only [Act.put,zA,zB,zC,zD,zE,zF]
    have b0:=cell_of hTb 0
    have b1:=cell_of hTb 1
    have b2:=cell_of hTb 2
    have b3:=cell_of hTb 3
    have b4:=cell_of hTb 4
    simp only [zG,zH,zI] at b0 b1 b2 b3 b4
    have fb0:=frozen_of hTb 0
    have fb1:=frozen_of hTb 1
    have fb2:=frozen_of hTb 2
    have fb3:=frozen_of hTb 3
    have fb4:=frozen_of hTb 4
    have hTbs2:=lt_of_heap hTb
    simp only [tval]
    refine wpAnyH_ready (rs:=[11]) (by kernel_rfl) (by simp) ?_
    refine AllReadyH.cons rfl (fun K hK=>?_) AllReadyH.nil
    go_simp
    have hts:=tree_set (.pointer (some ⟨E.V,0,none⟩)) (.string h'.key) (.int .i64 h'.b) (.int .u64 h'.s) (.pointer h'.ptr) hTb
    obtain ⟨w9,hw9,hTb9,hK9⟩:∃ w9,w9=((((w4.setCell ⟨Tb,0,none⟩ (.pointer (some ⟨E.V,0,none⟩))).setCell ⟨Tb,1,none⟩ (.string h'.key)).setCell ⟨Tb,2,none⟩ (.int .i64 h'.b)).setCell ⟨Tb,3,none⟩ (.int .u64 h'.s)).setCell ⟨Tb,4,none⟩ (.pointer h'.ptr)∧w9.heap[Tb]?=some (Obj.cells #[.pointer (some ⟨E.V,0,none⟩),.string h'.key,.int .i64 h'.b,.int .u64 h'.s,.pointer h'.ptr] 89)∧Kp [Tb] w4 w9:=⟨_,rfl,hts.1,hts.2⟩
    rw [← hw9]
    clear hw9 hts b0 b1 b2 b3 b4 fb0 fb1 fb2 fb3 fb4
    have hT9:=hT4.store' hTbl hTb (by decide) hK9
    have hS9:=HST.out _ hT9
    have hRR9:=hRR.keepT hK9 (Apt.one hTb (by decide))
    refine hK.out _ _ hS9 (fun _=>?_)
    clear hK K
    try simp only [Act.put,zA,zB,zC,zD,zE,zF]
    refine wpAnyH_done (by kernel_rfl) ?_ _
    have HT9:Hid (E.To w w9):=hT9
    have HRR9:Hid (RR E.toEnv w9 h' (r.put p)):=hRR9
    have HTB9:Hid (w9.heap[Tb]?=some (Obj.cells #[.pointer (some ⟨E.V,0,none⟩),.string h'.key,.int .i64 h'.b,.int .u64 h'.s,.pointer h'.ptr] 89)):=hTb9
    clear hT9 hRR9 hS9 hTb
    go_wp2_with fail
    have hS9:=And.intro hTb9 (And.intro (HST.out _ HT9.out).1 (HST.out _ HT9.out).2.1)
    refine wp_region_held_drew (S:=fun W=>W.heap[Tb]?=some (Obj.cells #[.pointer (some ⟨E.V,0,none⟩),.string h'.key,.int .i64 h'.b,.int .u64 h'.s,.pointer h'.ptr] 89)∧W.heap[Tc]?=some (.cells #[.pointer (some ⟨x,0,none⟩)] 32)∧W.heap[x]?=some (xobj t)) (by kernel_rfl) hS9 (fun _=>?_)
    refine zT (i:=0) (v:=tval E.V h') rfl (by kernel_rfl) (fun _ _ _ h=>h) (Or.inl ⟨by rfl,fun W hS=>by have a0:=cell_of hS.1 0;have a1:=cell_of hS.1 1;have a2:=cell_of hS.1 2;have a3:=cell_of hS.1 3;have a4:=cell_of hS.1 4;simp only [zG,zH,zI] at a0 a1 a2 a3 a4;clear hS;rw [tval];go_simp⟩) hS9 ?_
    simp only [Act.put,zA,zB,zC,zD,zE,zF]
    refine zT (i:=2) (v:=.pointer (some ⟨x,0,none⟩)) rfl (by kernel_rfl) (fun _ _ _ h=>h) (Or.inl ⟨by rfl,fun W hS=>by have c:=cell_of hS.2.1 0;simp at c;clear hS;go_simp⟩) hS9 ?_
    simp only [Act.put,zA,zB,zC,zD,zE,zF]
    refine zT (i:=3) (v:=.pointer (some ⟨x,0,none⟩)) rfl (by kernel_rfl) (fun _ _ _ h=>h) (Or.inl ⟨by rfl,fun W hS=>by clear hS;go_simp⟩) hS9 ?_
    simp only [Act.put,zA,zB,zC,zD,zE,zF]
    refine zT (i:=4) (v:=.pointer (some ⟨x,0,none⟩)) rfl (by kernel_rfl) (fun _ _ _ h=>h) (Or.inl ⟨by rfl,fun W hS=>by clear hS;go_simp⟩) hS9 ?_
    simp only [Act.put,zA,zB,zC,zD,zE,zF]
    refine zT (i:=5) (v:=.pointer (some ⟨t.St,0,none⟩)) rfl (by kernel_rfl) (fun _ _ _ h=>h) (Or.inl ⟨by rfl,fun W hS=>by have a0:=cell_of hS.2.2 0;simp only [xobj,zG,zH,zI] at a0;clear hS;go_simp⟩) hS9 ?_
    simp only [Act.put,zA,zB,zC,zD,zE,zF]
    refine wpAnyH_ready (rs:=[1]) (by kernel_rfl) (by simp) ?_
    refine AllReadyH.cons rfl (fun K hK=>?_) AllReadyH.nil
    go_simp
    obtain ⟨hpg,hpc⟩:=put_good HI.out.good HOK.out
    have hpl:(r.put p).cont.length≤1000000:=by rw [hpc];have h1:=ins_length p r.cont;have h2:=HI.out.sz;omega
    refine (rnew_ok E.toEnv (r.put p) h' w9.drew (HRR9.out.keepT ((Kp.refl [] _).drew) (Apt.nil _ _)) hpg hpl).mono ?_
    rintro e w10 ⟨rfl,hKn⟩
    have hK10:Kp [] w9 w10:=((Kp.refl [] w9).drew).trans hKn (by simp)
    have hT10:=HT9.out.tail hK10
    have hS10:=And.intro (hK10.heap hS9.1 (by simp)) (And.intro (hK10.heap hS9.2.1 (by simp)) (hK10.heap hS9.2.2 (by simp)))
    clear hKn
    refine hK.out _ _ hS10 (fun _=>?_)
    clear hK K
    try simp only [Act.put,zA,zB,zC,zD,zE,zF]
    refine wpAnyH_ready (rs:=[6]) (by kernel_rfl) (by simp) ?_
    refine AllReadyH.cons rfl (fun K hK=>?_) AllReadyH.nil
    go_simp
    have hSt10:=E.stay HI.out.dev hT10 HI.out.hSt (by decide)
    have hV10:w10.heap[s.V]?=some (vobj A n):=by
     rw [HI.out.sV]
     exact hT10.kp.heap HI.out.hV (HVS.out)
    refine (room_ok t.St A n 1 s w10 hSt10 hV10 (by have:=HI.out.n1;omega) HI.out.bl0 (by have:=HI.out.bl1;omega)).mono ?_
    rintro e w11 ⟨rfl,hK11⟩
    have hT11:=hT10.tail hK11
    have hS11:=And.intro (hK11.heap hS10.1 (by simp)) (And.intro (hK11.heap hS10.2.1 (by simp)) (hK11.heap hS10.2.2 (by simp)))
    refine hK.out _ _ hS11 (fun _=>?_)
    clear hK K
    try simp only [Act.put,zA,zB,zC,zD,zE,zF]
    have HRR11:Hid (RR E.toEnv w11 h' (r.put p)):=HRR9.out.keepT (hK10.trans hK11 (by simp)) (Apt.nil _ _)
    have HT11:Hid (E.To w w11):=hT11
    have HS11:Hid (w11.heap[Tb]?=some (Obj.cells #[.pointer (some ⟨E.V,0,none⟩),.string h'.key,.int .i64 h'.b,.int .u64 h'.s,.pointer h'.ptr] 89)∧w11.heap[Tc]?=some (.cells #[.pointer (some ⟨x,0,none⟩)] 32)∧w11.heap[x]?=some (xobj t)):=hS11
    clear hSt10 hV10 hK10 hK11 hT10 hT11 hS9 hS10 hTb9
    refine zT (i:=7) (v:=.bool false) rfl (by kernel_rfl) (fun _ _ _ h=>h) (Or.inl ⟨by rfl,fun W hS=>by clear hS;go_simp⟩) hS11 ?_
    simp only [Act.put,zA,zB,zC,zD,zE,zF]
    refine wpAnyH_done (by kernel_rfl) ?_ _
    have hTbs:=lt_of_heap hS11.1
    have hTcs:=lt_of_heap hS11.2.1
    have hxs:=lt_of_heap hS11.2.2
    have hb1:=hS11.1
    have hb2:=hS11.2.1
    have hb3:=hS11.2.2
    have b0:=cell_of hb1 0
    have b1:=cell_of hb1 1
    have b2:=cell_of hb1 2
    have b3:=cell_of hb1 3
    have b4:=cell_of hb1 4
    simp only [zG,zH,zI] at b0 b1 b2 b3 b4
    have c0:=cell_of hb2 0
    simp only [zG,zH,zI] at c0
    have d4:=cell_of hb3 4
    have d5:=cell_of hb3 5
    have d6:=cell_of hb3 6
    have d7:=cell_of hb3 7
    have d8:=cell_of hb3 8
    simp only [xobj,zG,zH,zI] at d4 d5 d6 d7 d8
    have f4:=frozen_of hb3 4
    have f5:=frozen_of hb3 5
    have f6:=frozen_of hb3 6
    have f7:=frozen_of hb3 7
    have f8:=frozen_of hb3 8
    clear hS11 hb1 hb2 hb3
    go_wp2
    go_end0
    have hts:=txn_set (.pointer (some ⟨E.V,0,none⟩)) (.string h'.key) (.int .i64 h'.b) (.int .u64 h'.s) (.pointer h'.ptr) HS11.out.2.2
    refine ⟨rfl,w11,h',HT11.out,HRR11.out.keepT hts.2 (Apt.one HS11.out.2.2 (by decide)),?_,hts.2⟩
    rw [hts.1,xobj,hon]
   ·go_simp
    obtain ⟨w3,hw,hTb,hKa⟩:∃ w3,w3=w2.alloc (Obj.cells #[.pointer none,.string ⟨#[]⟩,.int .i64 0,.int .u64 0,.pointer none] 89)∧w3.heap[w2.heap.size]?=some (Obj.cells #[.pointer none,.string ⟨#[]⟩,.int .i64 0,.int .u64 0,.pointer none] 89)∧Kp [] w2 w3:=⟨_,rfl,heap_new _ _,(Kp.refl _ _).alloc _⟩
    rw [← hw]
    clear hw
    have hTbl:w.heap.size≤w2.heap.size:=hT2.kp.size
    have hTbs:w2.heap.size < w3.heap.size:=lt_of_heap hTb
    have hT3:=hT2.tail hKa
    have hS3:=HST.out _ hT3
    obtain ⟨Tb,hTbe⟩:∃ Tb,Tb=w2.heap.size:=⟨_,rfl⟩
    rw [← hTbe] at hTb hTbl hTbs ⊢
    clear hTbe
    clear hT2 hS2 hKa
    refine hK.out _ _ hS3 (fun _=>?_)
    clear hK K
    try simp only [Act.put,zA,zB,zC,zD,zE,zF]
    refine wpAnyH_ready (rs:=[9]) (by kernel_rfl) (by simp) ?_
    refine AllReadyH.cons rfl (fun K hK=>?_) AllReadyH.nil
    go_simp
    refine (tput_ok E.toEnv r t.h p w3 hT3.dev (HI.out.rr.to HI.out.dev hT3) HI.out.good (by have:=HI.out.sz;omega) HOK.out).mono ?_
    rintro e w4 ⟨h',rfl,hRR,hTn⟩
    have hT4:=hT3.trans hTn
    have hS4:=HST.out _ hT4
    have hTb4:=hTn.new HI.out.dev hTbl hTb
    clear hT3 hS3 hTn hTb
    have hTb:=hTb4
    refine hK.out _ _ hS4 (fun _=>?_)
    clear hK K
    try simp only [Act.put,zA,zB,zC,zD,zE,zF]
    have b0:=cell_of hTb 0
    have b1:=cell_of hTb 1
    have b2:=cell_of hTb 2
    have b3:=cell_of hTb 3
    have b4:=cell_of hTb 4
    simp only [zG,zH,zI] at b0 b1 b2 b3 b4
    have fb0:=frozen_of hTb 0
    have fb1:=frozen_of hTb 1
    have fb2:=frozen_of hTb 2
    have fb3:=frozen_of hTb 3
    have fb4:=frozen_of hTb 4
    have hTbs2:=lt_of_heap hTb
    simp only [tval]
    refine wpAnyH_ready (rs:=[11]) (by kernel_rfl) (by simp) ?_
    refine AllReadyH.cons rfl (fun K hK=>?_) AllReadyH.nil
    go_simp
    have hts:=tree_set (.pointer (some ⟨E.V,0,none⟩)) (.string h'.key) (.int .i64 h'.b) (.int .u64 h'.s) (.pointer h'.ptr) hTb
    obtain ⟨w9,hw9,hTb9,hK9⟩:∃ w9,w9=((((w4.setCell ⟨Tb,0,none⟩ (.pointer (some ⟨E.V,0,none⟩))).setCell ⟨Tb,1,none⟩ (.string h'.key)).setCell ⟨Tb,2,none⟩ (.int .i64 h'.b)).setCell ⟨Tb,3,none⟩ (.int .u64 h'.s)).setCell ⟨Tb,4,none⟩ (.pointer h'.ptr)∧w9.heap[Tb]?=some (Obj.cells #[.pointer (some ⟨E.V,0,none⟩),.string h'.key,.int .i64 h'.b,.int .u64 h'.s,.pointer h'.ptr] 89)∧Kp [Tb] w4 w9:=⟨_,rfl,hts.1,hts.2⟩
    rw [← hw9]
    clear hw9 hts b0 b1 b2 b3 b4 fb0 fb1 fb2 fb3 fb4
    have hT9:=hT4.store' hTbl hTb (by decide) hK9
    have hS9:=HST.out _ hT9
    have hRR9:=hRR.keepT hK9 (Apt.one hTb (by decide))
    refine hK.out _ _ hS9 (fun _=>?_)
    clear hK K
    try simp only [Act.put,zA,zB,zC,zD,zE,zF]
    refine wpAnyH_done (by kernel_rfl) ?_ _
    have HT9:Hid (E.To w w9):=hT9
    have HRR9:Hid (RR E.toEnv w9 h' (r.put p)):=hRR9
    have HTB9:Hid (w9.heap[Tb]?=some (Obj.cells #[.pointer (some ⟨E.V,0,none⟩),.string h'.key,.int .i64 h'.b,.int .u64 h'.s,.pointer h'.ptr] 89)):=hTb9
    clear hT9 hRR9 hS9 hTb
    go_wp2_with fail
    have hS9:=And.intro hTb9 (And.intro (HST.out _ HT9.out).1 (HST.out _ HT9.out).2.1)
    refine wp_region_held_drew (S:=fun W=>W.heap[Tb]?=some (Obj.cells #[.pointer (some ⟨E.V,0,none⟩),.string h'.key,.int .i64 h'.b,.int .u64 h'.s,.pointer h'.ptr] 89)∧W.heap[Tc]?=some (.cells #[.pointer (some ⟨x,0,none⟩)] 32)∧W.heap[x]?=some (xobj t)) (by kernel_rfl) hS9 (fun _=>?_)
    refine zT (i:=0) (v:=tval E.V h') rfl (by kernel_rfl) (fun _ _ _ h=>h) (Or.inl ⟨by rfl,fun W hS=>by have a0:=cell_of hS.1 0;have a1:=cell_of hS.1 1;have a2:=cell_of hS.1 2;have a3:=cell_of hS.1 3;have a4:=cell_of hS.1 4;simp only [zG,zH,zI] at a0 a1 a2 a3 a4;clear hS;rw [tval];go_simp⟩) hS9 ?_
    simp only [Act.put,zA,zB,zC,zD,zE,zF]
    refine zT (i:=2) (v:=.pointer (some ⟨x,0,none⟩)) rfl (by kernel_rfl) (fun _ _ _ h=>h) (Or.inl ⟨by rfl,fun W hS=>by have c:=cell_of hS.2.1 0;simp at c;clear hS;go_simp⟩) hS9 ?_
    simp only [Act.put,zA,zB,zC,zD,zE,zF]
    refine zT (i:=3) (v:=.pointer (some ⟨x,0,none⟩)) rfl (by kernel_rfl) (fun _ _ _ h=>h) (Or.inl ⟨by rfl,fun W hS=>by clear hS;go_simp⟩) hS9 ?_
    simp only [Act.put,zA,zB,zC,zD,zE,zF]
    refine zT (i:=4) (v:=.pointer (some ⟨x,0,none⟩)) rfl (by kernel_rfl) (fun _ _ _ h=>h) (Or.inl ⟨by rfl,fun W hS=>by clear hS;go_simp⟩) hS9 ?_
    simp only [Act.put,zA,zB,zC,zD,zE,zF]
    refine zT (i:=5) (v:=.pointer (some ⟨t.St,0,none⟩)) rfl (by kernel_rfl) (fun _ _ _ h=>h) (Or.inl ⟨by rfl,fun W hS=>by have a0:=cell_of hS.2.2 0;simp only [xobj,zG,zH,zI] at a0;clear hS;go_simp⟩) hS9 ?_
    simp only [Act.put,zA,zB,zC,zD,zE,zF]
    refine wpAnyH_ready (rs:=[1]) (by kernel_rfl) (by simp) ?_
    refine AllReadyH.cons rfl (fun K hK=>?_) AllReadyH.nil
    go_simp
    obtain ⟨hpg,hpc⟩:=put_good HI.out.good HOK.out
    have hpl:(r.put p).cont.length≤1000000:=by rw [hpc];have h1:=ins_length p r.cont;have h2:=HI.out.sz;omega
    refine (rnew_ok E.toEnv (r.put p) h' w9.drew (HRR9.out.keepT ((Kp.refl [] _).drew) (Apt.nil _ _)) hpg hpl).mono ?_
    rintro e w10 ⟨rfl,hKn⟩
    have hK10:Kp [] w9 w10:=((Kp.refl [] w9).drew).trans hKn (by simp)
    have hT10:=HT9.out.tail hK10
    have hS10:=And.intro (hK10.heap hS9.1 (by simp)) (And.intro (hK10.heap hS9.2.1 (by simp)) (hK10.heap hS9.2.2 (by simp)))
    clear hKn
    refine hK.out _ _ hS10 (fun _=>?_)
    clear hK K
    try simp only [Act.put,zA,zB,zC,zD,zE,zF]
    refine wpAnyH_ready (rs:=[6]) (by kernel_rfl) (by simp) ?_
    refine AllReadyH.cons rfl (fun K hK=>?_) AllReadyH.nil
    go_simp
    have hSt10:=E.stay HI.out.dev hT10 HI.out.hSt (by decide)
    have hV10:w10.heap[s.V]?=some (vobj A n):=by
     rw [HI.out.sV]
     exact hT10.kp.heap HI.out.hV (HVS.out)
    refine (room_ok t.St A n 1 s w10 hSt10 hV10 (by have:=HI.out.n1;omega) HI.out.bl0 (by have:=HI.out.bl1;omega)).mono ?_
    rintro e w11 ⟨rfl,hK11⟩
    have hT11:=hT10.tail hK11
    have hS11:=And.intro (hK11.heap hS10.1 (by simp)) (And.intro (hK11.heap hS10.2.1 (by simp)) (hK11.heap hS10.2.2 (by simp)))
    refine hK.out _ _ hS11 (fun _=>?_)
    clear hK K
    try simp only [Act.put,zA,zB,zC,zD,zE,zF]
    have HRR11:Hid (RR E.toEnv w11 h' (r.put p)):=HRR9.out.keepT (hK10.trans hK11 (by simp)) (Apt.nil _ _)
    have HT11:Hid (E.To w w11):=hT11
    have HS11:Hid (w11.heap[Tb]?=some (Obj.cells #[.pointer (some ⟨E.V,0,none⟩),.string h'.key,.int .i64 h'.b,.int .u64 h'.s,.pointer h'.ptr] 89)∧w11.heap[Tc]?=some (.cells #[.pointer (some ⟨x,0,none⟩)] 32)∧w11.heap[x]?=some (xobj t)):=hS11
    clear hSt10 hV10 hK10 hK11 hT10 hT11 hS9 hS10 hTb9
    refine zT (i:=7) (v:=.bool false) rfl (by kernel_rfl) (fun _ _ _ h=>h) (Or.inl ⟨by rfl,fun W hS=>by clear hS;go_simp⟩) hS11 ?_
    simp only [Act.put,zA,zB,zC,zD,zE,zF]
    refine wpAnyH_done (by kernel_rfl) ?_ _
    have hTbs:=lt_of_heap hS11.1
    have hTcs:=lt_of_heap hS11.2.1
    have hxs:=lt_of_heap hS11.2.2
    have hb1:=hS11.1
    have hb2:=hS11.2.1
    have hb3:=hS11.2.2
    have b0:=cell_of hb1 0
    have b1:=cell_of hb1 1
    have b2:=cell_of hb1 2
    have b3:=cell_of hb1 3
    have b4:=cell_of hb1 4
    simp only [zG,zH,zI] at b0 b1 b2 b3 b4
    have c0:=cell_of hb2 0
    simp only [zG,zH,zI] at c0
    have d4:=cell_of hb3 4
    have d5:=cell_of hb3 5
    have d6:=cell_of hb3 6
    have d7:=cell_of hb3 7
    have d8:=cell_of hb3 8
    simp only [xobj,zG,zH,zI] at d4 d5 d6 d7 d8
    have f4:=frozen_of hb3 4
    have f5:=frozen_of hb3 5
    have f6:=frozen_of hb3 6
    have f7:=frozen_of hb3 7
    have f8:=frozen_of hb3 8
    clear hS11 hb1 hb2 hb3
    go_wp2
    go_end0
    have hts:=txn_set (.pointer (some ⟨E.V,0,none⟩)) (.string h'.key) (.int .i64 h'.b) (.int .u64 h'.s) (.pointer h'.ptr) HS11.out.2.2
    refine ⟨rfl,w11,h',HT11.out,HRR11.out.keepT hts.2 (Apt.one HS11.out.2.2 (by decide)),?_,hts.2⟩
    rw [hts.1,xobj,hon]
  ·go_simp
   obtain ⟨w2,hw,hTb,hKa⟩:∃ w2,w2=w1.alloc (Obj.cells #[.pointer none,.string ⟨#[]⟩,.int .i64 0,.int .u64 0,.pointer none] 89)∧w2.heap[w1.heap.size]?=some (Obj.cells #[.pointer none,.string ⟨#[]⟩,.int .i64 0,.int .u64 0,.pointer none] 89)∧Kp [] w1 w2:=⟨_,rfl,heap_new _ _,(Kp.refl _ _).alloc _⟩
   rw [← hw]
   clear hw
   have hTbl:w.heap.size≤w1.heap.size:=hT1.kp.size
   have hTbs:w1.heap.size < w2.heap.size:=lt_of_heap hTb
   have hT2:=hT1.tail hKa
   have hS2:=HST.out _ hT2
   obtain ⟨Tb,hTbe⟩:∃ Tb,Tb=w1.heap.size:=⟨_,rfl⟩
   rw [← hTbe] at hTb hTbl hTbs ⊢
   clear hTbe
   clear hT1 hS1 hKa
   refine hK.out _ _ hS2 (fun _=>?_)
   clear hK K
   try simp only [Act.put,zA,zB,zC,zD,zE,zF]
   refine wpAnyH_ready (rs:=[7]) (by kernel_rfl) (by simp) ?_
   refine AllReadyH.cons rfl (fun K hK=>?_) AllReadyH.nil
   go_simp
   refine (clone_ok p.v w2 (by omega)).mono ?_
   rintro e w3 ⟨rfl,hKn⟩
   have hT3:=hT2.tail hKn
   have hS3:=HST.out _ hT3
   have hTb3:=hKn.heap hTb (by simp)
   clear hT2 hS2 hTb hKn
   have hTb:=hTb3
   refine hK.out _ _ hS3 (fun _=>?_)
   clear hK K
   try simp only [Act.put,zA,zB,zC,zD,zE,zF]
   refine zT (i:=8) (v:=.agg #[.string p.k,.string p.v]) rfl (by kernel_rfl) (fun _ _ _ h=>h) (Or.inl ⟨by rfl,fun W hS=>by clear hS;go_simp⟩) hS3 ?_
   simp only [Act.put,zA,zB,zC,zD,zE,zF]
   refine wpAnyH_ready (rs:=[9]) (by kernel_rfl) (by simp) ?_
   refine AllReadyH.cons rfl (fun K hK=>?_) AllReadyH.nil
   go_simp
   refine (tput_ok E.toEnv r t.h p w3 hT3.dev (HI.out.rr.to HI.out.dev hT3) HI.out.good (by have:=HI.out.sz;omega) HOK.out).mono ?_
   rintro e w4 ⟨h',rfl,hRR,hTn⟩
   have hT4:=hT3.trans hTn
   have hS4:=HST.out _ hT4
   have hTb4:=hTn.new HI.out.dev hTbl hTb
   clear hT3 hS3 hTn hTb hTb3
   have hTb:=hTb4
   refine hK.out _ _ hS4 (fun _=>?_)
   clear hK K
   try simp only [Act.put,zA,zB,zC,zD,zE,zF]
   have b0:=cell_of hTb 0
   have b1:=cell_of hTb 1
   have b2:=cell_of hTb 2
   have b3:=cell_of hTb 3
   have b4:=cell_of hTb 4
   simp only [zG,zH,zI] at b0 b1 b2 b3 b4
   have fb0:=frozen_of hTb 0
   have fb1:=frozen_of hTb 1
   have fb2:=frozen_of hTb 2
   have fb3:=frozen_of hTb 3
   have fb4:=frozen_of hTb 4
   have hTbs2:=lt_of_heap hTb
   simp only [tval]
   refine wpAnyH_ready (rs:=[11]) (by kernel_rfl) (by simp) ?_
   refine AllReadyH.cons rfl (fun K hK=>?_) AllReadyH.nil
   go_simp
   have hts:=tree_set (.pointer (some ⟨E.V,0,none⟩)) (.string h'.key) (.int .i64 h'.b) (.int .u64 h'.s) (.pointer h'.ptr) hTb
   obtain ⟨w9,hw9,hTb9,hK9⟩:∃ w9,w9=((((w4.setCell ⟨Tb,0,none⟩ (.pointer (some ⟨E.V,0,none⟩))).setCell ⟨Tb,1,none⟩ (.string h'.key)).setCell ⟨Tb,2,none⟩ (.int .i64 h'.b)).setCell ⟨Tb,3,none⟩ (.int .u64 h'.s)).setCell ⟨Tb,4,none⟩ (.pointer h'.ptr)∧w9.heap[Tb]?=some (Obj.cells #[.pointer (some ⟨E.V,0,none⟩),.string h'.key,.int .i64 h'.b,.int .u64 h'.s,.pointer h'.ptr] 89)∧Kp [Tb] w4 w9:=⟨_,rfl,hts.1,hts.2⟩
   rw [← hw9]
   clear hw9 hts b0 b1 b2 b3 b4 fb0 fb1 fb2 fb3 fb4
   have hT9:=hT4.store' hTbl hTb (by decide) hK9
   have hS9:=HST.out _ hT9
   have hRR9:=hRR.keepT hK9 (Apt.one hTb (by decide))
   refine hK.out _ _ hS9 (fun _=>?_)
   clear hK K
   try simp only [Act.put,zA,zB,zC,zD,zE,zF]
   refine wpAnyH_done (by kernel_rfl) ?_ _
   have HT9:Hid (E.To w w9):=hT9
   have HRR9:Hid (RR E.toEnv w9 h' (r.put p)):=hRR9
   have HTB9:Hid (w9.heap[Tb]?=some (Obj.cells #[.pointer (some ⟨E.V,0,none⟩),.string h'.key,.int .i64 h'.b,.int .u64 h'.s,.pointer h'.ptr] 89)):=hTb9
   clear hT9 hRR9 hS9 hTb
   go_wp2_with fail
   have hS9:=And.intro hTb9 (And.intro (HST.out _ HT9.out).1 (HST.out _ HT9.out).2.1)
   refine wp_region_held_drew (S:=fun W=>W.heap[Tb]?=some (Obj.cells #[.pointer (some ⟨E.V,0,none⟩),.string h'.key,.int .i64 h'.b,.int .u64 h'.s,.pointer h'.ptr] 89)∧W.heap[Tc]?=some (.cells #[.pointer (some ⟨x,0,none⟩)] 32)∧W.heap[x]?=some (xobj t)) (by kernel_rfl) hS9 (fun _=>?_)
   refine zT (i:=0) (v:=tval E.V h') rfl (by kernel_rfl) (fun _ _ _ h=>h) (Or.inl ⟨by rfl,fun W hS=>by have a0:=cell_of hS.1 0;have a1:=cell_of hS.1 1;have a2:=cell_of hS.1 2;have a3:=cell_of hS.1 3;have a4:=cell_of hS.1 4;simp only [zG,zH,zI] at a0 a1 a2 a3 a4;clear hS;rw [tval];go_simp⟩) hS9 ?_
   simp only [Act.put,zA,zB,zC,zD,zE,zF]
   refine zT (i:=2) (v:=.pointer (some ⟨x,0,none⟩)) rfl (by kernel_rfl) (fun _ _ _ h=>h) (Or.inl ⟨by rfl,fun W hS=>by have c:=cell_of hS.2.1 0;simp at c;clear hS;go_simp⟩) hS9 ?_
   simp only [Act.put,zA,zB,zC,zD,zE,zF]
   refine zT (i:=3) (v:=.pointer (some ⟨x,0,none⟩)) rfl (by kernel_rfl) (fun _ _ _ h=>h) (Or.inl ⟨by rfl,fun W hS=>by clear hS;go_simp⟩) hS9 ?_
   simp only [Act.put,zA,zB,zC,zD,zE,zF]
   refine zT (i:=4) (v:=.pointer (some ⟨x,0,none⟩)) rfl (by kernel_rfl) (fun _ _ _ h=>h) (Or.inl ⟨by rfl,fun W hS=>by clear hS;go_simp⟩) hS9 ?_
   simp only [Act.put,zA,zB,zC,zD,zE,zF]
   refine zT (i:=5) (v:=.pointer (some ⟨t.St,0,none⟩)) rfl (by kernel_rfl) (fun _ _ _ h=>h) (Or.inl ⟨by rfl,fun W hS=>by have a0:=cell_of hS.2.2 0;simp only [xobj,zG,zH,zI] at a0;clear hS;go_simp⟩) hS9 ?_
   simp only [Act.put,zA,zB,zC,zD,zE,zF]
   refine wpAnyH_ready (rs:=[1]) (by kernel_rfl) (by simp) ?_
   refine AllReadyH.cons rfl (fun K hK=>?_) AllReadyH.nil
   go_simp
   obtain ⟨hpg,hpc⟩:=put_good HI.out.good HOK.out
   have hpl:(r.put p).cont.length≤1000000:=by rw [hpc];have h1:=ins_length p r.cont;have h2:=HI.out.sz;omega
   refine (rnew_ok E.toEnv (r.put p) h' w9.drew (HRR9.out.keepT ((Kp.refl [] _).drew) (Apt.nil _ _)) hpg hpl).mono ?_
   rintro e w10 ⟨rfl,hKn⟩
   have hK10:Kp [] w9 w10:=((Kp.refl [] w9).drew).trans hKn (by simp)
   have hT10:=HT9.out.tail hK10
   have hS10:=And.intro (hK10.heap hS9.1 (by simp)) (And.intro (hK10.heap hS9.2.1 (by simp)) (hK10.heap hS9.2.2 (by simp)))
   clear hKn
   refine hK.out _ _ hS10 (fun _=>?_)
   clear hK K
   try simp only [Act.put,zA,zB,zC,zD,zE,zF]
   refine wpAnyH_ready (rs:=[6]) (by kernel_rfl) (by simp) ?_
   refine AllReadyH.cons rfl (fun K hK=>?_) AllReadyH.nil
   go_simp
   have hSt10:=E.stay HI.out.dev hT10 HI.out.hSt (by decide)
   have hV10:w10.heap[s.V]?=some (vobj A n):=by
    rw [HI.out.sV]
    exact hT10.kp.heap HI.out.hV (HVS.out)
   refine (room_ok t.St A n 1 s w10 hSt10 hV10 (by have:=HI.out.n1;omega) HI.out.bl0 (by have:=HI.out.bl1;omega)).mono ?_
   rintro e w11 ⟨rfl,hK11⟩
   have hT11:=hT10.tail hK11
   have hS11:=And.intro (hK11.heap hS10.1 (by simp)) (And.intro (hK11.heap hS10.2.1 (by simp)) (hK11.heap hS10.2.2 (by simp)))
   refine hK.out _ _ hS11 (fun _=>?_)
   clear hK K
   try simp only [Act.put,zA,zB,zC,zD,zE,zF]
   have HRR11:Hid (RR E.toEnv w11 h' (r.put p)):=HRR9.out.keepT (hK10.trans hK11 (by simp)) (Apt.nil _ _)
   have HT11:Hid (E.To w w11):=hT11
   have HS11:Hid (w11.heap[Tb]?=some (Obj.cells #[.pointer (some ⟨E.V,0,none⟩),.string h'.key,.int .i64 h'.b,.int .u64 h'.s,.pointer h'.ptr] 89)∧w11.heap[Tc]?=some (.cells #[.pointer (some ⟨x,0,none⟩)] 32)∧w11.heap[x]?=some (xobj t)):=hS11
   clear hSt10 hV10 hK10 hK11 hT10 hT11 hS9 hS10 hTb9
   refine zT (i:=7) (v:=.bool false) rfl (by kernel_rfl) (fun _ _ _ h=>h) (Or.inl ⟨by rfl,fun W hS=>by clear hS;go_simp⟩) hS11 ?_
   simp only [Act.put,zA,zB,zC,zD,zE,zF]
   refine wpAnyH_done (by kernel_rfl) ?_ _
   have hTbs:=lt_of_heap hS11.1
   have hTcs:=lt_of_heap hS11.2.1
   have hxs:=lt_of_heap hS11.2.2
   have hb1:=hS11.1
   have hb2:=hS11.2.1
   have hb3:=hS11.2.2
   have b0:=cell_of hb1 0
   have b1:=cell_of hb1 1
   have b2:=cell_of hb1 2
   have b3:=cell_of hb1 3
   have b4:=cell_of hb1 4
   simp only [zG,zH,zI] at b0 b1 b2 b3 b4
   have c0:=cell_of hb2 0
   simp only [zG,zH,zI] at c0
   have d4:=cell_of hb3 4
   have d5:=cell_of hb3 5
   have d6:=cell_of hb3 6
   have d7:=cell_of hb3 7
   have d8:=cell_of hb3 8
   simp only [xobj,zG,zH,zI] at d4 d5 d6 d7 d8
   have f4:=frozen_of hb3 4
   have f5:=frozen_of hb3 5
   have f6:=frozen_of hb3 6
   have f7:=frozen_of hb3 7
   have f8:=frozen_of hb3 8
   clear hS11 hb1 hb2 hb3
   go_wp2
   go_end0
   have hts:=txn_set (.pointer (some ⟨E.V,0,none⟩)) (.string h'.key) (.int .i64 h'.b) (.int .u64 h'.s) (.pointer h'.ptr) HS11.out.2.2
   refine ⟨rfl,w11,h',HT11.out,HRR11.out.keepT hts.2 (Apt.one HS11.out.2.2 (by decide)),?_,hts.2⟩
   rw [hts.1,xobj,hon]
 ·go_simp
  obtain ⟨w1,hw,hTb,hKa⟩:∃ w1,w1=(w.alloc (Obj.cells #[.pointer none,.string ⟨#[]⟩,.int .i64 0,.int .u64 0,.pointer none] 89)).drew∧w1.heap[w.heap.size]?=some (Obj.cells #[.pointer none,.string ⟨#[]⟩,.int .i64 0,.int .u64 0,.pointer none] 89)∧Kp [] w w1:=⟨_,rfl,heap_new _ _,((Kp.refl _ _).alloc _).drew⟩
  rw [← hw]
  clear hw
  have hTbl:w.heap.size≤w.heap.size:=Nat.le_refl _
  have hTbs:w.heap.size < w1.heap.size:=lt_of_heap hTb
  have hT1:E.To w w1:=Env.To.of0 HI.out.dev hKa
  have hS1:=HST.out _ hT1
  obtain ⟨Tb,hTbe⟩:∃ Tb,Tb=w.heap.size:=⟨_,rfl⟩
  have hTbx:w.heap.size≤Tb:=by omega
  clear hTbl
  rw [← hTbe] at hTb hTbs ⊢
  have hTbl:w.heap.size≤Tb:=hTbx
  clear hTbe hTbx
  clear hTd hSd hKa
  refine hK.out _ _ hS1 (fun _=>?_)
  clear hK K
  try simp only [Act.put,zA,zB,zC,zD,zE,zF]
  refine wpAnyH_ready (rs:=[5]) (by kernel_rfl) (by simp) ?_
  refine AllReadyH.cons rfl (fun K hK=>?_) AllReadyH.nil
  go_simp
  refine (clone_ok p.k w1 (by omega)).mono ?_
  rintro e w2 ⟨rfl,hKn⟩
  have hT2:=hT1.tail hKn
  have hS2:=HST.out _ hT2
  have hTb2:=hKn.heap hTb (by simp)
  clear hT1 hS1 hTb hKn
  have hTb:=hTb2
  refine hK.out _ _ hS2 (fun _=>?_)
  clear hK K
  try simp only [Act.put,zA,zB,zC,zD,zE,zF]
  refine wpAnyH_ready (rs:=[7]) (by kernel_rfl) (by simp) ?_
  refine AllReadyH.cons rfl (fun K hK=>?_) AllReadyH.nil
  go_simp
  refine (clone_ok p.v w2 (by omega)).mono ?_
  rintro e w3 ⟨rfl,hKn⟩
  have hT3:=hT2.tail hKn
  have hS3:=HST.out _ hT3
  have hTb3:=hKn.heap hTb (by simp)
  clear hT2 hS2 hTb hTb2 hKn
  have hTb:=hTb3
  refine hK.out _ _ hS3 (fun _=>?_)
  clear hK K
  try simp only [Act.put,zA,zB,zC,zD,zE,zF]
  refine zT (i:=8) (v:=.agg #[.string p.k,.string p.v]) rfl (by kernel_rfl) (fun _ _ _ h=>h) (Or.inl ⟨by rfl,fun W hS=>by clear hS;go_simp⟩) hS3 ?_
  simp only [Act.put,zA,zB,zC,zD,zE,zF]
  refine wpAnyH_ready (rs:=[9]) (by kernel_rfl) (by simp) ?_
  refine AllReadyH.cons rfl (fun K hK=>?_) AllReadyH.nil
  go_simp
  refine (tput_ok E.toEnv r t.h p w3 hT3.dev (HI.out.rr.to HI.out.dev hT3) HI.out.good (by have:=HI.out.sz;omega) HOK.out).mono ?_
  rintro e w4 ⟨h',rfl,hRR,hTn⟩
  have hT4:=hT3.trans hTn
  have hS4:=HST.out _ hT4
  have hTb4:=hTn.new HI.out.dev hTbl hTb
  clear hT3 hS3 hTn hTb hTb3
  have hTb:=hTb4
  refine hK.out _ _ hS4 (fun _=>?_)
  clear hK K
  try simp only [Act.put,zA,zB,zC,zD,zE,zF]
  have b0:=cell_of hTb 0
  have b1:=cell_of hTb 1
  have b2:=cell_of hTb 2
  have b3:=cell_of hTb 3
  have b4:=cell_of hTb 4
  simp only [zG,zH,zI] at b0 b1 b2 b3 b4
  have fb0:=frozen_of hTb 0
  have fb1:=frozen_of hTb 1
  have fb2:=frozen_of hTb 2
  have fb3:=frozen_of hTb 3
  have fb4:=frozen_of hTb 4
  have hTbs2:=lt_of_heap hTb
  simp only [tval]
  refine wpAnyH_ready (rs:=[11]) (by kernel_rfl) (by simp) ?_
  refine AllReadyH.cons rfl (fun K hK=>?_) AllReadyH.nil
  go_simp
  have hts:=tree_set (.pointer (some ⟨E.V,0,none⟩)) (.string h'.key) (.int .i64 h'.b) (.int .u64 h'.s) (.pointer h'.ptr) hTb
  obtain ⟨w9,hw9,hTb9,hK9⟩:∃ w9,w9=((((w4.setCell ⟨Tb,0,none⟩ (.pointer (some ⟨E.V,0,none⟩))).setCell ⟨Tb,1,none⟩ (.string h'.key)).setCell ⟨Tb,2,none⟩ (.int .i64 h'.b)).setCell ⟨Tb,3,none⟩ (.int .u64 h'.s)).setCell ⟨Tb,4,none⟩ (.pointer h'.ptr)∧w9.heap[Tb]?=some (Obj.cells #[.pointer (some ⟨E.V,0,none⟩),.string h'.key,.int .i64 h'.b,.int .u64 h'.s,.pointer h'.ptr] 89)∧Kp [Tb] w4 w9:=⟨_,rfl,hts.1,hts.2⟩
  rw [← hw9]
  clear hw9 hts b0 b1 b2 b3 b4 fb0 fb1 fb2 fb3 fb4
  have hT9:=hT4.store' hTbl hTb (by decide) hK9
  have hS9:=HST.out _ hT9
  have hRR9:=hRR.keepT hK9 (Apt.one hTb (by decide))
  refine hK.out _ _ hS9 (fun _=>?_)
  clear hK K
  try simp only [Act.put,zA,zB,zC,zD,zE,zF]
  refine wpAnyH_done (by kernel_rfl) ?_ _
  have HT9:Hid (E.To w w9):=hT9
  have HRR9:Hid (RR E.toEnv w9 h' (r.put p)):=hRR9
  have HTB9:Hid (w9.heap[Tb]?=some (Obj.cells #[.pointer (some ⟨E.V,0,none⟩),.string h'.key,.int .i64 h'.b,.int .u64 h'.s,.pointer h'.ptr] 89)):=hTb9
  clear hT9 hRR9 hS9 hTb
  go_wp2_with fail
  have hS9:=And.intro hTb9 (And.intro (HST.out _ HT9.out).1 (HST.out _ HT9.out).2.1)
  refine wp_region_held_drew (S:=fun W=>W.heap[Tb]?=some (Obj.cells #[.pointer (some ⟨E.V,0,none⟩),.string h'.key,.int .i64 h'.b,.int .u64 h'.s,.pointer h'.ptr] 89)∧W.heap[Tc]?=some (.cells #[.pointer (some ⟨x,0,none⟩)] 32)∧W.heap[x]?=some (xobj t)) (by kernel_rfl) hS9 (fun _=>?_)
  refine zT (i:=0) (v:=tval E.V h') rfl (by kernel_rfl) (fun _ _ _ h=>h) (Or.inl ⟨by rfl,fun W hS=>by have a0:=cell_of hS.1 0;have a1:=cell_of hS.1 1;have a2:=cell_of hS.1 2;have a3:=cell_of hS.1 3;have a4:=cell_of hS.1 4;simp only [zG,zH,zI] at a0 a1 a2 a3 a4;clear hS;rw [tval];go_simp⟩) hS9 ?_
  simp only [Act.put,zA,zB,zC,zD,zE,zF]
  refine zT (i:=2) (v:=.pointer (some ⟨x,0,none⟩)) rfl (by kernel_rfl) (fun _ _ _ h=>h) (Or.inl ⟨by rfl,fun W hS=>by have c:=cell_of hS.2.1 0;simp at c;clear hS;go_simp⟩) hS9 ?_
  simp only [Act.put,zA,zB,zC,zD,zE,zF]
  refine zT (i:=3) (v:=.pointer (some ⟨x,0,none⟩)) rfl (by kernel_rfl) (fun _ _ _ h=>h) (Or.inl ⟨by rfl,fun W hS=>by clear hS;go_simp⟩) hS9 ?_
  simp only [Act.put,zA,zB,zC,zD,zE,zF]
  refine zT (i:=4) (v:=.pointer (some ⟨x,0,none⟩)) rfl (by kernel_rfl) (fun _ _ _ h=>h) (Or.inl ⟨by rfl,fun W hS=>by clear hS;go_simp⟩) hS9 ?_
  simp only [Act.put,zA,zB,zC,zD,zE,zF]
  refine zT (i:=5) (v:=.pointer (some ⟨t.St,0,none⟩)) rfl (by kernel_rfl) (fun _ _ _ h=>h) (Or.inl ⟨by rfl,fun W hS=>by have a0:=cell_of hS.2.2 0;simp only [xobj,zG,zH,zI] at a0;clear hS;go_simp⟩) hS9 ?_
  simp only [Act.put,zA,zB,zC,zD,zE,zF]
  refine wpAnyH_ready (rs:=[1]) (by kernel_rfl) (by simp) ?_
  refine AllReadyH.cons rfl (fun K hK=>?_) AllReadyH.nil
  go_simp
  obtain ⟨hpg,hpc⟩:=put_good HI.out.good HOK.out
  have hpl:(r.put p).cont.length≤1000000:=by rw [hpc];have h1:=ins_length p r.cont;have h2:=HI.out.sz;omega
  refine (rnew_ok E.toEnv (r.put p) h' w9.drew (HRR9.out.keepT ((Kp.refl [] _).drew) (Apt.nil _ _)) hpg hpl).mono ?_
  rintro e w10 ⟨rfl,hKn⟩
  have hK10:Kp [] w9 w10:=((Kp.refl [] w9).drew).trans hKn (by simp)
  have hT10:=HT9.out.tail hK10
  have hS10:=And.intro (hK10.heap hS9.1 (by simp)) (And.intro (hK10.heap hS9.2.1 (by simp)) (hK10.heap hS9.2.2 (by simp)))
  clear hKn
  refine hK.out _ _ hS10 (fun _=>?_)
  clear hK K
  try simp only [Act.put,zA,zB,zC,zD,zE,zF]
  refine wpAnyH_ready (rs:=[6]) (by kernel_rfl) (by simp) ?_
  refine AllReadyH.cons rfl (fun K hK=>?_) AllReadyH.nil
  go_simp
  have hSt10:=E.stay HI.out.dev hT10 HI.out.hSt (by decide)
  have hV10:w10.heap[s.V]?=some (vobj A n):=by
   rw [HI.out.sV]
   exact hT10.kp.heap HI.out.hV (HVS.out)
  refine (room_ok t.St A n 1 s w10 hSt10 hV10 (by have:=HI.out.n1;omega) HI.out.bl0 (by have:=HI.out.bl1;omega)).mono ?_
  rintro e w11 ⟨rfl,hK11⟩
  have hT11:=hT10.tail hK11
  have hS11:=And.intro (hK11.heap hS10.1 (by simp)) (And.intro (hK11.heap hS10.2.1 (by simp)) (hK11.heap hS10.2.2 (by simp)))
  refine hK.out _ _ hS11 (fun _=>?_)
  clear hK K
  try simp only [Act.put,zA,zB,zC,zD,zE,zF]
  have HRR11:Hid (RR E.toEnv w11 h' (r.put p)):=HRR9.out.keepT (hK10.trans hK11 (by simp)) (Apt.nil _ _)
  have HT11:Hid (E.To w w11):=hT11
  have HS11:Hid (w11.heap[Tb]?=some (Obj.cells #[.pointer (some ⟨E.V,0,none⟩),.string h'.key,.int .i64 h'.b,.int .u64 h'.s,.pointer h'.ptr] 89)∧w11.heap[Tc]?=some (.cells #[.pointer (some ⟨x,0,none⟩)] 32)∧w11.heap[x]?=some (xobj t)):=hS11
  clear hSt10 hV10 hK10 hK11 hT10 hT11 hS9 hS10 hTb9
  refine zT (i:=7) (v:=.bool false) rfl (by kernel_rfl) (fun _ _ _ h=>h) (Or.inl ⟨by rfl,fun W hS=>by clear hS;go_simp⟩) hS11 ?_
  simp only [Act.put,zA,zB,zC,zD,zE,zF]
  refine wpAnyH_done (by kernel_rfl) ?_ _
  have hTbs:=lt_of_heap hS11.1
  have hTcs:=lt_of_heap hS11.2.1
  have hxs:=lt_of_heap hS11.2.2
  have hb1:=hS11.1
  have hb2:=hS11.2.1
  have hb3:=hS11.2.2
  have b0:=cell_of hb1 0
  have b1:=cell_of hb1 1
  have b2:=cell_of hb1 2
  have b3:=cell_of hb1 3
  have b4:=cell_of hb1 4
  simp only [zG,zH,zI] at b0 b1 b2 b3 b4
  have c0:=cell_of hb2 0
  simp only [zG,zH,zI] at c0
  have d4:=cell_of hb3 4
  have d5:=cell_of hb3 5
  have d6:=cell_of hb3 6
  have d7:=cell_of hb3 7
  have d8:=cell_of hb3 8
  simp only [xobj,zG,zH,zI] at d4 d5 d6 d7 d8
  have f4:=frozen_of hb3 4
  have f5:=frozen_of hb3 5
  have f6:=frozen_of hb3 6
  have f7:=frozen_of hb3 7
  have f8:=frozen_of hb3 8
  clear hS11 hb1 hb2 hb3
  go_wp2
  go_end0
  have hts:=txn_set (.pointer (some ⟨E.V,0,none⟩)) (.string h'.key) (.int .i64 h'.b) (.int .u64 h'.s) (.pointer h'.ptr) HS11.out.2.2
  refine ⟨rfl,w11,h',HT11.out,HRR11.out.keepT hts.2 (Apt.one HS11.out.2.2 (by decide)),?_,hts.2⟩
  rw [hts.1,xobj,hon]
theorem put1_space (E:SEnv) (Vc Tc Kc x A n:Nat) (t:Tx) (s:Sto) (r:Root) (p:KV) (w:World) (hI:PutIn E w Vc Tc Kc x A n t s r p) (hok:okKV p) (hroom:(n:Int) - 2 - s.bl < ((r.put p).news:Int)) :
  Calls Tryz.prog 72 #[.pointer (some ⟨Vc,0,none⟩),.pointer (some ⟨Tc,0,none⟩),.pointer (some ⟨Kc,0,none⟩)] w fun e w'=>e=outc (some 3)∧E.To w w':=by
 have HI:Hid (PutIn E w Vc Tc Kc x A n t s r p):=hI
 have HOK:Hid (okKV p):=hok
 have hon:=hI.on
 have HVS:Hid (E.V ∉ E.S):=hI.vS
 have HST:Hid (∀ W,E.To w W→W.heap[Tc]?=some (.cells #[.pointer (some ⟨x,0,none⟩)] 32)∧W.heap[x]?=some (xobj t)∧W.heap[Kc]?=some (.cells #[.string p.k] 9)∧W.heap[Vc]?=some (.cells #[.string p.v] 9)):=
  fun W hT=>⟨E.stay hI.dev hT hI.hTc (by decide),E.stay hI.dev hT hI.hx (by decide),E.stay hI.dev hT hI.hKc (by decide),E.stay hI.dev hT hI.hVc (by decide)⟩
 have hb:¬ (12:Int) < (p.v.size:Int):=by have:=hok.2.2;omega
 have hkl:p.k.size≤1000000:=by have:=hok.2.1;omega
 have hvl:p.v.size≤1000000:=by have:=hok.2.2;omega
 have hVs:=lt_of_heap hI.hVc
 have hVc:=hI.hVc
 have v0:=cell_of hVc 0
 simp only [zG,zH,zI] at v0
 clear hI hok hVc
 go_enter Tryz.func72,Tryz.ntmps72
 go_wp2_with fail
 clear hb v0
 have hT0:E.To w w:=Env.To.of0 HI.out.dev (Kp.refl _ _)
 have hS0:=HST.out _ hT0
 refine wp_region_held_drew (S:=fun W=>W.heap[Tc]?=some (.cells #[.pointer (some ⟨x,0,none⟩)] 32)∧W.heap[x]?=some (xobj t)∧W.heap[Kc]?=some (.cells #[.string p.k] 9)∧W.heap[Vc]?=some (.cells #[.string p.v] 9)) (by kernel_rfl) hS0 (fun _=>?_)
 refine zT (i:=0) (v:=.pointer (some ⟨x,0,none⟩)) rfl (by kernel_rfl) (fun _ _ _ h=>h) (Or.inl ⟨by rfl,fun W hS=>by have c:=cell_of hS.1 0;simp at c;clear hS;go_simp⟩) hS0 ?_
 simp only [Act.put,zA,zB,zC,zD,zE,zF]
 refine zT (i:=1) (v:=.pointer (some ⟨x,0,none⟩)) rfl (by kernel_rfl) (fun _ _ _ h=>h) (Or.inl ⟨by rfl,fun W hS=>by clear hS;go_simp⟩) hS0 ?_
 simp only [Act.put,zA,zB,zC,zD,zE,zF]
 refine zT (i:=2) (v:=.pointer (some ⟨x,4,none⟩)) rfl (by kernel_rfl) (fun _ _ _ h=>h) (Or.inl ⟨by rfl,fun W hS=>by clear hS;go_simp⟩) hS0 ?_
 simp only [Act.put,zA,zB,zC,zD,zE,zF]
 refine zT (i:=3) (v:=tval E.V t.h) rfl (by kernel_rfl) (fun _ _ _ h=>h) (Or.inl ⟨by rfl,fun W hS=>by have a0:=cell_of hS.2.1 4;have a1:=cell_of hS.2.1 5;have a2:=cell_of hS.2.1 6;have a3:=cell_of hS.2.1 7;have a4:=cell_of hS.2.1 8;simp only [xobj,hon,zG,zH,zI] at a0 a1 a2 a3 a4;clear hS;rw [tval];go_simp⟩) hS0 ?_
 simp only [Act.put,zA,zB,zC,zD,zE,zF]
 refine zT (i:=4) (v:=.string p.k) rfl (by kernel_rfl) (fun _ _ _ h=>h) (Or.inl ⟨by rfl,fun W hS=>by have c:=cell_of hS.2.2.1 0;simp at c;clear hS;go_simp⟩) hS0 ?_
 simp only [Act.put,zA,zB,zC,zD,zE,zF]
 refine zT (i:=6) (v:=.string p.v) rfl (by kernel_rfl) (fun _ _ _ h=>h) (Or.inl ⟨by rfl,fun W hS=>by have c:=cell_of hS.2.2.2 0;simp at c;clear hS;go_simp⟩) hS0 ?_
 simp only [Act.put,zA,zB,zC,zD,zE,zF]
 have hTd:E.To w w.drew:=hT0.tail ((Kp.refl _ _).drew)
 have hSd:=HST.out _ hTd
 clear hT0 hS0
 refine wpAnyH_ready (rs:=[5,10]) (by kernel_rfl) (by simp) ?_
 refine AllReadyH.cons rfl (fun K hK=>?_) (AllReadyH.cons rfl (fun K hK=>?_) AllReadyH.nil)
 ·go_simp
  refine (clone_ok p.k w.drew (by omega)).mono ?_
  rintro e w1 ⟨rfl,hKn⟩
  have hT1:=hTd.tail hKn
  have hS1:=HST.out _ hT1
  clear hTd hSd
  refine hK.out _ _ hS1 (fun _=>?_)
  clear hK K
  try simp only [Act.put,zA,zB,zC,zD,zE,zF]
  refine wpAnyH_ready (rs:=[7,10]) (by kernel_rfl) (by simp) ?_
  refine AllReadyH.cons rfl (fun K hK=>?_) (AllReadyH.cons rfl (fun K hK=>?_) AllReadyH.nil)
  ·go_simp
   refine (clone_ok p.v w1 (by omega)).mono ?_
   rintro e w2 ⟨rfl,hKn⟩
   have hT2:=hT1.tail hKn
   have hS2:=HST.out _ hT2
   clear hT1 hS1
   refine hK.out _ _ hS2 (fun _=>?_)
   clear hK K
   try simp only [Act.put,zA,zB,zC,zD,zE,zF]
   refine zT (i:=8) (v:=.agg #[.string p.k,.string p.v]) rfl (by kernel_rfl) (fun _ _ _ h=>h) (Or.inl ⟨by rfl,fun W hS=>by clear hS;go_simp⟩) hS2 ?_
   simp only [Act.put,zA,zB,zC,zD,zE,zF]
   refine wpAnyH_ready (rs:=[9,10]) (by kernel_rfl) (by simp) ?_
   refine AllReadyH.cons rfl (fun K hK=>?_) (AllReadyH.cons rfl (fun K hK=>?_) AllReadyH.nil)
   ·go_simp
    refine (tput_ok E.toEnv r t.h p w2 hT2.dev (HI.out.rr.to HI.out.dev hT2) HI.out.good (by have:=HI.out.sz;omega) HOK.out).mono ?_
    rintro e w3 ⟨h',rfl,hRR,hTn⟩
    have hT3:=hT2.trans hTn
    have hS3:=HST.out _ hT3
    clear hT2 hS2 hTn
    refine hK.out _ _ hS3 (fun _=>?_)
    clear hK K
    try simp only [Act.put,zA,zB,zC,zD,zE,zF]
    refine wpAnyH_ready (rs:=[10]) (by kernel_rfl) (by simp) ?_
    refine AllReadyH.cons rfl (fun K hK=>?_) AllReadyH.nil
    go_simp
    obtain ⟨w4,hw,hTb,hKa⟩:∃ w4,w4=w3.alloc (Obj.cells #[.pointer none,.string ⟨#[]⟩,.int .i64 0,.int .u64 0,.pointer none] 89)∧w4.heap[w3.heap.size]?=some (Obj.cells #[.pointer none,.string ⟨#[]⟩,.int .i64 0,.int .u64 0,.pointer none] 89)∧Kp [] w3 w4:=⟨_,rfl,heap_new _ _,(Kp.refl _ _).alloc _⟩
    rw [← hw]
    clear hw
    have hTbl:w.heap.size≤w3.heap.size:=hT3.kp.size
    have hTbs:w3.heap.size < w4.heap.size:=lt_of_heap hTb
    have hT4:=hT3.tail hKa
    have hS4:=HST.out _ hT4
    obtain ⟨Tb,hTbe⟩:∃ Tb,Tb=w3.heap.size:=⟨_,rfl⟩
    rw [← hTbe] at hTb hTbl hTbs ⊢
    clear hTbe
    have hRR4:=hRR.keepT hKa (Apt.nil _ _)
    clear hRR hT3 hS3 hKa
    have hRR:=hRR4
    refine hK.out _ _ hS4 (fun _=>?_)
    clear hK K
    try simp only [Act.put,zA,zB,zC,zD,zE,zF]
    have b0:=cell_of hTb 0
    have b1:=cell_of hTb 1
    have b2:=cell_of hTb 2
    have b3:=cell_of hTb 3
    have b4:=cell_of hTb 4
    simp only [zG,zH,zI] at b0 b1 b2 b3 b4
    have fb0:=frozen_of hTb 0
    have fb1:=frozen_of hTb 1
    have fb2:=frozen_of hTb 2
    have fb3:=frozen_of hTb 3
    have fb4:=frozen_of hTb 4
    have hTbs2:=lt_of_heap hTb
    simp only [tval]
    refine wpAnyH_ready (rs:=[11]) (by kernel_rfl) (by simp) ?_
    refine AllReadyH.cons rfl (fun K hK=>?_) AllReadyH.nil
    go_simp
    have hts:=tree_set (.pointer (some ⟨E.V,0,none⟩)) (.string h'.key) (.int .i64 h'.b) (.int .u64 h'.s) (.pointer h'.ptr) hTb
    obtain ⟨w9,hw9,hTb9,hK9⟩:∃ w9,w9=((((w4.setCell ⟨Tb,0,none⟩ (.pointer (some ⟨E.V,0,none⟩))).setCell ⟨Tb,1,none⟩ (.string h'.key)).setCell ⟨Tb,2,none⟩ (.int .i64 h'.b)).setCell ⟨Tb,3,none⟩ (.int .u64 h'.s)).setCell ⟨Tb,4,none⟩ (.pointer h'.ptr)∧w9.heap[Tb]?=some (Obj.cells #[.pointer (some ⟨E.V,0,none⟩),.string h'.key,.int .i64 h'.b,.int .u64 h'.s,.pointer h'.ptr] 89)∧Kp [Tb] w4 w9:=⟨_,rfl,hts.1,hts.2⟩
    rw [← hw9]
    clear hw9 hts b0 b1 b2 b3 b4 fb0 fb1 fb2 fb3 fb4
    have hT9:=hT4.store' hTbl hTb (by decide) hK9
    have hS9:=HST.out _ hT9
    have hRR9:=hRR.keepT hK9 (Apt.one hTb (by decide))
    refine hK.out _ _ hS9 (fun _=>?_)
    clear hK K
    try simp only [Act.put,zA,zB,zC,zD,zE,zF]
    refine wpAnyH_done (by kernel_rfl) ?_ _
    have HT9:Hid (E.To w w9):=hT9
    have HRR9:Hid (RR E.toEnv w9 h' (r.put p)):=hRR9
    have HTB9:Hid (w9.heap[Tb]?=some (Obj.cells #[.pointer (some ⟨E.V,0,none⟩),.string h'.key,.int .i64 h'.b,.int .u64 h'.s,.pointer h'.ptr] 89)):=hTb9
    clear hT9 hRR9 hS9 hTb
    go_wp2_with fail
    have hS9:=And.intro hTb9 (And.intro (HST.out _ HT9.out).1 (HST.out _ HT9.out).2.1)
    refine wp_region_held_drew (S:=fun W=>W.heap[Tb]?=some (Obj.cells #[.pointer (some ⟨E.V,0,none⟩),.string h'.key,.int .i64 h'.b,.int .u64 h'.s,.pointer h'.ptr] 89)∧W.heap[Tc]?=some (.cells #[.pointer (some ⟨x,0,none⟩)] 32)∧W.heap[x]?=some (xobj t)) (by kernel_rfl) hS9 (fun _=>?_)
    refine zT (i:=0) (v:=tval E.V h') rfl (by kernel_rfl) (fun _ _ _ h=>h) (Or.inl ⟨by rfl,fun W hS=>by have a0:=cell_of hS.1 0;have a1:=cell_of hS.1 1;have a2:=cell_of hS.1 2;have a3:=cell_of hS.1 3;have a4:=cell_of hS.1 4;simp only [zG,zH,zI] at a0 a1 a2 a3 a4;clear hS;rw [tval];go_simp⟩) hS9 ?_
    simp only [Act.put,zA,zB,zC,zD,zE,zF]
    refine zT (i:=2) (v:=.pointer (some ⟨x,0,none⟩)) rfl (by kernel_rfl) (fun _ _ _ h=>h) (Or.inl ⟨by rfl,fun W hS=>by have c:=cell_of hS.2.1 0;simp at c;clear hS;go_simp⟩) hS9 ?_
    simp only [Act.put,zA,zB,zC,zD,zE,zF]
    refine zT (i:=3) (v:=.pointer (some ⟨x,0,none⟩)) rfl (by kernel_rfl) (fun _ _ _ h=>h) (Or.inl ⟨by rfl,fun W hS=>by clear hS;go_simp⟩) hS9 ?_
    simp only [Act.put,zA,zB,zC,zD,zE,zF]
    refine zT (i:=4) (v:=.pointer (some ⟨x,0,none⟩)) rfl (by kernel_rfl) (fun _ _ _ h=>h) (Or.inl ⟨by rfl,fun W hS=>by clear hS;go_simp⟩) hS9 ?_
    simp only [Act.put,zA,zB,zC,zD,zE,zF]
    refine zT (i:=5) (v:=.pointer (some ⟨t.St,0,none⟩)) rfl (by kernel_rfl) (fun _ _ _ h=>h) (Or.inl ⟨by rfl,fun W hS=>by have a0:=cell_of hS.2.2 0;simp only [xobj,zG,zH,zI] at a0;clear hS;go_simp⟩) hS9 ?_
    simp only [Act.put,zA,zB,zC,zD,zE,zF]
    refine wpAnyH_ready (rs:=[1]) (by kernel_rfl) (by simp) ?_
    refine AllReadyH.cons rfl (fun K hK=>?_) AllReadyH.nil
    go_simp
    obtain ⟨hpg,hpc⟩:=put_good HI.out.good HOK.out
    have hpl:(r.put p).cont.length≤1000000:=by rw [hpc];have h1:=ins_length p r.cont;have h2:=HI.out.sz;omega
    refine (rnew_ok E.toEnv (r.put p) h' w9.drew (HRR9.out.keepT ((Kp.refl [] _).drew) (Apt.nil _ _)) hpg hpl).mono ?_
    rintro e w10 ⟨rfl,hKn⟩
    have hK10:Kp [] w9 w10:=((Kp.refl [] w9).drew).trans hKn (by simp)
    have hT10:=HT9.out.tail hK10
    have hS10:=And.intro (hK10.heap hS9.1 (by simp)) (And.intro (hK10.heap hS9.2.1 (by simp)) (hK10.heap hS9.2.2 (by simp)))
    clear hKn
    refine hK.out _ _ hS10 (fun _=>?_)
    clear hK K
    try simp only [Act.put,zA,zB,zC,zD,zE,zF]
    refine wpAnyH_ready (rs:=[6]) (by kernel_rfl) (by simp) ?_
    refine AllReadyH.cons rfl (fun K hK=>?_) AllReadyH.nil
    go_simp
    have hSt10:=E.stay HI.out.dev hT10 HI.out.hSt (by decide)
    have hV10:w10.heap[s.V]?=some (vobj A n):=by
     rw [HI.out.sV]
     exact hT10.kp.heap HI.out.hV (HVS.out)
    refine (room_ok t.St A n 1 s w10 hSt10 hV10 (by have:=HI.out.n1;omega) HI.out.bl0 (by have:=HI.out.bl1;omega)).mono ?_
    rintro e w11 ⟨rfl,hK11⟩
    have hT11:=hT10.tail hK11
    have hS11:=And.intro (hK11.heap hS10.1 (by simp)) (And.intro (hK11.heap hS10.2.1 (by simp)) (hK11.heap hS10.2.2 (by simp)))
    refine hK.out _ _ hS11 (fun _=>?_)
    clear hK K
    try simp only [Act.put,zA,zB,zC,zD,zE,zF]
    have HRR11:Hid (RR E.toEnv w11 h' (r.put p)):=HRR9.out.keepT (hK10.trans hK11 (by simp)) (Apt.nil _ _)
    have HT11:Hid (E.To w w11):=hT11
    have HS11:Hid (w11.heap[Tb]?=some (Obj.cells #[.pointer (some ⟨E.V,0,none⟩),.string h'.key,.int .i64 h'.b,.int .u64 h'.s,.pointer h'.ptr] 89)∧w11.heap[Tc]?=some (.cells #[.pointer (some ⟨x,0,none⟩)] 32)∧w11.heap[x]?=some (xobj t)):=hS11
    clear hSt10 hV10 hK10 hK11 hT10 hT11 hS9 hS10 hTb9
    refine zT (i:=7) (v:=.bool true) rfl (by kernel_rfl) (fun _ _ _ h=>h) (Or.inl ⟨by rfl,fun W hS=>by clear hS;go_simp⟩) hS11 ?_
    simp only [Act.put,zA,zB,zC,zD,zE,zF]
    refine wpAnyH_done (by kernel_rfl) ?_ _
    clear hS11
    go_wp2
    exact ⟨rfl,rfl,rfl,HT11.out⟩
   ·go_simp
    obtain ⟨w3,hw,hTb,hKa⟩:∃ w3,w3=w2.alloc (Obj.cells #[.pointer none,.string ⟨#[]⟩,.int .i64 0,.int .u64 0,.pointer none] 89)∧w3.heap[w2.heap.size]?=some (Obj.cells #[.pointer none,.string ⟨#[]⟩,.int .i64 0,.int .u64 0,.pointer none] 89)∧Kp [] w2 w3:=⟨_,rfl,heap_new _ _,(Kp.refl _ _).alloc _⟩
    rw [← hw]
    clear hw
    have hTbl:w.heap.size≤w2.heap.size:=hT2.kp.size
    have hTbs:w2.heap.size < w3.heap.size:=lt_of_heap hTb
    have hT3:=hT2.tail hKa
    have hS3:=HST.out _ hT3
    obtain ⟨Tb,hTbe⟩:∃ Tb,Tb=w2.heap.size:=⟨_,rfl⟩
    rw [← hTbe] at hTb hTbl hTbs ⊢
    clear hTbe
    clear hT2 hS2 hKa
    refine hK.out _ _ hS3 (fun _=>?_)
    clear hK K
    try simp only [Act.put,zA,zB,zC,zD,zE,zF]
    refine wpAnyH_ready (rs:=[9]) (by kernel_rfl) (by simp) ?_
    refine AllReadyH.cons rfl (fun K hK=>?_) AllReadyH.nil
    go_simp
    refine (tput_ok E.toEnv r t.h p w3 hT3.dev (HI.out.rr.to HI.out.dev hT3) HI.out.good (by have:=HI.out.sz;omega) HOK.out).mono ?_
    rintro e w4 ⟨h',rfl,hRR,hTn⟩
    have hT4:=hT3.trans hTn
    have hS4:=HST.out _ hT4
    have hTb4:=hTn.new HI.out.dev hTbl hTb
    clear hT3 hS3 hTn hTb
    have hTb:=hTb4
    refine hK.out _ _ hS4 (fun _=>?_)
    clear hK K
    try simp only [Act.put,zA,zB,zC,zD,zE,zF]
    have b0:=cell_of hTb 0
    have b1:=cell_of hTb 1
    have b2:=cell_of hTb 2
    have b3:=cell_of hTb 3
    have b4:=cell_of hTb 4
    simp only [zG,zH,zI] at b0 b1 b2 b3 b4
    have fb0:=frozen_of hTb 0
    have fb1:=frozen_of hTb 1
    have fb2:=frozen_of hTb 2
    have fb3:=frozen_of hTb 3
    have fb4:=frozen_of hTb 4
    have hTbs2:=lt_of_heap hTb
    simp only [tval]
    refine wpAnyH_ready (rs:=[11]) (by kernel_rfl) (by simp) ?_
    refine AllReadyH.cons rfl (fun K hK=>?_) AllReadyH.nil
    go_simp
    have hts:=tree_set (.pointer (some ⟨E.V,0,none⟩)) (.string h'.key) (.int .i64 h'.b) (.int .u64 h'.s) (.pointer h'.ptr) hTb
    obtain ⟨w9,hw9,hTb9,hK9⟩:∃ w9,w9=((((w4.setCell ⟨Tb,0,none⟩ (.pointer (some ⟨E.V,0,none⟩))).setCell ⟨Tb,1,none⟩ (.string h'.key)).setCell ⟨Tb,2,none⟩ (.int .i64 h'.b)).setCell ⟨Tb,3,none⟩ (.int .u64 h'.s)).setCell ⟨Tb,4,none⟩ (.pointer h'.ptr)∧w9.heap[Tb]?=some (Obj.cells #[.pointer (some ⟨E.V,0,none⟩),.string h'.key,.int .i64 h'.b,.int .u64 h'.s,.pointer h'.ptr] 89)∧Kp [Tb] w4 w9:=⟨_,rfl,hts.1,hts.2⟩
    rw [← hw9]
    clear hw9 hts b0 b1 b2 b3 b4 fb0 fb1 fb2 fb3 fb4
    have hT9:=hT4.store' hTbl hTb (by decide) hK9
    have hS9:=HST.out _ hT9
    have hRR9:=hRR.keepT hK9 (Apt.one hTb (by decide))
    refine hK.out _ _ hS9 (fun _=>?_)
    clear hK K
    try simp only [Act.put,zA,zB,zC,zD,zE,zF]
    refine wpAnyH_done (by kernel_rfl) ?_ _
    have HT9:Hid (E.To w w9):=hT9
    have HRR9:Hid (RR E.toEnv w9 h' (r.put p)):=hRR9
    have HTB9:Hid (w9.heap[Tb]?=some (Obj.cells #[.pointer (some ⟨E.V,0,none⟩),.string h'.key,.int .i64 h'.b,.int .u64 h'.s,.pointer h'.ptr] 89)):=hTb9
    clear hT9 hRR9 hS9 hTb
    go_wp2_with fail
    have hS9:=And.intro hTb9 (And.intro (HST.out _ HT9.out).1 (HST.out _ HT9.out).2.1)
    refine wp_region_held_drew (S:=fun W=>W.heap[Tb]?=some (Obj.cells #[.pointer (some ⟨E.V,0,none⟩),.string h'.key,.int .i64 h'.b,.int .u64 h'.s,.pointer h'.ptr] 89)∧W.heap[Tc]?=some (.cells #[.pointer (some ⟨x,0,none⟩)] 32)∧W.heap[x]?=some (xobj t)) (by kernel_rfl) hS9 (fun _=>?_)
    refine zT (i:=0) (v:=tval E.V h') rfl (by kernel_rfl) (fun _ _ _ h=>h) (Or.inl ⟨by rfl,fun W hS=>by have a0:=cell_of hS.1 0;have a1:=cell_of hS.1 1;have a2:=cell_of hS.1 2;have a3:=cell_of hS.1 3;have a4:=cell_of hS.1 4;simp only [zG,zH,zI] at a0 a1 a2 a3 a4;clear hS;rw [tval];go_simp⟩) hS9 ?_
    simp only [Act.put,zA,zB,zC,zD,zE,zF]
    refine zT (i:=2) (v:=.pointer (some ⟨x,0,none⟩)) rfl (by kernel_rfl) (fun _ _ _ h=>h) (Or.inl ⟨by rfl,fun W hS=>by have c:=cell_of hS.2.1 0;simp at c;clear hS;go_simp⟩) hS9 ?_
    simp only [Act.put,zA,zB,zC,zD,zE,zF]
    refine zT (i:=3) (v:=.pointer (some ⟨x,0,none⟩)) rfl (by kernel_rfl) (fun _ _ _ h=>h) (Or.inl ⟨by rfl,fun W hS=>by clear hS;go_simp⟩) hS9 ?_
    simp only [Act.put,zA,zB,zC,zD,zE,zF]
    refine zT (i:=4) (v:=.pointer (some ⟨x,0,none⟩)) rfl (by kernel_rfl) (fun _ _ _ h=>h) (Or.inl ⟨by rfl,fun W hS=>by clear hS;go_simp⟩) hS9 ?_
    simp only [Act.put,zA,zB,zC,zD,zE,zF]
    refine zT (i:=5) (v:=.pointer (some ⟨t.St,0,none⟩)) rfl (by kernel_rfl) (fun _ _ _ h=>h) (Or.inl ⟨by rfl,fun W hS=>by have a0:=cell_of hS.2.2 0;simp only [xobj,zG,zH,zI] at a0;clear hS;go_simp⟩) hS9 ?_
    simp only [Act.put,zA,zB,zC,zD,zE,zF]
    refine wpAnyH_ready (rs:=[1]) (by kernel_rfl) (by simp) ?_
    refine AllReadyH.cons rfl (fun K hK=>?_) AllReadyH.nil
    go_simp
    obtain ⟨hpg,hpc⟩:=put_good HI.out.good HOK.out
    have hpl:(r.put p).cont.length≤1000000:=by rw [hpc];have h1:=ins_length p r.cont;have h2:=HI.out.sz;omega
    refine (rnew_ok E.toEnv (r.put p) h' w9.drew (HRR9.out.keepT ((Kp.refl [] _).drew) (Apt.nil _ _)) hpg hpl).mono ?_
    rintro e w10 ⟨rfl,hKn⟩
    have hK10:Kp [] w9 w10:=((Kp.refl [] w9).drew).trans hKn (by simp)
    have hT10:=HT9.out.tail hK10
    have hS10:=And.intro (hK10.heap hS9.1 (by simp)) (And.intro (hK10.heap hS9.2.1 (by simp)) (hK10.heap hS9.2.2 (by simp)))
    clear hKn
    refine hK.out _ _ hS10 (fun _=>?_)
    clear hK K
    try simp only [Act.put,zA,zB,zC,zD,zE,zF]
    refine wpAnyH_ready (rs:=[6]) (by kernel_rfl) (by simp) ?_
    refine AllReadyH.cons rfl (fun K hK=>?_) AllReadyH.nil
    go_simp
    have hSt10:=E.stay HI.out.dev hT10 HI.out.hSt (by decide)
    have hV10:w10.heap[s.V]?=some (vobj A n):=by
     rw [HI.out.sV]
     exact hT10.kp.heap HI.out.hV (HVS.out)
    refine (room_ok t.St A n 1 s w10 hSt10 hV10 (by have:=HI.out.n1;omega) HI.out.bl0 (by have:=HI.out.bl1;omega)).mono ?_
    rintro e w11 ⟨rfl,hK11⟩
    have hT11:=hT10.tail hK11
    have hS11:=And.intro (hK11.heap hS10.1 (by simp)) (And.intro (hK11.heap hS10.2.1 (by simp)) (hK11.heap hS10.2.2 (by simp)))
    refine hK.out _ _ hS11 (fun _=>?_)
    clear hK K
    try simp only [Act.put,zA,zB,zC,zD,zE,zF]
    have HRR11:Hid (RR E.toEnv w11 h' (r.put p)):=HRR9.out.keepT (hK10.trans hK11 (by simp)) (Apt.nil _ _)
    have HT11:Hid (E.To w w11):=hT11
    have HS11:Hid (w11.heap[Tb]?=some (Obj.cells #[.pointer (some ⟨E.V,0,none⟩),.string h'.key,.int .i64 h'.b,.int .u64 h'.s,.pointer h'.ptr] 89)∧w11.heap[Tc]?=some (.cells #[.pointer (some ⟨x,0,none⟩)] 32)∧w11.heap[x]?=some (xobj t)):=hS11
    clear hSt10 hV10 hK10 hK11 hT10 hT11 hS9 hS10 hTb9
    refine zT (i:=7) (v:=.bool true) rfl (by kernel_rfl) (fun _ _ _ h=>h) (Or.inl ⟨by rfl,fun W hS=>by clear hS;go_simp⟩) hS11 ?_
    simp only [Act.put,zA,zB,zC,zD,zE,zF]
    refine wpAnyH_done (by kernel_rfl) ?_ _
    clear hS11
    go_wp2
    exact ⟨rfl,rfl,rfl,HT11.out⟩
  ·go_simp
   obtain ⟨w2,hw,hTb,hKa⟩:∃ w2,w2=w1.alloc (Obj.cells #[.pointer none,.string ⟨#[]⟩,.int .i64 0,.int .u64 0,.pointer none] 89)∧w2.heap[w1.heap.size]?=some (Obj.cells #[.pointer none,.string ⟨#[]⟩,.int .i64 0,.int .u64 0,.pointer none] 89)∧Kp [] w1 w2:=⟨_,rfl,heap_new _ _,(Kp.refl _ _).alloc _⟩
   rw [← hw]
   clear hw
   have hTbl:w.heap.size≤w1.heap.size:=hT1.kp.size
   have hTbs:w1.heap.size < w2.heap.size:=lt_of_heap hTb
   have hT2:=hT1.tail hKa
   have hS2:=HST.out _ hT2
   obtain ⟨Tb,hTbe⟩:∃ Tb,Tb=w1.heap.size:=⟨_,rfl⟩
   rw [← hTbe] at hTb hTbl hTbs ⊢
   clear hTbe
   clear hT1 hS1 hKa
   refine hK.out _ _ hS2 (fun _=>?_)
   clear hK K
   try simp only [Act.put,zA,zB,zC,zD,zE,zF]
   refine wpAnyH_ready (rs:=[7]) (by kernel_rfl) (by simp) ?_
   refine AllReadyH.cons rfl (fun K hK=>?_) AllReadyH.nil
   go_simp
   refine (clone_ok p.v w2 (by omega)).mono ?_
   rintro e w3 ⟨rfl,hKn⟩
   have hT3:=hT2.tail hKn
   have hS3:=HST.out _ hT3
   have hTb3:=hKn.heap hTb (by simp)
   clear hT2 hS2 hTb hKn
   have hTb:=hTb3
   refine hK.out _ _ hS3 (fun _=>?_)
   clear hK K
   try simp only [Act.put,zA,zB,zC,zD,zE,zF]
   refine zT (i:=8) (v:=.agg #[.string p.k,.string p.v]) rfl (by kernel_rfl) (fun _ _ _ h=>h) (Or.inl ⟨by rfl,fun W hS=>by clear hS;go_simp⟩) hS3 ?_
   simp only [Act.put,zA,zB,zC,zD,zE,zF]
   refine wpAnyH_ready (rs:=[9]) (by kernel_rfl) (by simp) ?_
   refine AllReadyH.cons rfl (fun K hK=>?_) AllReadyH.nil
   go_simp
   refine (tput_ok E.toEnv r t.h p w3 hT3.dev (HI.out.rr.to HI.out.dev hT3) HI.out.good (by have:=HI.out.sz;omega) HOK.out).mono ?_
   rintro e w4 ⟨h',rfl,hRR,hTn⟩
   have hT4:=hT3.trans hTn
   have hS4:=HST.out _ hT4
   have hTb4:=hTn.new HI.out.dev hTbl hTb
   clear hT3 hS3 hTn hTb hTb3
   have hTb:=hTb4
   refine hK.out _ _ hS4 (fun _=>?_)
   clear hK K
   try simp only [Act.put,zA,zB,zC,zD,zE,zF]
   have b0:=cell_of hTb 0
   have b1:=cell_of hTb 1
   have b2:=cell_of hTb 2
   have b3:=cell_of hTb 3
   have b4:=cell_of hTb 4
   simp only [zG,zH,zI] at b0 b1 b2 b3 b4
   have fb0:=frozen_of hTb 0
   have fb1:=frozen_of hTb 1
   have fb2:=frozen_of hTb 2
   have fb3:=frozen_of hTb 3
   have fb4:=frozen_of hTb 4
   have hTbs2:=lt_of_heap hTb
   simp only [tval]
   refine wpAnyH_ready (rs:=[11]) (by kernel_rfl) (by simp) ?_
   refine AllReadyH.cons rfl (fun K hK=>?_) AllReadyH.nil
   go_simp
   have hts:=tree_set (.pointer (some ⟨E.V,0,none⟩)) (.string h'.key) (.int .i64 h'.b) (.int .u64 h'.s) (.pointer h'.ptr) hTb
   obtain ⟨w9,hw9,hTb9,hK9⟩:∃ w9,w9=((((w4.setCell ⟨Tb,0,none⟩ (.pointer (some ⟨E.V,0,none⟩))).setCell ⟨Tb,1,none⟩ (.string h'.key)).setCell ⟨Tb,2,none⟩ (.int .i64 h'.b)).setCell ⟨Tb,3,none⟩ (.int .u64 h'.s)).setCell ⟨Tb,4,none⟩ (.pointer h'.ptr)∧w9.heap[Tb]?=some (Obj.cells #[.pointer (some ⟨E.V,0,none⟩),.string h'.key,.int .i64 h'.b,.int .u64 h'.s,.pointer h'.ptr] 89)∧Kp [Tb] w4 w9:=⟨_,rfl,hts.1,hts.2⟩
   rw [← hw9]
   clear hw9 hts b0 b1 b2 b3 b4 fb0 fb1 fb2 fb3 fb4
   have hT9:=hT4.store' hTbl hTb (by decide) hK9
   have hS9:=HST.out _ hT9
   have hRR9:=hRR.keepT hK9 (Apt.one hTb (by decide))
   refine hK.out _ _ hS9 (fun _=>?_)
   clear hK K
   try simp only [Act.put,zA,zB,zC,zD,zE,zF]
   refine wpAnyH_done (by kernel_rfl) ?_ _
   have HT9:Hid (E.To w w9):=hT9
   have HRR9:Hid (RR E.toEnv w9 h' (r.put p)):=hRR9
   have HTB9:Hid (w9.heap[Tb]?=some (Obj.cells #[.pointer (some ⟨E.V,0,none⟩),.string h'.key,.int .i64 h'.b,.int .u64 h'.s,.pointer h'.ptr] 89)):=hTb9
   clear hT9 hRR9 hS9 hTb
   go_wp2_with fail
   have hS9:=And.intro hTb9 (And.intro (HST.out _ HT9.out).1 (HST.out _ HT9.out).2.1)
   refine wp_region_held_drew (S:=fun W=>W.heap[Tb]?=some (Obj.cells #[.pointer (some ⟨E.V,0,none⟩),.string h'.key,.int .i64 h'.b,.int .u64 h'.s,.pointer h'.ptr] 89)∧W.heap[Tc]?=some (.cells #[.pointer (some ⟨x,0,none⟩)] 32)∧W.heap[x]?=some (xobj t)) (by kernel_rfl) hS9 (fun _=>?_)
   refine zT (i:=0) (v:=tval E.V h') rfl (by kernel_rfl) (fun _ _ _ h=>h) (Or.inl ⟨by rfl,fun W hS=>by have a0:=cell_of hS.1 0;have a1:=cell_of hS.1 1;have a2:=cell_of hS.1 2;have a3:=cell_of hS.1 3;have a4:=cell_of hS.1 4;simp only [zG,zH,zI] at a0 a1 a2 a3 a4;clear hS;rw [tval];go_simp⟩) hS9 ?_
   simp only [Act.put,zA,zB,zC,zD,zE,zF]
   refine zT (i:=2) (v:=.pointer (some ⟨x,0,none⟩)) rfl (by kernel_rfl) (fun _ _ _ h=>h) (Or.inl ⟨by rfl,fun W hS=>by have c:=cell_of hS.2.1 0;simp at c;clear hS;go_simp⟩) hS9 ?_
   simp only [Act.put,zA,zB,zC,zD,zE,zF]
   refine zT (i:=3) (v:=.pointer (some ⟨x,0,none⟩)) rfl (by kernel_rfl) (fun _ _ _ h=>h) (Or.inl ⟨by rfl,fun W hS=>by clear hS;go_simp⟩) hS9 ?_
   simp only [Act.put,zA,zB,zC,zD,zE,zF]
   refine zT (i:=4) (v:=.pointer (some ⟨x,0,none⟩)) rfl (by kernel_rfl) (fun _ _ _ h=>h) (Or.inl ⟨by rfl,fun W hS=>by clear hS;go_simp⟩) hS9 ?_
   simp only [Act.put,zA,zB,zC,zD,zE,zF]
   refine zT (i:=5) (v:=.pointer (some ⟨t.St,0,none⟩)) rfl (by kernel_rfl) (fun _ _ _ h=>h) (Or.inl ⟨by rfl,fun W hS=>by have a0:=cell_of hS.2.2 0;simp only [xobj,zG,zH,zI] at a0;clear hS;go_simp⟩) hS9 ?_
   simp only [Act.put,zA,zB,zC,zD,zE,zF]
   refine wpAnyH_ready (rs:=[1]) (by kernel_rfl) (by simp) ?_
   refine AllReadyH.cons rfl (fun K hK=>?_) AllReadyH.nil
   go_simp
   obtain ⟨hpg,hpc⟩:=put_good HI.out.good HOK.out
   have hpl:(r.put p).cont.length≤1000000:=by rw [hpc];have h1:=ins_length p r.cont;have h2:=HI.out.sz;omega
   refine (rnew_ok E.toEnv (r.put p) h' w9.drew (HRR9.out.keepT ((Kp.refl [] _).drew) (Apt.nil _ _)) hpg hpl).mono ?_
   rintro e w10 ⟨rfl,hKn⟩
   have hK10:Kp [] w9 w10:=((Kp.refl [] w9).drew).trans hKn (by simp)
   have hT10:=HT9.out.tail hK10
   have hS10:=And.intro (hK10.heap hS9.1 (by simp)) (And.intro (hK10.heap hS9.2.1 (by simp)) (hK10.heap hS9.2.2 (by simp)))
   clear hKn
   refine hK.out _ _ hS10 (fun _=>?_)
   clear hK K
   try simp only [Act.put,zA,zB,zC,zD,zE,zF]
   refine wpAnyH_ready (rs:=[6]) (by kernel_rfl) (by simp) ?_
   refine AllReadyH.cons rfl (fun K hK=>?_) AllReadyH.nil
   go_simp
   have hSt10:=E.stay HI.out.dev hT10 HI.out.hSt (by decide)
   have hV10:w10.heap[s.V]?=some (vobj A n):=by
    rw [HI.out.sV]
    exact hT10.kp.heap HI.out.hV (HVS.out)
   refine (room_ok t.St A n 1 s w10 hSt10 hV10 (by have:=HI.out.n1;omega) HI.out.bl0 (by have:=HI.out.bl1;omega)).mono ?_
   rintro e w11 ⟨rfl,hK11⟩
   have hT11:=hT10.tail hK11
   have hS11:=And.intro (hK11.heap hS10.1 (by simp)) (And.intro (hK11.heap hS10.2.1 (by simp)) (hK11.heap hS10.2.2 (by simp)))
   refine hK.out _ _ hS11 (fun _=>?_)
   clear hK K
   try simp only [Act.put,zA,zB,zC,zD,zE,zF]
   have HRR11:Hid (RR E.toEnv w11 h' (r.put p)):=HRR9.out.keepT (hK10.trans hK11 (by simp)) (Apt.nil _ _)
   have HT11:Hid (E.To w w11):=hT11
   have HS11:Hid (w11.heap[Tb]?=some (Obj.cells #[.pointer (some ⟨E.V,0,none⟩),.string h'.key,.int .i64 h'.b,.int .u64 h'.s,.pointer h'.ptr] 89)∧w11.heap[Tc]?=some (.cells #[.pointer (some ⟨x,0,none⟩)] 32)∧w11.heap[x]?=some (xobj t)):=hS11
   clear hSt10 hV10 hK10 hK11 hT10 hT11 hS9 hS10 hTb9
   refine zT (i:=7) (v:=.bool true) rfl (by kernel_rfl) (fun _ _ _ h=>h) (Or.inl ⟨by rfl,fun W hS=>by clear hS;go_simp⟩) hS11 ?_
   simp only [Act.put,zA,zB,zC,zD,zE,zF]
   refine wpAnyH_done (by kernel_rfl) ?_ _
   clear hS11
   go_wp2
   exact ⟨rfl,rfl,rfl,HT11.out⟩
 ·go_simp
  obtain ⟨w1,hw,hTb,hKa⟩:∃ w1,w1=(w.alloc (Obj.cells #[.pointer none,.string ⟨#[]⟩,.int .i64 0,.int .u64 0,.pointer none] 89)).drew∧w1.heap[w.heap.size]?=some (Obj.cells #[.pointer none,.string ⟨#[]⟩,.int .i64 0,.int .u64 0,.pointer none] 89)∧Kp [] w w1:=⟨_,rfl,heap_new _ _,((Kp.refl _ _).alloc _).drew⟩
  rw [← hw]
  clear hw
  have hTbl:w.heap.size≤w.heap.size:=Nat.le_refl _
  have hTbs:w.heap.size < w1.heap.size:=lt_of_heap hTb
  have hT1:E.To w w1:=Env.To.of0 HI.out.dev hKa
  have hS1:=HST.out _ hT1
  obtain ⟨Tb,hTbe⟩:∃ Tb,Tb=w.heap.size:=⟨_,rfl⟩
  have hTbx:w.heap.size≤Tb:=by omega
  clear hTbl
  rw [← hTbe] at hTb hTbs ⊢
  have hTbl:w.heap.size≤Tb:=hTbx
  clear hTbe hTbx
  clear hTd hSd hKa
  refine hK.out _ _ hS1 (fun _=>?_)
  clear hK K
  try simp only [Act.put,zA,zB,zC,zD,zE,zF]
  refine wpAnyH_ready (rs:=[5]) (by kernel_rfl) (by simp) ?_
  refine AllReadyH.cons rfl (fun K hK=>?_) AllReadyH.nil
  go_simp
  refine (clone_ok p.k w1 (by omega)).mono ?_
  rintro e w2 ⟨rfl,hKn⟩
  have hT2:=hT1.tail hKn
  have hS2:=HST.out _ hT2
  have hTb2:=hKn.heap hTb (by simp)
  clear hT1 hS1 hTb hKn
  have hTb:=hTb2
  refine hK.out _ _ hS2 (fun _=>?_)
  clear hK K
  try simp only [Act.put,zA,zB,zC,zD,zE,zF]
  refine wpAnyH_ready (rs:=[7]) (by kernel_rfl) (by simp) ?_
  refine AllReadyH.cons rfl (fun K hK=>?_) AllReadyH.nil
  go_simp
  refine (clone_ok p.v w2 (by omega)).mono ?_
  rintro e w3 ⟨rfl,hKn⟩
  have hT3:=hT2.tail hKn
  have hS3:=HST.out _ hT3
  have hTb3:=hKn.heap hTb (by simp)
  clear hT2 hS2 hTb hTb2 hKn
  have hTb:=hTb3
  refine hK.out _ _ hS3 (fun _=>?_)
  clear hK K
  try simp only [Act.put,zA,zB,zC,zD,zE,zF]
  refine zT (i:=8) (v:=.agg #[.string p.k,.string p.v]) rfl (by kernel_rfl) (fun _ _ _ h=>h) (Or.inl ⟨by rfl,fun W hS=>by clear hS;go_simp⟩) hS3 ?_
  simp only [Act.put,zA,zB,zC,zD,zE,zF]
  refine wpAnyH_ready (rs:=[9]) (by kernel_rfl) (by simp) ?_
  refine AllReadyH.cons rfl (fun K hK=>?_) AllReadyH.nil
  go_simp
  refine (tput_ok E.toEnv r t.h p w3 hT3.dev (HI.out.rr.to HI.out.dev hT3) HI.out.good (by have:=HI.out.sz;omega) HOK.out).mono ?_
  rintro e w4 ⟨h',rfl,hRR,hTn⟩
  have hT4:=hT3.trans hTn
  have hS4:=HST.out _ hT4
  have hTb4:=hTn.new HI.out.dev hTbl hTb
  clear hT3 hS3 hTn hTb hTb3
  have hTb:=hTb4
  refine hK.out _ _ hS4 (fun _=>?_)
  clear hK K
  try simp only [Act.put,zA,zB,zC,zD,zE,zF]
  have b0:=cell_of hTb 0
  have b1:=cell_of hTb 1
  have b2:=cell_of hTb 2
  have b3:=cell_of hTb 3
  have b4:=cell_of hTb 4
  simp only [zG,zH,zI] at b0 b1 b2 b3 b4
  have fb0:=frozen_of hTb 0
  have fb1:=frozen_of hTb 1
  have fb2:=frozen_of hTb 2
  have fb3:=frozen_of hTb 3
  have fb4:=frozen_of hTb 4
  have hTbs2:=lt_of_heap hTb
  simp only [tval]
  refine wpAnyH_ready (rs:=[11]) (by kernel_rfl) (by simp) ?_
  refine AllReadyH.cons rfl (fun K hK=>?_) AllReadyH.nil
  go_simp
  have hts:=tree_set (.pointer (some ⟨E.V,0,none⟩)) (.string h'.key) (.int .i64 h'.b) (.int .u64 h'.s) (.pointer h'.ptr) hTb
  obtain ⟨w9,hw9,hTb9,hK9⟩:∃ w9,w9=((((w4.setCell ⟨Tb,0,none⟩ (.pointer (some ⟨E.V,0,none⟩))).setCell ⟨Tb,1,none⟩ (.string h'.key)).setCell ⟨Tb,2,none⟩ (.int .i64 h'.b)).setCell ⟨Tb,3,none⟩ (.int .u64 h'.s)).setCell ⟨Tb,4,none⟩ (.pointer h'.ptr)∧w9.heap[Tb]?=some (Obj.cells #[.pointer (some ⟨E.V,0,none⟩),.string h'.key,.int .i64 h'.b,.int .u64 h'.s,.pointer h'.ptr] 89)∧Kp [Tb] w4 w9:=⟨_,rfl,hts.1,hts.2⟩
  rw [← hw9]
  clear hw9 hts b0 b1 b2 b3 b4 fb0 fb1 fb2 fb3 fb4
  have hT9:=hT4.store' hTbl hTb (by decide) hK9
  have hS9:=HST.out _ hT9
  have hRR9:=hRR.keepT hK9 (Apt.one hTb (by decide))
  refine hK.out _ _ hS9 (fun _=>?_)
  clear hK K
  try simp only [Act.put,zA,zB,zC,zD,zE,zF]
  refine wpAnyH_done (by kernel_rfl) ?_ _
  have HT9:Hid (E.To w w9):=hT9
  have HRR9:Hid (RR E.toEnv w9 h' (r.put p)):=hRR9
  have HTB9:Hid (w9.heap[Tb]?=some (Obj.cells #[.pointer (some ⟨E.V,0,none⟩),.string h'.key,.int .i64 h'.b,.int .u64 h'.s,.pointer h'.ptr] 89)):=hTb9
  clear hT9 hRR9 hS9 hTb
  go_wp2_with fail
  have hS9:=And.intro hTb9 (And.intro (HST.out _ HT9.out).1 (HST.out _ HT9.out).2.1)
  refine wp_region_held_drew (S:=fun W=>W.heap[Tb]?=some (Obj.cells #[.pointer (some ⟨E.V,0,none⟩),.string h'.key,.int .i64 h'.b,.int .u64 h'.s,.pointer h'.ptr] 89)∧W.heap[Tc]?=some (.cells #[.pointer (some ⟨x,0,none⟩)] 32)∧W.heap[x]?=some (xobj t)) (by kernel_rfl) hS9 (fun _=>?_)
  refine zT (i:=0) (v:=tval E.V h') rfl (by kernel_rfl) (fun _ _ _ h=>h) (Or.inl ⟨by rfl,fun W hS=>by have a0:=cell_of hS.1 0;have a1:=cell_of hS.1 1;have a2:=cell_of hS.1 2;have a3:=cell_of hS.1 3;have a4:=cell_of hS.1 4;simp only [zG,zH,zI] at a0 a1 a2 a3 a4;clear hS;rw [tval];go_simp⟩) hS9 ?_
  simp only [Act.put,zA,zB,zC,zD,zE,zF]
  refine zT (i:=2) (v:=.pointer (some ⟨x,0,none⟩)) rfl (by kernel_rfl) (fun _ _ _ h=>h) (Or.inl ⟨by rfl,fun W hS=>by have c:=cell_of hS.2.1 0;simp at c;clear hS;go_simp⟩) hS9 ?_
  simp only [Act.put,zA,zB,zC,zD,zE,zF]
  refine zT (i:=3) (v:=.pointer (some ⟨x,0,none⟩)) rfl (by kernel_rfl) (fun _ _ _ h=>h) (Or.inl ⟨by rfl,fun W hS=>by clear hS;go_simp⟩) hS9 ?_
  simp only [Act.put,zA,zB,zC,zD,zE,zF]
  refine zT (i:=4) (v:=.pointer (some ⟨x,0,none⟩)) rfl (by kernel_rfl) (fun _ _ _ h=>h) (Or.inl ⟨by rfl,fun W hS=>by clear hS;go_simp⟩) hS9 ?_
  simp only [Act.put,zA,zB,zC,zD,zE,zF]
  refine zT (i:=5) (v:=.pointer (some ⟨t.St,0,none⟩)) rfl (by kernel_rfl) (fun _ _ _ h=>h) (Or.inl ⟨by rfl,fun W hS=>by have a0:=cell_of hS.2.2 0;simp only [xobj,zG,zH,zI] at a0;clear hS;go_simp⟩) hS9 ?_
  simp only [Act.put,zA,zB,zC,zD,zE,zF]
  refine wpAnyH_ready (rs:=[1]) (by kernel_rfl) (by simp) ?_
  refine AllReadyH.cons rfl (fun K hK=>?_) AllReadyH.nil
  go_simp
  obtain ⟨hpg,hpc⟩:=put_good HI.out.good HOK.out
  have hpl:(r.put p).cont.length≤1000000:=by rw [hpc];have h1:=ins_length p r.cont;have h2:=HI.out.sz;omega
  refine (rnew_ok E.toEnv (r.put p) h' w9.drew (HRR9.out.keepT ((Kp.refl [] _).drew) (Apt.nil _ _)) hpg hpl).mono ?_
  rintro e w10 ⟨rfl,hKn⟩
  have hK10:Kp [] w9 w10:=((Kp.refl [] w9).drew).trans hKn (by simp)
  have hT10:=HT9.out.tail hK10
  have hS10:=And.intro (hK10.heap hS9.1 (by simp)) (And.intro (hK10.heap hS9.2.1 (by simp)) (hK10.heap hS9.2.2 (by simp)))
  clear hKn
  refine hK.out _ _ hS10 (fun _=>?_)
  clear hK K
  try simp only [Act.put,zA,zB,zC,zD,zE,zF]
  refine wpAnyH_ready (rs:=[6]) (by kernel_rfl) (by simp) ?_
  refine AllReadyH.cons rfl (fun K hK=>?_) AllReadyH.nil
  go_simp
  have hSt10:=E.stay HI.out.dev hT10 HI.out.hSt (by decide)
  have hV10:w10.heap[s.V]?=some (vobj A n):=by
   rw [HI.out.sV]
   exact hT10.kp.heap HI.out.hV (HVS.out)
  refine (room_ok t.St A n 1 s w10 hSt10 hV10 (by have:=HI.out.n1;omega) HI.out.bl0 (by have:=HI.out.bl1;omega)).mono ?_
  rintro e w11 ⟨rfl,hK11⟩
  have hT11:=hT10.tail hK11
  have hS11:=And.intro (hK11.heap hS10.1 (by simp)) (And.intro (hK11.heap hS10.2.1 (by simp)) (hK11.heap hS10.2.2 (by simp)))
  refine hK.out _ _ hS11 (fun _=>?_)
  clear hK K
  try simp only [Act.put,zA,zB,zC,zD,zE,zF]
  have HRR11:Hid (RR E.toEnv w11 h' (r.put p)):=HRR9.out.keepT (hK10.trans hK11 (by simp)) (Apt.nil _ _)
  have HT11:Hid (E.To w w11):=hT11
  have HS11:Hid (w11.heap[Tb]?=some (Obj.cells #[.pointer (some ⟨E.V,0,none⟩),.string h'.key,.int .i64 h'.b,.int .u64 h'.s,.pointer h'.ptr] 89)∧w11.heap[Tc]?=some (.cells #[.pointer (some ⟨x,0,none⟩)] 32)∧w11.heap[x]?=some (xobj t)):=hS11
  clear hSt10 hV10 hK10 hK11 hT10 hT11 hS9 hS10 hTb9
  refine zT (i:=7) (v:=.bool true) rfl (by kernel_rfl) (fun _ _ _ h=>h) (Or.inl ⟨by rfl,fun W hS=>by clear hS;go_simp⟩) hS11 ?_
  simp only [Act.put,zA,zB,zC,zD,zE,zF]
  refine wpAnyH_done (by kernel_rfl) ?_ _
  clear hS11
  go_wp2
  exact ⟨rfl,rfl,rfl,HT11.out⟩
end Go.Proofs.YtdohpenfkdckiaaGreatDoor
