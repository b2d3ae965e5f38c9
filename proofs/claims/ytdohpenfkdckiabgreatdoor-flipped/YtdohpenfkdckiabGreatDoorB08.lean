import Derived.Test.YtdohpenfkdckiabGreatDoorB06
import Derived.Test.YtdohpenfkdckiabGreatDoorB07
import Derived.Maps.OwnSet
set_option linter.all false
set_option maxRecDepth 100000
set_option maxHeartbeats 20000000
namespace Go.Proofs.YtdohpenfkdckiabGreatDoor
open Go.Proofs.Tryz
open Go.RowKit
theorem zU8{n:Nat}{lo:ByteArray}{t:Tn n}(h:Good n lo t):cnt n t≤10000:=by
 cases n with
 | zero=>exact qK5 0 lo t h
 | succ n=>exact (qK5 (n+1) lo t h).1
theorem zM3(E:Env)(n:Nat)(hn:n≤100000)(r:HL)(v:Value)(l:Lnk (Tn n))(d:Nat)(W:List (Lnk (Tn n)))(w:World)(hd:E.Dev w)(hr:RLs E.O n w v W)(hW:Row0 n l.key W)(hM:Made n l d W)(hc:min n 1<cnt n l.sub)(hd1:d≤1):
  Calls prog 91 #[φ E.V r,v] w fun e w'=>∃ h,e=.returned (φ E.V h)∧RR E w' h (qF5 n W)∧E.To w w':=by
 rcases hM with⟨a,rfl,e1,e2,e3⟩|⟨a,b,rfl,e1,e2,e3,e4,e5⟩
 ·have ga:=(hW.all a (by simp)).1
  cases n with
  | zero=>
   by_cases h0:cnt 0 a.sub=0
   ·refine (jR9 E r v a w hd hr e2 h0).mono ?_;rintro e w' ⟨h1,h2⟩;refine⟨_,h1,?_,h2⟩;have hp:prs a.sub=[]:=List.length_eq_zero_iff.1 h0;have hu:qF5 0 [a]=.none:=by
     show (match prs a.sub with | []=>Root.none | _::_=>.at 0 a)=_;rw[hp]
    rw[hu];rfl
   ·refine (xI5 E 0 r v a w hd hr e2 (by omega) (zU8 ga)).mono ?_;rintro e w' ⟨h,h1,h2,h3⟩;refine⟨h,h1,?_,h3⟩;have hu:qF5 0 [a]=.at 0 a:=by
     show (match prs a.sub with | []=>Root.none | _::_=>.at 0 a)=_
     cases hp:prs a.sub with
     | nil=>exact absurd (show cnt 0 a.sub=0 from by show (prs a.sub).length=0;rw[hp];rfl) h0
     | cons x r=>rfl
    rw[hu];exact h2
  | succ n=>
   have hc2:1<(η l.sub).length:=by have h2:min (n+1) 1<(η l.sub).length:=hc;omega
   have hc3:(η l.sub).length≤(η a.sub).length+d:=e3
   cases hp:η a.sub with
   | nil=>rw[hp] at hc3;simp at hc3;omega
   | cons x t=>
    cases t with
    | nil=>
     refine (jS0 E n r v a x w hd hr e2 hp).mono ?_;rintro e w' ⟨h,h1,h2,h3⟩;refine⟨h,h1,?_,h3⟩;have hu:qF5 (n+1) [a]=.at n x:=by
      show (match η a.sub with | []=>Root.none | [m]=>.at n m | _::_::_=>.at (n+1) a)=_;rw[hp]
     rw[hu];exact h2
    | cons y t=>
     have hcn:min (n+1) 1<cnt (n+1) a.sub:=by show min (n+1) 1<(η a.sub).length;rw[hp];simp
     refine (xI5 E (n+1) r v a w hd hr e2 hcn (zU8 ga)).mono ?_;rintro e w' ⟨h,h1,h2,h3⟩;refine⟨h,h1,?_,h3⟩;have hu:qF5 (n+1) [a]=.at (n+1) a:=by
      show (match η a.sub with | []=>Root.none | [m]=>.at n m | _::_::_=>.at (n+1) a)=_;rw[hp]
     rw[hu];exact h2
 ·have ga:=hW.all a (by simp);have gb:=hW.all b (by simp);refine (jS1 E n r v a b w hd hr hn e2 ⟨ga.2,gb.2⟩ (zH5 n a.key a.sub ga.1 (by omega)) (zH5 n b.key b.sub gb.1 (by omega))).mono ?_;rintro e w' ⟨h,h1,h2,h3⟩;refine⟨h,h1,?_,h3⟩;have hfit:meas qA3 [a,b]≤126:=by
   have:=ga.2;have:=gb.2;simp[meas,qA3];omega
  have hu:qF5 n [a,b]=.at (n+1) ⟨⟨#[]⟩,none,[a,b]⟩:=by
   show (match qD7 n ⟨#[]⟩ [a,b] with | []=>Root.none | r::_=>qQ3 (n+1) r)=_;have e:qD7 n ⟨#[]⟩ [a,b]=[⟨⟨#[]⟩,none,[a,b]⟩]:=by
    unfold qD7 qB6;rw[if_pos hfit];rfl
   rw[e];rfl
  rw[hu];exact h2
theorem jR4(E:Env)(n:Nat)(hn:n≤100000)(h:HL)(l:Lnk (Tn n))(p:KV)(w:World)(hd:E.Dev w)(hr:RL E.O n w h l)(hg:RGood (.at n l))(hp:qC3 p):
  Calls prog 56 #[φ E.V h,.agg #[.string p.k,.string p.v]] w fun e w'=>∃ h',e=.returned (φ E.V h')∧RR E w' h' (Root.put (.at n l) p)∧E.To w w':=by
 obtain⟨g1,g2,g3⟩:=hg;have hk8:l.key.size≤8:=by rw[g1];decide
 have hkl:kl p.k l.key=false:=by rw[g1];exact qN6 _
 obtain⟨wg1,wg2,wg3⟩:=qW2 n l p g2 hp hkl hk8 (by omega);have HD:=zh hd;have HRL:=zh hr;have HG:Hid (Good n l.key l.sub∧qC3 p∧kl p.k l.key=false∧1≤cnt n l.sub∧l.key.size≤8):=⟨g2,hp,hkl,by omega,hk8⟩;have HM:Hid (Row0 n l.key (qE3 n l p)∧Made n l 0 (qE3 n l p)∧min n 1<cnt n l.sub):=⟨wg1,wg3,g3⟩;have HK0:=zh g1;clear hd hr g1 g2 g3 hk8 hkl wg1 wg2 wg3 hp;rw[φ];go_enter func56,ntmps56;go_wp2_with fail;obtain⟨w0,hw0,hB0,hP0,hR0,hK0,hs0⟩:∃ w0,w0=((w.alloc (.cells #[.pointer (some ⟨E.V,0,none⟩),.string h.key,.int .i64 h.b,.int .u64 h.s,.pointer h.ptr] 83)).alloc (.cells #[.string p.k,.string p.v] 64)).alloc (.cells #[.pointer none,.string ⟨#[]⟩,.int .i64 0,.int .u64 0,.pointer none] 83)∧w0.heap[w.heap.size]?=some (.cells #[.pointer (some ⟨E.V,0,none⟩),.string h.key,.int .i64 h.b,.int .u64 h.s,.pointer h.ptr] 83)∧w0.heap[w.heap.size+1]?=some (.cells #[.string p.k,.string p.v] 64)∧w0.heap[w.heap.size+1+1]?=some (.cells #[.pointer none,.string ⟨#[]⟩,.int .i64 0,.int .u64 0,.pointer none] 83)∧Kp [] w w0∧w0.heap.size=w.heap.size+3:=by
  refine⟨_,rfl,θ _ (θ _ (μ _ _)),θ _ ?_,?_,(((Kp.refl _ _).alloc _).alloc _).alloc _,by simp⟩
  ·have e:=μ (w.alloc (.cells #[.pointer (some ⟨E.V,0,none⟩),.string h.key,.int .i64 h.b,.int .u64 h.s,.pointer h.ptr] 83)) (.cells #[.string p.k,.string p.v] 64);simpa using e
  ·have e:=μ ((w.alloc (.cells #[.pointer (some ⟨E.V,0,none⟩),.string h.key,.int .i64 h.b,.int .u64 h.s,.pointer h.ptr] 83)).alloc (.cells #[.string p.k,.string p.v] 64)) (.cells #[.pointer none,.string ⟨#[]⟩,.int .i64 0,.int .u64 0,.pointer none] 83);simpa using e
 rw[←hw0];clear hw0;have hT0:=Env.To.of0 HD.out hK0;refine (qZ3 E n h l w0 (Env.RL HRL.out HD.out hT0) HK0.out).mono ?_;rintro e w1 ⟨rfl,hK1⟩;have hT1:=hT0.tail hK1;have hS0:w1.heap[w.heap.size]?=some (.cells #[.pointer (some ⟨E.V,0,none⟩),.string h.key,.int .i64 h.b,.int .u64 h.s,.pointer h.ptr] 83)∧w1.heap[w.heap.size+1]?=some (.cells #[.string p.k,.string p.v] 64):=⟨hK1.hp hB0,hK1.hp hP0⟩;have hR1:=hK1.hp hR0;clear hK1 hT0 hK0 hB0 hP0 hR0;go_wp2_with fail;refine wp_region_held_drew (S:=fun W=>W.heap[w.heap.size]?=some (.cells #[.pointer (some ⟨E.V,0,none⟩),.string h.key,.int .i64 h.b,.int .u64 h.s,.pointer h.ptr] 83)∧W.heap[w.heap.size+1]?=some (.cells #[.string p.k,.string p.v] 64)) (by kernel_rfl) hS0 (fun _=>?_);refine zW 0 (.agg #[.pointer (some ⟨E.V,0,none⟩),.string h.key,.int .i64 h.b,.int .u64 h.s,.pointer h.ptr]) hS0 (·.1) ?_;refine zW 1 (.agg #[.pointer (some ⟨E.V,0,none⟩),.string h.key,.int .i64 h.b,.int .u64 h.s,.pointer h.ptr]) hS0 (·.1) ?_;refine zP 2 w.heap.size 1 hS0 ?_;refine zW 3 (.agg #[.string h.key,.int .i64 h.b,.int .u64 h.s,.pointer h.ptr]) hS0 (·.1) ?_;refine zW 4 (.agg #[.pointer (some ⟨E.V,0,none⟩),.string h.key,.int .i64 h.b,.int .u64 h.s,.pointer h.ptr]) hS0 (·.1) ?_;refine zW 6 (.agg #[.string p.k,.string p.v]) hS0 (·.2) ?_;refine zU 7 (.agg #[.string p.k,.string p.v]) hS0 ?_;refine zq 5 fun K hK=>?_;go_simp;have hTd0:E.To w w1.drew:=hT1.tail ((Kp.refl _ _).drew);refine (qY6 E n h l w1.drew hTd0.dev (Env.RL HRL.out HD.out hTd0)).mono ?_;rintro e wt ⟨qt,rfl,hNt,hTt⟩;have hTd:=hTd0.trans hTt;have hSt:wt.heap[w.heap.size]?=some (.cells #[.pointer (some ⟨E.V,0,none⟩),.string h.key,.int .i64 h.b,.int .u64 h.s,.pointer h.ptr] 83)∧wt.heap[w.heap.size+1]?=some (.cells #[.string p.k,.string p.v] 64):=⟨hTt.new (k:=w.heap.size) HD.out (by omega) hS0.1,hTt.new (k:=w.heap.size+1) HD.out (by omega) hS0.2⟩;have hRt:=hTt.new (k:=w.heap.size+1+1) HD.out (by omega) hR1;refine hK.out _ _ hSt (fun _=>?_);clear hK K hS0 hTd0 hTt hR1
 try simp only[zZ]
 refine zq 8 fun K hK=>?_;go_simp;refine (jT1 E n hn h h l qt p wt hTd.dev HRL.out.1 hNt HG.out.1 HG.out.2.1 HG.out.2.2.1 HG.out.2.2.2.1 HG.out.2.2.2.2).mono ?_;rintro e w2 ⟨v2,rfl,hR2,hT2⟩;have hT2':=hTd.trans hT2;have hS2:w2.heap[w.heap.size]?=some (.cells #[.pointer (some ⟨E.V,0,none⟩),.string h.key,.int .i64 h.b,.int .u64 h.s,.pointer h.ptr] 83)∧w2.heap[w.heap.size+1]?=some (.cells #[.string p.k,.string p.v] 64):=⟨hT2.new (k:=w.heap.size) HD.out (by omega) hSt.1,hT2.new (k:=w.heap.size+1) HD.out (by omega) hSt.2⟩;have hR2b:=hT2.new (k:=w.heap.size+1+1) HD.out (by omega) hRt;refine hK.out _ _ hS2 (fun _=>?_);clear hK K hSt hTd hT2 hRt hNt
 try simp only[zZ]
 refine zq 9 fun K hK=>?_;go_simp;refine (zM3 E n hn h v2 l 0 (qE3 n l p) w2 hT2'.dev hR2 HM.out.1 HM.out.2.1 HM.out.2.2 (by omega)).mono ?_;rintro e w3 ⟨h',rfl,hR3,hT3⟩;have hT3':=hT2'.trans hT3;have hS3:w3.heap[w.heap.size]?=some (.cells #[.pointer (some ⟨E.V,0,none⟩),.string h.key,.int .i64 h.b,.int .u64 h.s,.pointer h.ptr] 83)∧w3.heap[w.heap.size+1]?=some (.cells #[.string p.k,.string p.v] 64):=⟨hT3.new HD.out (by omega) hS2.1,hT3.new HD.out (by omega) hS2.2⟩;have hR3b:=hT3.new HD.out (by omega) hR2b;refine hK.out _ _ hS3 (fun _=>?_);clear hK K hS2 hT3 hT2' hR2
 try simp only[zZ]
 have r0:=ξ hR3b;have fr0:=ρ hR3b;refine zq 10 fun K hK=>?_;rw[φ];go_simp;have hts:=qK8 (.pointer (some ⟨E.V,0,none⟩)) (.string h'.key) (.int .i64 h'.b) (.int .u64 h'.s) (.pointer h'.ptr) hR3b;obtain⟨w4,hw4,hR4,hK4⟩:∃ w4,w4=((((w3.setCell ⟨w.heap.size+1+1,0,none⟩ (.pointer (some ⟨E.V,0,none⟩))).setCell ⟨w.heap.size+1+1,1,none⟩ (.string h'.key)).setCell ⟨w.heap.size+1+1,2,none⟩ (.int .i64 h'.b)).setCell ⟨w.heap.size+1+1,3,none⟩ (.int .u64 h'.s)).setCell ⟨w.heap.size+1+1,4,none⟩ (.pointer h'.ptr)∧w4.heap[w.heap.size+1+1]?=some (.cells #[.pointer (some ⟨E.V,0,none⟩),.string h'.key,.int .i64 h'.b,.int .u64 h'.s,.pointer h'.ptr] 83)∧Kp [w.heap.size+1+1] w3 w4:=⟨_,rfl,hts.1,hts.2⟩;rw[←hw4];clear hw4 hts r0 fr0;have hT4:=hT3'.store' (by omega) hR3b (by decide) hK4;have hAT:Apt w3 [w.heap.size+1+1] qF9:=fun i hi c t fr' e=>by
  rw[List.mem_singleton.1 hi,hR3b] at e;cases e;decide
 have hRR4:RR E w4 h' (Root.put (.at n l) p):=by
  have hx:RR E w3 h' (qF5 n (qE3 n l p)):=hR3;show RR E w4 h' (qF5 n (qE3 n l p))
  cases hu:qF5 n (qE3 n l p) with
  | none=>rw[hu] at hx;exact hx
  | «at» m z=>rw[hu] at hx;exact RL.keep hx hK4 hAT
 have hS4:=And.intro (hK4.ho hS3.1) (hK4.hp hS3.2);refine hK.out _ _ hS4 (fun _=>?_);clear hK K;refine zd ?_;have HRR:=zh hRR4;have HT4:=zh hT4;have HR4:=zh hR4;clear hS4 hS3 hR3b hT4 hRR4 hR4 hK4 hAT hR3 hT3';go_wp2;exact bodyPost_ret (results_cell_row results56 _ _ (w.heap.size+1+1) 83 #[.pointer (some ⟨E.V,0,none⟩),.string h'.key,.int .i64 h'.b,.int .u64 h'.s,.pointer h'.ptr] (0,0) _ rfl HR4.out underlying83 rfl (by kernel_rfl)) rfl ⟨h',rfl,HRR.out,HT4.out⟩
theorem RR.keepT{E:Env}{S:List Nat}{w w':World}{h:HL}{r:Root}(hr:RR E w h r)(hK:Kp S w w')(hS:Apt w S qF9):RR E w' h r:=by
 cases r with
 | none=>exact hr
 | «at» n l=>exact RL.keep hr hK hS
theorem jR5(E:Env)(p:KV)(w:World)(hd:E.Dev w)(hp:qC3 p):
  Calls prog 56 #[φ E.V ⟨⟨#[]⟩,0,0,none⟩,.agg #[.string p.k,.string p.v]] w fun e w'=>∃ h',e=.returned (φ E.V h')∧RR E w' h' (Root.put .none p)∧E.To w w':=by
 have hs:Sorted [p]:=by simp[Sorted]
 have hps:ν p≤21:=by obtain⟨h1,h2,h3⟩:=hp;unfold ν;omega
 have hm:meas ν [p]≤210:=by simp[meas];omega
 obtain⟨r1,r2,r3⟩:=qU8 (lo:=⟨#[]⟩) (ps:=[p]) hs (fun q hq=>by rw[List.mem_singleton.1 hq];exact⟨hp,qN6 _⟩) hm (by decide);have hM:Made 0 (⟨⟨#[]⟩,none,[p]⟩:Lnk (List KV)) 0 (qE1 ⟨#[]⟩ [p]):=by
  rcases r3 with⟨a,e1,e2,e3,e4⟩|⟨a,b,e1,e2,e3,e4,e5,e6⟩
  ·exact .inl ⟨a,e1,e2,e3,by rw[e4];exact Nat.le_refl _⟩
  ·exact .inr ⟨a,b,e1,e2,e3,e4,e5,e6⟩
 have HD:=zh hd;have HM:Hid (Row0 0 (⟨⟨#[]⟩,none,[p]⟩:Lnk (List KV)).key (qE1 ⟨#[]⟩ [p])∧Made 0 (⟨⟨#[]⟩,none,[p]⟩:Lnk (List KV)) 0 (qE1 ⟨#[]⟩ [p])):=⟨r1,hM⟩;have HF:Hid ((∀ q∈[p],ν q≤21)∧meas ν [p]≤210):=⟨fun q hq=>by rw[List.mem_singleton.1 hq];exact hps,hm⟩;clear hd hp hs hps hm r1 r2 r3 hM;obtain⟨h,hh⟩:∃ h:HL,h=⟨⟨#[]⟩,0,0,none⟩:=⟨_,rfl⟩;have HH:=zh hh;rw[←hh];clear hh;rw[φ];go_enter func56,ntmps56;go_wp2_with fail;obtain⟨w0,hw0,hB0,hP0,hR0,hK0,hs0⟩:∃ w0,w0=((w.alloc (.cells #[.pointer (some ⟨E.V,0,none⟩),.string h.key,.int .i64 h.b,.int .u64 h.s,.pointer h.ptr] 83)).alloc (.cells #[.string p.k,.string p.v] 64)).alloc (.cells #[.pointer none,.string ⟨#[]⟩,.int .i64 0,.int .u64 0,.pointer none] 83)∧w0.heap[w.heap.size]?=some (.cells #[.pointer (some ⟨E.V,0,none⟩),.string h.key,.int .i64 h.b,.int .u64 h.s,.pointer h.ptr] 83)∧w0.heap[w.heap.size+1]?=some (.cells #[.string p.k,.string p.v] 64)∧w0.heap[w.heap.size+1+1]?=some (.cells #[.pointer none,.string ⟨#[]⟩,.int .i64 0,.int .u64 0,.pointer none] 83)∧Kp [] w w0∧w0.heap.size=w.heap.size+3:=by
  refine⟨_,rfl,θ _ (θ _ (μ _ _)),θ _ ?_,?_,(((Kp.refl _ _).alloc _).alloc _).alloc _,by simp⟩
  ·have e:=μ (w.alloc (.cells #[.pointer (some ⟨E.V,0,none⟩),.string h.key,.int .i64 h.b,.int .u64 h.s,.pointer h.ptr] 83)) (.cells #[.string p.k,.string p.v] 64);simpa using e
  ·have e:=μ ((w.alloc (.cells #[.pointer (some ⟨E.V,0,none⟩),.string h.key,.int .i64 h.b,.int .u64 h.s,.pointer h.ptr] 83)).alloc (.cells #[.string p.k,.string p.v] 64)) (.cells #[.pointer none,.string ⟨#[]⟩,.int .i64 0,.int .u64 0,.pointer none] 83);simpa using e
 rw[←hw0];clear hw0;have hT0:=Env.To.of0 HD.out hK0;have hem:Calls prog 85 #[φ E.V h] w0 fun e w'=>e=.returned (.bool true)∧Kp [] w0 w':=by rw[HH.out];exact zB0 E.V w0
 refine hem.mono ?_;rintro e w1 ⟨rfl,hK1⟩;have hT1:=hT0.tail hK1;have hS0:w1.heap[w.heap.size]?=some (.cells #[.pointer (some ⟨E.V,0,none⟩),.string h.key,.int .i64 h.b,.int .u64 h.s,.pointer h.ptr] 83)∧w1.heap[w.heap.size+1]?=some (.cells #[.string p.k,.string p.v] 64):=⟨hK1.hp hB0,hK1.hp hP0⟩;have hR1:=hK1.hp hR0;clear hK1 hT0 hK0 hB0 hP0 hR0;go_wp2_with fail;refine wp_region_held_drew (S:=fun W=>W.heap[w.heap.size]?=some (.cells #[.pointer (some ⟨E.V,0,none⟩),.string h.key,.int .i64 h.b,.int .u64 h.s,.pointer h.ptr] 83)∧W.heap[w.heap.size+1]?=some (.cells #[.string p.k,.string p.v] 64)) (by kernel_rfl) hS0 (fun _=>?_);refine zW 0 (.agg #[.pointer (some ⟨E.V,0,none⟩),.string h.key,.int .i64 h.b,.int .u64 h.s,.pointer h.ptr]) hS0 (·.1) ?_;refine zW 1 (.agg #[.string p.k,.string p.v]) hS0 (·.2) ?_;refine zU 2 (.agg #[.string p.k,.string p.v]) hS0 ?_;refine zq 3 fun K hK=>?_;go_simp;obtain⟨wb,hwb,hGb,hKb⟩:∃ wb,wb=(w1.alloc (.cells #[.string p.k,.string p.v] 158)).drew∧wb.heap[w1.heap.size]?=some (.cells #[.string p.k,.string p.v] 158)∧Kp [] w1 wb:=⟨_,rfl,μ _ _,((Kp.refl _ _).alloc _).drew⟩;rw[←hwb];clear hwb;have hSb:=And.intro (hKb.hp hS0.1) (hKb.hp hS0.2);have hRb:=hKb.hp hR1;have hTb:=hT1.tail hKb;refine hK.out _ _ hSb (fun _=>?_);clear hK K hS0
 try simp only[zZ]
 refine zq 4 fun K hK=>?_;go_simp;have hsb:Slc wb 158 2 (.slice (some ⟨w1.heap.size,0,none⟩) 1 1) [p].length (qA9 [p]):=⟨rfl,.inr ⟨w1.heap.size,0,1,_,_,rfl,Nat.le_refl _,Nat.le_refl _,hGb,fun j u hu=>by simpa [qA9,pcs] using hu⟩⟩;refine (qS9 E.O ⟨#[]⟩ _ [p] wb hsb (by simp) HF.out.1 HF.out.2).mono ?_;rintro e w2 ⟨v2,rfl,hR2,hK2⟩;have hT2':=hTb.tail hK2;have hS2:w2.heap[w.heap.size]?=some (.cells #[.pointer (some ⟨E.V,0,none⟩),.string h.key,.int .i64 h.b,.int .u64 h.s,.pointer h.ptr] 83)∧w2.heap[w.heap.size+1]?=some (.cells #[.string p.k,.string p.v] 64):=⟨hK2.hp hSb.1,hK2.hp hSb.2⟩;have hR2b:=hK2.hp hRb;refine hK.out _ _ hS2 (fun _=>?_);clear hK K hSb hTb hsb hGb hKb hRb
 try simp only[zZ]
 refine zq 5 fun K hK=>?_;go_simp;refine (zM3 E 0 (by omega) h v2 (⟨⟨#[]⟩,none,[p]⟩:Lnk (List KV)) 0 (qE1 ⟨#[]⟩ [p]) w2 hT2'.dev hR2 HM.out.1 HM.out.2 (by show 0<1;omega) (by omega)).mono ?_;rintro e w3 ⟨h',rfl,hR3,hT3⟩;have hT3':=hT2'.trans hT3;have hS3:w3.heap[w.heap.size]?=some (.cells #[.pointer (some ⟨E.V,0,none⟩),.string h.key,.int .i64 h.b,.int .u64 h.s,.pointer h.ptr] 83)∧w3.heap[w.heap.size+1]?=some (.cells #[.string p.k,.string p.v] 64):=⟨hT3.new HD.out (by omega) hS2.1,hT3.new HD.out (by omega) hS2.2⟩;have hR3b:=hT3.new HD.out (by omega) hR2b;refine hK.out _ _ hS3 (fun _=>?_);clear hK K hS2 hT3 hT2' hR2
 try simp only[zZ]
 have r0:=ξ hR3b;have fr0:=ρ hR3b;refine zq 6 fun K hK=>?_;rw[φ];go_simp;have hts:=qK8 (.pointer (some ⟨E.V,0,none⟩)) (.string h'.key) (.int .i64 h'.b) (.int .u64 h'.s) (.pointer h'.ptr) hR3b;obtain⟨w4,hw4,hR4,hK4⟩:∃ w4,w4=((((w3.setCell ⟨w.heap.size+1+1,0,none⟩ (.pointer (some ⟨E.V,0,none⟩))).setCell ⟨w.heap.size+1+1,1,none⟩ (.string h'.key)).setCell ⟨w.heap.size+1+1,2,none⟩ (.int .i64 h'.b)).setCell ⟨w.heap.size+1+1,3,none⟩ (.int .u64 h'.s)).setCell ⟨w.heap.size+1+1,4,none⟩ (.pointer h'.ptr)∧w4.heap[w.heap.size+1+1]?=some (.cells #[.pointer (some ⟨E.V,0,none⟩),.string h'.key,.int .i64 h'.b,.int .u64 h'.s,.pointer h'.ptr] 83)∧Kp [w.heap.size+1+1] w3 w4:=⟨_,rfl,hts.1,hts.2⟩;rw[←hw4];clear hw4 hts r0 fr0;have hT4:=hT3'.store' (by omega) hR3b (by decide) hK4;have hAT:Apt w3 [w.heap.size+1+1] qF9:=fun i hi c t fr' e=>by
  rw[List.mem_singleton.1 hi,hR3b] at e;cases e;decide
 have hRR4:RR E w4 h' (Root.put .none p):=by
  have hx:RR E w3 h' (qF5 0 (qE1 ⟨#[]⟩ [p])):=hR3;show RR E w4 h' (qF5 0 (qE1 ⟨#[]⟩ [p]))
  cases hu:qF5 0 (qE1 ⟨#[]⟩ [p]) with
  | none=>rw[hu] at hx;exact hx
  | «at» m z=>rw[hu] at hx;exact RL.keep hx hK4 hAT
 have hS4:=And.intro (hK4.ho hS3.1) (hK4.hp hS3.2);refine hK.out _ _ hS4 (fun _=>?_);clear hK K;refine zd ?_;have HRR:=zh hRR4;have HT4:=zh hT4;have HR4:=zh hR4;clear hS4 hS3 hR3b hT4 hRR4 hR4 hK4 hAT hR3 hT3';go_wp2;exact bodyPost_ret (results_cell_row results56 _ _ (w.heap.size+1+1) 83 #[.pointer (some ⟨E.V,0,none⟩),.string h'.key,.int .i64 h'.b,.int .u64 h'.s,.pointer h'.ptr] (0,0) _ rfl HR4.out underlying83 rfl (by kernel_rfl)) rfl ⟨h',rfl,HRR.out,HT4.out⟩
theorem qV7(E:Env)(r:Root)(h:HL)(p:KV)(w:World)(hd:E.Dev w)(hr:RR E w h r)(hg:RGood r)(hsz:r.cont.length≤100000)(hp:qC3 p):
  Calls prog 56 #[φ E.V h,.agg #[.string p.k,.string p.v]] w fun e w'=>∃ h',e=.returned (φ E.V h')∧RR E w' h' (r.put p)∧E.To w w':=by
 cases r with
 | none=>
  have hh:h=⟨⟨#[]⟩,0,0,none⟩:=hr;subst hh;exact jR5 E p w hd hp
 | «at» n l=>
  have hlv:=zL3 hg;have hsz':(cont n l.sub).length≤100000:=hsz;exact jR4 E n (by omega) h l p w hd hr hg hp
def Asks(E:Env)(w:World)(g:Nat)(cap:Array Value)(f:ByteArray→Bool):Prop:=∀ W k,E.To w W→Calls prog g (#[.string k]++cap) W fun e W'=>e=.returned (.bool (f k))∧Kp [] W W'
theorem Asks.to{E:Env}{w W:World}{g:Nat}{cap:Array Value}{f:ByteArray→Bool}(h:Asks E w g cap f)(hT:E.To w W):Asks E W g cap f:=fun W' k hT'=>h W' k (hT.trans hT')
theorem xW1(g F:Nat)(cap:Array Value)(p:KV)(b:Bool)(w:World)(hF:w.heap[F]?=some (.cells #[.func (.func g) #[] cap] 227))
  (hcf:∀ (args:Array Value) (W:World),Sem.run prog (callFunc g args) W=.ok (.enter g args) W)
  (hf:∀ W,Kp [] w W→Calls prog g (#[.string p.k]++cap) W fun e W'=>e=.returned (.bool b)∧Kp [] W W'):
  Calls prog 198 #[.agg #[.string p.k,.string p.v],.pointer (some ⟨F,0,none⟩)] w fun e w'=>e=.returned (.bool b)∧Kp [] w w':=by
 have HF:=zh hf;clear hf;have hFs:=ζ hF;have f0:=ξ hF 0;simp only[zG,zH,zI] at f0;go_enter func198,ntmps198;go_wp2_with fail;refine (HF.out _ ((Kp.refl _ _).alloc _)).mono ?_;rintro e w1 ⟨rfl,hK1⟩;have hK1':Kp [] w w1:=((Kp.refl _ _).alloc _).tr hK1;go_wp2;go_ret;exact⟨rfl,hK1'⟩
theorem xW2(g F:Nat)(cap:Array Value)(p:HL)(b:Bool)(w:World)(hF:w.heap[F]?=some (.cells #[.func (.func g) #[] cap] 227))
  (hcf:∀ (args:Array Value) (W:World),Sem.run prog (callFunc g args) W=.ok (.enter g args) W)
  (hf:∀ W,Kp [] w W→Calls prog g (#[.string p.key]++cap) W fun e W'=>e=.returned (.bool b)∧Kp [] W W'):
  Calls prog 199 #[.agg #[.string p.key,.int .i64 p.b,.int .u64 p.s,.pointer p.ptr],.pointer (some ⟨F,0,none⟩)] w fun e w'=>e=.returned (.bool !b)∧Kp [] w w':=by
 have HF:=zh hf;clear hf;have hFs:=ζ hF;have f0:=ξ hF 0;simp only[zG,zH,zI] at f0;go_enter func199,ntmps199;go_wp2_with fail;refine (HF.out _ ((Kp.refl _ _).alloc _)).mono ?_;rintro e w1 ⟨rfl,hK1⟩;have hK1':Kp [] w w1:=((Kp.refl _ _).alloc _).tr hK1;go_wp2;go_ret;exact⟨rfl,hK1'⟩
def qF7:Option KV→Value
 | some p=>.tuple #[.agg #[.string p.k,.string p.v],.bool true]
 | none=>.tuple #[.agg #[.string ⟨#[]⟩,.string ⟨#[]⟩],.bool false]
theorem qN1{W:World}{k:Nat}{a b:Value}(v0 v1:Value)(h:W.heap[k]?=some (.cells #[a,b] 64)):
  ((W.setCell ⟨k,0,none⟩ v0).setCell ⟨k,1,none⟩ v1).heap[k]?=some (.cells #[v0,v1] 64)∧Kp [k] W ((W.setCell ⟨k,0,none⟩ v0).setCell ⟨k,1,none⟩ v1):=
 ⟨ω (ω h 0 _) 1 _,((Kp.refl _ W).sc _).sc _⟩
theorem xW0{l:List KV}{f:KV→Bool}:l.find? f=l[l.findIdx f]?:=by
 induction l with
 | nil=>rfl
 | cons a l ih=>
  rw[List.find?_cons,List.findIdx_cons]
  cases f a with
  | true=>simp
  | false=>simpa using ih
theorem xW7(E:Env)(r:HL)(l:Lnk (Tn 0))(q:Nat)(g:Nat)(cap:Array Value)(f:ByteArray→Bool)(w:World)(hd:E.Dev w)(hN:RN E.O 0 w q l.sub)(hg:Good 0 l.key l.sub)(hup:Up f)(ha:Asks E w g cap f)
  (hcf:∀ (args:Array Value) (W:World),Sem.run prog (callFunc g args) W=.ok (.enter g args) W):
  Calls prog 178 #[φ E.V r,.pointer (some ⟨q,0,none⟩),.func (.func g) #[] cap] w fun e w'=>e=.returned (qF7 ((cont 0 l.sub).find? fun q=>f q.k))∧E.To w w':=by
 have hmf:=zM;have hcl:(prs l.sub).length≤10000:=qK5 0 l.key l.sub hg;have hso:Sorted (prs l.sub):=hg.sorted;have HD:=zh hd;have HA:=zh ha;have HUP:Hid (∀ i j (hi:i<(prs l.sub).length) (hj:j<(prs l.sub).length),i≤j→f (prs l.sub)[i].k=true→f (prs l.sub)[j].k=true):=by
  show ∀ i j (hi:i<(prs l.sub).length) (hj:j<(prs l.sub).length),_;intro i j hi hj hij hp;by_cases e:i=j
  ·subst e;exact hp
  ·exact hup _ _ (List.pairwise_iff_getElem.1 hso i j hi hj (by omega)) hp
 obtain⟨vp,hq0,hsl0⟩:=hN;have hqs:=ζ hq0;have hqs1:q<w.heap.size+1:=by omega
 have hqs2:q<w.heap.size+1+1:=by omega
 have q0:=ξ hq0;simp only[υ,zG,zH,zI] at q0;clear hd hup ha;rw[φ];go_enter func178,ntmps178;go_wp2_with fail;obtain⟨w1,hw1,hB1,hF1,hR1,hK1,hs1⟩:∃ w1,w1=((w.alloc (.cells #[.pointer (some ⟨E.V,0,none⟩),.string r.key,.int .i64 r.b,.int .u64 r.s,.pointer r.ptr] 83)).alloc (.cells #[.func (.func g) #[] cap] 227)).alloc (.cells #[.string ⟨#[]⟩,.string ⟨#[]⟩] 64)∧w1.heap[w.heap.size]?=some (.cells #[.pointer (some ⟨E.V,0,none⟩),.string r.key,.int .i64 r.b,.int .u64 r.s,.pointer r.ptr] 83)∧w1.heap[w.heap.size+1]?=some (.cells #[.func (.func g) #[] cap] 227)∧w1.heap[w.heap.size+1+1]?=some (.cells #[.string ⟨#[]⟩,.string ⟨#[]⟩] 64)∧Kp [] w w1∧w1.heap.size=w.heap.size+3:=by
  refine⟨_,rfl,θ _ (θ _ (μ _ _)),θ _ ?_,?_,(((Kp.refl _ _).alloc _).alloc _).alloc _,by simp⟩
  ·have e:=μ (w.alloc (.cells #[.pointer (some ⟨E.V,0,none⟩),.string r.key,.int .i64 r.b,.int .u64 r.s,.pointer r.ptr] 83)) (.cells #[.func (.func g) #[] cap] 227);simpa using e
  ·have e:=μ ((w.alloc (.cells #[.pointer (some ⟨E.V,0,none⟩),.string r.key,.int .i64 r.b,.int .u64 r.s,.pointer r.ptr] 83)).alloc (.cells #[.func (.func g) #[] cap] 227)) (.cells #[.string ⟨#[]⟩,.string ⟨#[]⟩] 64);simpa using e
 rw[←hw1];clear hw1 q0 hqs hqs1 hqs2 hs1;have hT1':=Env.To.of0 HD.out hK1;have hq:=hK1.hp hq0;have hsl:=hsl0.keep0 hK1;clear hq0 hsl0 hB1;refine (zT7 198 _ vp (prs l.sub) (fun p=>f p.k) w1 hsl (by omega) HUP.out ?_ ?_).mono ?_
 ·intro args W;simp[go_sem,func198]
 ·intro W hKW i hi;exact xW1 g (w.heap.size+1) cap (prs l.sub)[i] (f (prs l.sub)[i].k) W (hKW.hp hF1) hcf (fun W' hK'=>HA.out W' _ ((hT1'.tail hKW).tail hK'))
 rintro e w2 ⟨rfl,hK2⟩;have hT2:=hT1'.tail hK2;have hR2:=hK2.hp hR1;have hq2:=hK2.hp hq;have hs2:=hsl.keep0 hK2;have hfi:(cont 0 l.sub).find? (fun q=>f q.k)=(prs l.sub)[(prs l.sub).findIdx (fun p=>f p.k)]?:=xW0;obtain⟨i,hi0⟩:∃ i,(prs l.sub).findIdx (fun p=>f p.k)=i:=⟨_,rfl⟩;rw[hi0] at hfi ⊢;have HFI:=zh hfi;have hile:i≤(prs l.sub).length:=by rw[←hi0];exact List.findIdx_le_length
 have hqs2:=ζ hq2;have hRs2:=ζ hR2;obtain⟨bs,cp,hv⟩:∃ bs cp,vp=.slice bs (prs l.sub).length cp:=by
  rcases hs2.val with⟨h0,b,c,h1,_⟩|⟨g,off,cap,cur,fr,h1,_⟩
  ·rw[h0];exact⟨b,c,h1⟩
  ·exact⟨_,cap,h1⟩
 subst hv;have y1:=ξ hq2 1;simp only[υ,zG,zH,zI] at y1;have z0:=ξ hR2;have fz0:=ρ hR2;have HT2:=zh hT2;have HR2:=zh hR2;clear hK2 hT2 hR2 hR1 hq hsl hq2 hF1 hT1' hfi hi0 hK1;by_cases hit:i<(prs l.sub).length
 ·have hib:(i:Int)<((prs l.sub).length:Int):=by omega
  obtain⟨gb,off,cp',cur,fr,hv,hcp,hrow,hcur⟩:=hs2.pair (by omega);simp only[Value.slice.injEq,true_and] at hv;obtain⟨rfl,rfl⟩:=hv;obtain⟨c0,c1⟩:=hcur i hit;obtain⟨p,hp⟩:∃ p,(prs l.sub)[i]=p:=⟨_,rfl⟩;rw[hp] at c0 c1;have HPI:Hid ((prs l.sub)[i]?=some p):=by show _=_;rw[List.getElem?_eq_getElem hit,hp]
  have a0:=ξ hrow (off+i*2);rw[c0] at a0;have a1:=ξ hrow (off+i*2+1);rw[c1] at a1;have hgs:=ζ hrow;clear hcur hs2 hrow hp;go_wp2;have hts:=qN1 (.string p.k) (.string p.v) HR2.out;have hT3:=HT2.out.store' (by omega) HR2.out (by decide) hts.2;have t0:=ξ hts.1 0;have t1:=ξ hts.1 1;simp only[zG,zH,zI] at t0 t1;refine bodyPost_ret (v:=qF7 (some p)) ?_ rfl ⟨by rw[HFI.out,HPI.out],hT3⟩;simp[results,results178,go_sem,t0,t1,qF7]
 ·have hib:¬(i:Int)<((prs l.sub).length:Int):=by omega
  clear hs2;have HPI:Hid ((prs l.sub)[i]?=none):=by show _=_;rw[List.getElem?_eq_none (by omega)]
  go_wp2;have hts:=qN1 (.string ⟨#[]⟩) (.string ⟨#[]⟩) HR2.out;have hT3:=HT2.out.store' (by omega) HR2.out (by decide) hts.2;have t0:=ξ hts.1 0;have t1:=ξ hts.1 1;simp only[zG,zH,zI] at t0 t1;refine bodyPost_ret (v:=qF7 none) ?_ rfl ⟨by rw[HFI.out,HPI.out],hT3⟩;simp[results,results178,go_sem,t0,t1,qF7]
theorem xW6(E:Env)(n:Nat)(g:Nat)(cap:Array Value)(f:ByteArray→Bool)(hup:Up f)(hcf:∀ (args:Array Value) (W:World),Sem.run prog (callFunc g args) W=.ok (.enter g args) W)
  (ih:∀ (r:HL) (l:Lnk (Tn n)) (q:Nat) (w:World),E.Dev w→RN E.O n w q l.sub→Good n l.key l.sub→1≤cnt n l.sub→Asks E w g cap f→Calls prog 178 #[φ E.V r,.pointer (some ⟨q,0,none⟩),.func (.func g) #[] cap] w fun e w'=>e=.returned (qF7 ((cont n l.sub).find? fun q=>f q.k))∧E.To w w')
  (r:HL) (l:Lnk (Tn (n+1))) (q:Nat) (w:World) (hd:E.Dev w) (hN:RN E.O (n+1) w q l.sub) (hg:Good (n+1) l.key l.sub) (hne:1≤cnt (n+1) l.sub) (ha:Asks E w g cap f):
  Calls prog 178 #[φ E.V r,.pointer (some ⟨q,0,none⟩),.func (.func g) #[] cap] w fun e w'=>e=.returned (qF7 ((cont (n+1) l.sub).find? fun q=>f q.k))∧E.To w w':=by
 have hmf:=zM;have hcl:(η l.sub).length≤10000:=(qK5 (n+1) l.key l.sub hg).1;have hne':1≤(η l.sub).length:=hne;have HSK:Hid ((cont (n+1) l.sub).find? (fun q=>f q.k)=(((η l.sub).drop ((η l.sub).findIdx (fun l=>f l.key)-1)).flatMap fun l=>cont n l.sub).find? (fun q=>f q.k)):=xW9 hup hg.row;have HGA:Hid (∀ z∈η l.sub,Good n z.key z.sub∧1≤cnt n z.sub):=fun z hz=>⟨(hg.all z hz).1,by have:=(hg.all z hz).2.1;omega⟩;have HPA:Hid ((η l.sub).Pairwise (qR8 n)):=hg.pair;have HUP:=zh hup;have HD:=zh hd;have HA:=zh ha;have HIH:=ih;clear hd hup ha hg hne ih;obtain⟨vl,hq0,hs,hsl0,hb0⟩:=hN;obtain⟨ls,hls⟩:∃ ls,η l.sub=ls:=⟨_,rfl⟩;rw[hls] at hb0 hcl hne' HSK HGA HPA;clear hls;have HBL:=zh hb0.1;have hhl:hs.length≤10000:=by rw[hb0.1];exact hcl
 have hh1:1≤hs.length:=by rw[hb0.1];exact hne'
 obtain⟨gb,off,cp,cur,fr,rfl,hcp,hrow0,hcur⟩:=hsl0.link hh1;obtain⟨lv,hlv⟩:∃ lv:Int,((n+1:Nat):Int)=lv:=⟨_,rfl⟩;rw[hlv] at hq0;have HLV:Hid (((n:Nat):Int)<lv):=by show _<_;omega
 have hlv0:¬lv=0:=by omega
 have hqs:=ζ hq0;have hqs1:q<w.heap.size+1:=by omega
 have hqs2:q<w.heap.size+1+1:=by omega
 have q0:=ξ hq0 0;simp only[υ,zG,zH,zI] at q0;have HB0:=zh hb0;have HSL0:=zh hsl0;have HCUR:=zh hcur;clear hb0 hsl0 hcur hlv;rw[φ];go_enter func178,ntmps178;go_wp2_with fail;obtain⟨w1,hw1,hB1,hF1,hR1,hK1,hs1⟩:∃ w1,w1=((w.alloc (.cells #[.pointer (some ⟨E.V,0,none⟩),.string r.key,.int .i64 r.b,.int .u64 r.s,.pointer r.ptr] 83)).alloc (.cells #[.func (.func g) #[] cap] 227)).alloc (.cells #[.string ⟨#[]⟩,.string ⟨#[]⟩] 64)∧w1.heap[w.heap.size]?=some (.cells #[.pointer (some ⟨E.V,0,none⟩),.string r.key,.int .i64 r.b,.int .u64 r.s,.pointer r.ptr] 83)∧w1.heap[w.heap.size+1]?=some (.cells #[.func (.func g) #[] cap] 227)∧w1.heap[w.heap.size+1+1]?=some (.cells #[.string ⟨#[]⟩,.string ⟨#[]⟩] 64)∧Kp [] w w1∧w1.heap.size=w.heap.size+3:=by
  refine⟨_,rfl,θ _ (θ _ (μ _ _)),θ _ ?_,?_,(((Kp.refl _ _).alloc _).alloc _).alloc _,by simp⟩
  ·have e:=μ (w.alloc (.cells #[.pointer (some ⟨E.V,0,none⟩),.string r.key,.int .i64 r.b,.int .u64 r.s,.pointer r.ptr] 83)) (.cells #[.func (.func g) #[] cap] 227);simpa using e
  ·have e:=μ ((w.alloc (.cells #[.pointer (some ⟨E.V,0,none⟩),.string r.key,.int .i64 r.b,.int .u64 r.s,.pointer r.ptr] 83)).alloc (.cells #[.func (.func g) #[] cap] 227)) (.cells #[.string ⟨#[]⟩,.string ⟨#[]⟩] 64);simpa using e
 rw[←hw1];clear hw1 q0 hqs hqs1 hqs2;have hT1':=Env.To.of0 HD.out hK1;have hq:=hK1.hp hq0;have hsl:=HSL0.out.keep0 hK1;have hrow:=hK1.hp hrow0;have hb:Both (RL E.O n w1) hs ls:=HB0.out.mono fun x y hr=>RL.keep hr hK1 (Apt.nil _ _);clear hq0 HSL0 hrow0 HB0;have HB:=zh hb;have HSL:=zh hsl;have hmap:hs.findIdx (fun p=>f p.key)=ls.findIdx (fun p=>f p.key):=by
  have e:hs.map HL.key=ls.map Lnk.key:=hb.map_eq fun x y hr=>hr.1;have h1:∀ (l:List HL),l.findIdx (fun l=>f l.key)=(l.map HL.key).findIdx f:=fun l=>by rw[List.findIdx_map];rfl
  have h2:∀ (l:List (Lnk (Tn n))),l.findIdx (fun l=>f l.key)=(l.map Lnk.key).findIdx f:=fun l=>by rw[List.findIdx_map];rfl
  rw[h1,h2,e]
 have HDN:Hid (∀ i j (hi:i<hs.length) (hj:j<hs.length),i≤j→(!f hs[j].key)=true→(!f hs[i].key)=true):=by
  show ∀ i j (hi:i<hs.length) (hj:j<hs.length),_;intro i j hi hj hij hp;by_cases e:i=j
  ·subst e;exact hp
  ·have hk:=(zE0 hb HPA.out).at hi hj (by omega);by_cases e2:f hs[i].key=true
   ·rw[HUP.out _ _ hk e2] at hp;cases hp
   ·simpa using e2
 obtain⟨i,hi0⟩:∃ i,ls.findIdx (fun p=>f p.key)-1=i:=⟨_,rfl⟩;have hil:i<hs.length:=by
  have:ls.findIdx (fun p=>f p.key)≤ls.length:=List.findIdx_le_length;have:=hb.1;omega
 have HLAST:Hid (∀ W,Kp [] w1 W→Calls prog 124 #[.slice (some ⟨gb,off,none⟩) hs.length cp,.func (.func 199) #[] #[.pointer (some ⟨w.heap.size+1,0,none⟩)]] W fun e w'=>e=.returned (.int .i64 (i:Nat))∧Kp [] W w'):=by
  show ∀ W,_;intro W hKW;have:=zW5 199 #[.pointer (some ⟨w.heap.size+1,0,none⟩)] (.slice (some ⟨gb,off,none⟩) hs.length cp) hs (fun p=>!f p.key) W (hsl.keep0 hKW) (by omega) HDN.out (fun args W=>by simp[go_sem,func199])
   (fun W2 hK2 j hj=>xW2 g (w.heap.size+1) cap hs[j] (f hs[j].key) W2 ((hKW.tr hK2).hp hF1) hcf (fun W' hK'=>HA.out W' _ ((hT1'.tail (hKW.tr hK2)).tail hK')))
  simp only[Bool.not_not] at this;rw[hmap,hi0] at this;exact this
 have HI0:=zh hi0;clear hK1 hb hsl hmap hi0;have hS0:w1.heap[q]?=some (υ lv (.slice none 0 0) (.slice (some ⟨gb,off,none⟩) hs.length cp)):=hq;refine wp_region_held_drew (S:=fun W=>W.heap[q]?=some (υ lv (.slice none 0 0) (.slice (some ⟨gb,off,none⟩) hs.length cp))) (by kernel_rfl) hS0 (fun _=>?_);refine zP 0 q 0 hS0 ?_;refine zP 1 q 0 hS0 ?_;refine zP 2 q 2 hS0 ?_;refine zV 3 (.slice (some ⟨gb,off,none⟩) hs.length cp) rfl (fun W hS=>by have c:=ξ hS 2;simp[υ] at c;clear hS;go_simp) hS0 ?_;refine zP 4 q 0 hS0 ?_;refine zP 5 q 0 hS0 ?_;refine zP 6 q 2 hS0 ?_;refine zV 7 (.slice (some ⟨gb,off,none⟩) hs.length cp) rfl (fun W hS=>by have c:=ξ hS 2;simp[υ] at c;clear hS;go_simp) hS0 ?_;refine zU 8 (.func (.func 199) #[] #[.pointer (some ⟨w.heap.size+1,0,none⟩)]) hS0 ?_;refine zU 12 (.int .i64 0) hS0 ?_;refine zq 9 fun K hK=>?_;go_simp;refine (HLAST.out w1.drew ((Kp.refl _ _).drew)).mono ?_;rintro e w2 ⟨rfl,hK2⟩;have hK2':Kp [] w1 w2:=((Kp.refl _ w1).drew).tr hK2;have hS2:=hK2'.hp hS0;refine hK.out _ _ hS2 (fun _=>?_);clear hK K hK2
 try simp only[zZ]
 have hicp:¬cp=i:=by omega
 have hji:(i:Int)≤(hs.length:Int):=by omega
 have hjc:(i:Int)≤(cp:Int):=by omega
 have hncp:(hs.length:Int)≤(cp:Int):=by omega
 refine zU 10 (.slice (some ⟨gb,off+i*4,none⟩) (hs.length-i) (cp-i)) hS2 ?_;obtain⟨m,hm⟩:∃ m,m=hs.length-i:=⟨_,rfl⟩;rw[←hm];refine zU 11 (.int .i64 m) hS2 ?_;refine zd ?_;have hT2:=hT1'.tail hK2';have HM:=zh hm;have HROW:=zh hrow;have HT2:=zh hT2;have HT1:=zh hT1';have HB2:Hid (w2.heap[w.heap.size]?=some (.cells #[.pointer (some ⟨E.V,0,none⟩),.string r.key,.int .i64 r.b,.int .u64 r.s,.pointer r.ptr] 83)):=hK2'.hp hB1;have HF2:Hid (w2.heap[w.heap.size+1]?=some (.cells #[.func (.func g) #[] cap] 227)):=hK2'.hp hF1;have HR2:Hid (w2.heap[w.heap.size+1+1]?=some (.cells #[.string ⟨#[]⟩,.string ⟨#[]⟩] 64)):=hK2'.hp hR1;have hml:i+m=hs.length:=by omega
 have HK12:=zh hK2';have HQ2:=zh hS2;clear hS2 hS0 hT2 hT1' hB1 hF1 hR1 hrow hK2' hq hm hicp hji hjc hncp;go_wp2
 go_loopw [52] (fun s wr=>∃ (j:Nat),j≤m∧s=.int .i64 j∧Hid ((((ls.drop i).take j).flatMap fun l=>cont n l.sub).find? (fun q=>f q.k)=none)∧Hid (E.To w wr)∧Hid (E.To w2 wr)∧wr.heap[w.heap.size]?=some (.cells #[.pointer (some ⟨E.V,0,none⟩),.string r.key,.int .i64 r.b,.int .u64 r.s,.pointer r.ptr] 83)∧wr.heap[w.heap.size+1]?=some (.cells #[.func (.func g) #[] cap] 227)∧wr.heap[w.heap.size+1+1]?=some (.cells #[.string ⟨#[]⟩,.string ⟨#[]⟩] 64)) (fun s _=>m-(intOf s).toNat)
 case atStart=>exact⟨0,Nat.zero_le _,rfl,(by simp:_=none),HT2.out,⟨HT2.out.dev,Kp.refl _ _⟩,HB2.out,HF2.out,HR2.out⟩
 case round=>
  obtain⟨j,hj,rfl,hnone,hTw,hT2w,hBw,hFw,hRw⟩:=hrel;by_cases hlt:j<m
  ·have hjb:(j:Int)<(m:Int):=by omega
   have hijl:i+j<ls.length:=by have:=HBL.out;omega
   obtain⟨z,hz⟩:∃ z,ls[i+j]?=some z:=⟨_,List.getElem?_eq_getElem hijl⟩;obtain⟨x,_,hrx,c0,c1,c2,c3⟩:=qR2 HB.out HCUR.out hz;have hrw:=hT2w.out.kp.heap (HK12.out.hp HROW.out) (fun hm=>E.apt w2 HT2.out.dev _ hm _ _ _ (HK12.out.hp HROW.out) (by decide));rw[show off+(i+j)*4=off+i*4+j*4 by omega] at c0 c1 c2 c3;have a0:=ξ hrw (off+i*4+j*4);rw[c0] at a0;have a1:=ξ hrw (off+i*4+j*4+1);rw[c1] at a1;have a2:=ξ hrw (off+i*4+j*4+2);rw[c2] at a2;have a3:=ξ hrw (off+i*4+j*4+3);rw[c3] at a3;have hgs:=ζ hrw;have hBs:=ζ hBw;have hFs:=ζ hFw;have hRs:=ζ hRw;have t0:=ξ hBw;have f0:=ξ hFw 0;simp only[zG,zH,zI] at f0;have HRX:=zh hrx;have HZ:=zh hz;have HZG:Hid (Good n z.key z.sub∧1≤cnt n z.sub):=HGA.out z (List.mem_of_getElem? hz);have hqr:=hT2w.out.kp.heap HQ2.out (fun hm=>E.apt w2 HT2.out.dev _ hm _ _ _ HQ2.out (by decide));have hT12:E.To w1 wr:=(Env.To.of0 HT1.out.dev HK12.out).trans hT2w.out;have HRXW:Hid (RL E.O n wr x z):=Env.RL HRX.out HT1.out.dev hT12;have hw2r:w2.heap.size≤wr.heap.size:=hT2w.out.kp.size;have hstep:((ls.drop i).take (j+1)).flatMap (fun l=>cont n l.sub)=((ls.drop i).take j).flatMap (fun l=>cont n l.sub)++cont n z.sub:=by
    have hd:(ls.drop i)[j]?=some z:=by rw[List.getElem?_drop];exact HZ.out
    obtain⟨hlt',he⟩:=List.getElem?_eq_some_iff.1 hd;rw[List.take_succ_eq_append_getElem hlt',he,List.flatMap_append];simp
   have HST:=zh hstep;clear hrx hz hrw hT12 c0 c1 c2 c3 hstep;go_wp2_with fail;clear a0 a1 a2 a3 hgs t0 f0 hBs hFs;obtain⟨w3,hw3,hX3,hK3⟩:∃ w3,w3=wr.alloc (.cells #[.string x.key,.int .i64 x.b,.int .u64 x.s,.pointer x.ptr] 81)∧w3.heap[wr.heap.size]?=some (.cells #[.string x.key,.int .i64 x.b,.int .u64 x.s,.pointer x.ptr] 81)∧Kp [] wr w3:=⟨_,rfl,μ _ _,(Kp.refl _ _).alloc _⟩;rw[←hw3];clear hw3;obtain⟨X,hX0⟩:∃ X,wr.heap.size=X:=⟨_,rfl⟩;rw[hX0] at hX3 hw2r hRs ⊢;have hXs:=ζ hX3;have hT3:=hTw.out.tail hK3;have hT23:=hT2w.out.tail hK3;have hR3:=hK3.hp hRw;have hRX3:RL E.O n w3 x z:=RL.keep HRXW.out hK3 (Apt.nil _ _);have hS0:w3.heap[w.heap.size]?=some (.cells #[.pointer (some ⟨E.V,0,none⟩),.string r.key,.int .i64 r.b,.int .u64 r.s,.pointer r.ptr] 83)∧w3.heap[w.heap.size+1]?=some (.cells #[.func (.func g) #[] cap] 227)∧w3.heap[X]?=some (.cells #[.string x.key,.int .i64 x.b,.int .u64 x.s,.pointer x.ptr] 81)∧w3.heap[q]?=some (υ lv (.slice none 0 0) (.slice (some ⟨gb,off,none⟩) hs.length cp)):=⟨hK3.hp hBw,hK3.hp hFw,hX3,hK3.hp hqr⟩;clear hK3 hX3 hBw hFw hRw hqr hX0 HRXW HRX;obtain⟨fk,fv,fb,hfv⟩:∃ fk fv fb,qF7 ((cont n z.sub).find? fun q=>f q.k)=.tuple #[.agg #[.string fk,.string fv],.bool fb]:=by
    cases (cont n z.sub).find? fun q=>f q.k with
    | none=>exact⟨_,_,_,rfl⟩
    | some p=>exact⟨_,_,_,rfl⟩
   have HFV:=zh hfv;clear hfv;refine wp_region_held_drew (S:=fun W=>W.heap[w.heap.size]?=some (.cells #[.pointer (some ⟨E.V,0,none⟩),.string r.key,.int .i64 r.b,.int .u64 r.s,.pointer r.ptr] 83)∧W.heap[w.heap.size+1]?=some (.cells #[.func (.func g) #[] cap] 227)∧W.heap[X]?=some (.cells #[.string x.key,.int .i64 x.b,.int .u64 x.s,.pointer x.ptr] 81)∧W.heap[q]?=some (υ lv (.slice none 0 0) (.slice (some ⟨gb,off,none⟩) hs.length cp))) (by kernel_rfl) hS0 (fun _=>?_);refine zW 0 (.agg #[.pointer (some ⟨E.V,0,none⟩),.string r.key,.int .i64 r.b,.int .u64 r.s,.pointer r.ptr]) hS0 (·.1) ?_;refine zW 1 (.agg #[.pointer (some ⟨E.V,0,none⟩),.string r.key,.int .i64 r.b,.int .u64 r.s,.pointer r.ptr]) hS0 (·.1) ?_;refine zW 2 (.agg #[.string x.key,.int .i64 x.b,.int .u64 x.s,.pointer x.ptr]) hS0 (·.2.2.1) ?_;refine zP 3 q 0 hS0 ?_;refine zP 4 q 0 hS0 ?_;refine zP 5 q 0 hS0 ?_;refine zV 6 (.int .i64 lv) rfl (fun W hS=>by have c:=ξ hS.2.2.2 0;simp[υ] at c;clear hS;go_simp) hS0 ?_;refine zV 8 (.func (.func g) #[] cap) rfl (fun W hS=>by have c:=ξ hS.2.1 0;simp only[zG,zH] at c;clear hS;go_simp) hS0 ?_;have hTd:E.To w w3.drew:=hT3.tail ((Kp.refl _ _).drew);have hT2d:E.To w2 w3.drew:=hT23.tail ((Kp.refl _ _).drew);have hRd:w3.drew.heap[w.heap.size+1+1]?=some (.cells #[.string ⟨#[]⟩,.string ⟨#[]⟩] 64):=hR3;have hSd:w3.drew.heap[w.heap.size]?=some (.cells #[.pointer (some ⟨E.V,0,none⟩),.string r.key,.int .i64 r.b,.int .u64 r.s,.pointer r.ptr] 83)∧w3.drew.heap[w.heap.size+1]?=some (.cells #[.func (.func g) #[] cap] 227)∧w3.drew.heap[X]?=some (.cells #[.string x.key,.int .i64 x.b,.int .u64 x.s,.pointer x.ptr] 81)∧w3.drew.heap[q]?=some (υ lv (.slice none 0 0) (.slice (some ⟨gb,off,none⟩) hs.length cp)):=hS0;have hRXd:RL E.O n w3.drew x z:=RL.keep hRX3 ((Kp.refl [] _).drew) (Apt.nil _ _);have hsd:X<w3.drew.heap.size:=hXs;clear hT3 hT23 hR3 hRX3;refine zr 7 13 (fun K hK=>?_) fun K hK=>?_
   ·go_simp;refine (qJ7 E n x r z lv w3.drew hTd.dev hRXd HLV.out).mono ?_;rintro e w4 ⟨q1,rfl,hN1,hTn⟩;have hT4:=hTd.trans hTn;have hT24:=hT2d.trans hTn;have hR4:=hTn.new (k:=w.heap.size+1+1) HD.out (by omega) hRd;have hS4:w4.heap[w.heap.size]?=some (.cells #[.pointer (some ⟨E.V,0,none⟩),.string r.key,.int .i64 r.b,.int .u64 r.s,.pointer r.ptr] 83)∧w4.heap[w.heap.size+1]?=some (.cells #[.func (.func g) #[] cap] 227)∧w4.heap[X]?=some (.cells #[.string x.key,.int .i64 x.b,.int .u64 x.s,.pointer x.ptr] 81)∧w4.heap[q]?=some (υ lv (.slice none 0 0) (.slice (some ⟨gb,off,none⟩) hs.length cp)):=⟨hTn.new (k:=w.heap.size) HD.out (by omega) hSd.1,hTn.new (k:=w.heap.size+1) HD.out (by omega) hSd.2.1,hTn.new (k:=X) HD.out (by omega) hSd.2.2.1,hTn.kp.heap (k:=q) hSd.2.2.2 (fun hm=>E.apt _ hTd.dev _ hm _ _ _ hSd.2.2.2 (by decide))⟩;refine hK.out _ _ hS4 (fun _=>?_);clear hK K
    try simp only[zZ]
    refine zr 9 13 (fun K hK=>?_) fun K hK=>?_
    ·go_simp;refine (HIH r z q1 w4 hT4.dev hN1 HZG.out.1 HZG.out.2 (HA.out.to hT4)).mono ?_;rintro e w5 ⟨rfl,hTn⟩;rw[HFV.out];have hT5:=hT4.trans hTn;have hT25:=hT24.trans hTn;have hR5:=hTn.new (k:=w.heap.size+1+1) HD.out (by omega) hR4;have hS5:w5.heap[w.heap.size]?=some (.cells #[.pointer (some ⟨E.V,0,none⟩),.string r.key,.int .i64 r.b,.int .u64 r.s,.pointer r.ptr] 83)∧w5.heap[w.heap.size+1]?=some (.cells #[.func (.func g) #[] cap] 227)∧w5.heap[X]?=some (.cells #[.string x.key,.int .i64 x.b,.int .u64 x.s,.pointer x.ptr] 81)∧w5.heap[q]?=some (υ lv (.slice none 0 0) (.slice (some ⟨gb,off,none⟩) hs.length cp)):=⟨hTn.new (k:=w.heap.size) HD.out (by omega) hS4.1,hTn.new (k:=w.heap.size+1) HD.out (by omega) hS4.2.1,hTn.new (k:=X) HD.out (by omega) hS4.2.2.1,hTn.kp.heap (k:=q) hS4.2.2.2 (fun hm=>E.apt _ hT4.dev _ hm _ _ _ hS4.2.2.2 (by decide))⟩;refine hK.out _ _ hS5 (fun _=>?_);clear hK K
     try simp only[zZ]
     refine zU 10 (.tuple #[.agg #[.string fk,.string fv],.bool fb]) hS5 ?_;refine zU 11 (.agg #[.string fk,.string fv]) hS5 ?_;refine zU 12 (.bool fb) hS5 ?_;refine zq 13 fun K hK=>?_;go_simp;obtain⟨w6,hwa,hP6,hKa⟩:∃ w',w'=w5.alloc (.cells #[.string ⟨#[]⟩,.string ⟨#[]⟩] 64)∧w'.heap[w5.heap.size]?=some (.cells #[.string ⟨#[]⟩,.string ⟨#[]⟩] 64)∧Kp [] w5 w':=⟨_,rfl,μ _ _,(Kp.refl _ _).alloc _⟩;rw[←hwa];clear hwa;have hT6:=hT5.tail hKa;have hT26:=hT25.tail hKa;have hR6:=hKa.hp hR5;have hS6:w6.heap[w.heap.size]?=some (.cells #[.pointer (some ⟨E.V,0,none⟩),.string r.key,.int .i64 r.b,.int .u64 r.s,.pointer r.ptr] 83)∧w6.heap[w.heap.size+1]?=some (.cells #[.func (.func g) #[] cap] 227)∧w6.heap[X]?=some (.cells #[.string x.key,.int .i64 x.b,.int .u64 x.s,.pointer x.ptr] 81)∧w6.heap[q]?=some (υ lv (.slice none 0 0) (.slice (some ⟨gb,off,none⟩) hs.length cp)):=⟨hKa.hp hS5.1,hKa.hp hS5.2.1,hKa.hp hS5.2.2.1,hKa.hp hS5.2.2.2⟩;refine hK.out _ _ hS6 (fun _=>?_);clear hK K
     try simp only[zZ]
     have hlb:X<w5.heap.size:=ζ hS5.2.2.1;have hPs:=ζ hP6;have z0:=ξ hP6;have fz0:=ρ hP6;refine zq 14 fun K hK=>?_;go_simp;have hts:=qN1 (.string fk) (.string fv) hP6;obtain⟨w7,hw7,hP7,hK7⟩:∃ w7,w7=(w6.setCell ⟨w5.heap.size,0,none⟩ (.string fk)).setCell ⟨w5.heap.size,1,none⟩ (.string fv)∧w7.heap[w5.heap.size]?=some (.cells #[.string fk,.string fv] 64)∧Kp [w5.heap.size] w6 w7:=⟨_,rfl,hts.1,hts.2⟩;rw[←hw7];clear hw7 hts z0 fz0;have hT7:=hT6.store' (by omega) hP6 (by decide) hK7;have hT27:=hT26.store' (by omega) hP6 (by decide) hK7;have hR7:=hK7.ho hR6;have hS7:w7.heap[w.heap.size]?=some (.cells #[.pointer (some ⟨E.V,0,none⟩),.string r.key,.int .i64 r.b,.int .u64 r.s,.pointer r.ptr] 83)∧w7.heap[w.heap.size+1]?=some (.cells #[.func (.func g) #[] cap] 227)∧w7.heap[X]?=some (.cells #[.string x.key,.int .i64 x.b,.int .u64 x.s,.pointer x.ptr] 81)∧w7.heap[q]?=some (υ lv (.slice none 0 0) (.slice (some ⟨gb,off,none⟩) hs.length cp)):=⟨hK7.ho hS6.1,hK7.ho hS6.2.1,hK7.ho hS6.2.2.1,hK7.heap hS6.2.2.2 (by intro hm;rw[List.mem_singleton.1 hm,hP6] at hS6;simp[υ] at hS6)⟩;refine hK.out _ _ hS7 (fun _=>?_);clear hK K
     try simp only[zZ]
     refine zq 15 fun K hK=>?_;go_simp;refine hK.out _ _ hS7 (fun _=>?_);clear hK K
     try simp only[zZ]
     refine zd ?_;have HT7:Hid (E.To w w7∧E.To w2 w7):=⟨hT7,hT27⟩;have HR7:Hid (w7.heap[w.heap.size]?=some (.cells #[.pointer (some ⟨E.V,0,none⟩),.string r.key,.int .i64 r.b,.int .u64 r.s,.pointer r.ptr] 83)∧w7.heap[w.heap.size+1]?=some (.cells #[.func (.func g) #[] cap] 227)∧w7.heap[w.heap.size+1+1]?=some (.cells #[.string ⟨#[]⟩,.string ⟨#[]⟩] 64)):=⟨hS7.1,hS7.2.1,hR7⟩;have hPs7:=ζ hP7;have hRs7:=ζ hR7;have y0:=ξ hP7;have z0:=ξ hR7;have fz0:=ρ hR7;clear hS7 hS6 hP6 hP7 hR7 hR6 hT7 hT27 hT6 hT26 hK7 hS0 hSd hRd hTd hT2d hRXd
     cases hfd:(cont n z.sub).find? (fun q=>f q.k) with
     | none=>
      have hfv:=HFV.out;rw[hfd] at hfv;simp only[qF7,Value.tuple.injEq,Array.mk.injEq,List.cons.injEq,Value.agg.injEq,Value.string.injEq,Value.bool.injEq,and_true] at hfv;obtain⟨⟨rfl,rfl⟩,rfl⟩:=hfv;have HFD:=zh hfd;clear hfd HFV;go_wp2;refine⟨⟨j+1,by omega,by go_num,?_,HT7.out.1,HT7.out.2,HR7.out.1,HR7.out.2.1,HR7.out.2.2⟩,by simp[intOf];omega⟩;show _=none;rw[HST.out,List.find?_append,hnone.out,HFD.out];rfl
     | some p=>
      have hfv:=HFV.out;rw[hfd] at hfv;simp only[qF7,Value.tuple.injEq,Array.mk.injEq,List.cons.injEq,Value.agg.injEq,Value.string.injEq,Value.bool.injEq,and_true] at hfv;obtain⟨⟨rfl,rfl⟩,rfl⟩:=hfv;have HFD:=zh hfd;clear hfd HFV;go_wp2;have hts:=qN1 (.string p.k) (.string p.v) HR7.out.2.2;have hT5:=HT7.out.1.store' (by omega) HR7.out.2.2 (by decide) hts.2;have t0:=ξ hts.1 0;have t1:=ξ hts.1 1;simp only[zG,zH,zI] at t0 t1;refine bodyPost_ret (v:=qF7 (some p)) ?_ rfl ⟨?_,hT5⟩
      ·simp[results,results178,go_sem,t0,t1,qF7]
      ·have hall:(ls.drop i).flatMap (fun l=>cont n l.sub)=((ls.drop i).take (j+1)).flatMap (fun l=>cont n l.sub)++((ls.drop i).drop (j+1)).flatMap (fun l=>cont n l.sub):=by rw[←List.flatMap_append,List.take_append_drop]
       rw[HSK.out,HI0.out,hall,HST.out,List.find?_append,List.find?_append,hnone.out,HFD.out];rfl
    ·go_simp;obtain⟨w5,hwa,hP5,hKa⟩:∃ w',w'=w4.alloc (.cells #[.string ⟨#[]⟩,.string ⟨#[]⟩] 64)∧w'.heap[w4.heap.size]?=some (.cells #[.string ⟨#[]⟩,.string ⟨#[]⟩] 64)∧Kp [] w4 w':=⟨_,rfl,μ _ _,(Kp.refl _ _).alloc _⟩;rw[←hwa];clear hwa;have hT5:=hT4.tail hKa;have hT25:=hT24.tail hKa;have hR5:=hKa.hp hR4;have hS5:w5.heap[w.heap.size]?=some (.cells #[.pointer (some ⟨E.V,0,none⟩),.string r.key,.int .i64 r.b,.int .u64 r.s,.pointer r.ptr] 83)∧w5.heap[w.heap.size+1]?=some (.cells #[.func (.func g) #[] cap] 227)∧w5.heap[X]?=some (.cells #[.string x.key,.int .i64 x.b,.int .u64 x.s,.pointer x.ptr] 81)∧w5.heap[q]?=some (υ lv (.slice none 0 0) (.slice (some ⟨gb,off,none⟩) hs.length cp)):=⟨hKa.hp hS4.1,hKa.hp hS4.2.1,hKa.hp hS4.2.2.1,hKa.hp hS4.2.2.2⟩;refine hK.out _ _ hS5 (fun _=>?_);clear hK K
     try simp only[zZ]
     have hlb:X<w4.heap.size:=ζ hS4.2.2.1;have hN1b:=RN.keep hKa (Apt.nil _ _) n q1 _ hN1;clear hN1;have hN1:=hN1b;refine zq 9 fun K hK=>?_;go_simp;refine (HIH r z q1 w5 hT5.dev hN1 HZG.out.1 HZG.out.2 (HA.out.to hT5)).mono ?_;rintro e w6 ⟨rfl,hTn⟩;rw[HFV.out];have hT6:=hT5.trans hTn;have hT26:=hT25.trans hTn;have hR6:=hTn.new (k:=w.heap.size+1+1) HD.out (by omega) hR5;have hS6:w6.heap[w.heap.size]?=some (.cells #[.pointer (some ⟨E.V,0,none⟩),.string r.key,.int .i64 r.b,.int .u64 r.s,.pointer r.ptr] 83)∧w6.heap[w.heap.size+1]?=some (.cells #[.func (.func g) #[] cap] 227)∧w6.heap[X]?=some (.cells #[.string x.key,.int .i64 x.b,.int .u64 x.s,.pointer x.ptr] 81)∧w6.heap[q]?=some (υ lv (.slice none 0 0) (.slice (some ⟨gb,off,none⟩) hs.length cp)):=⟨hTn.new (k:=w.heap.size) HD.out (by omega) hS5.1,hTn.new (k:=w.heap.size+1) HD.out (by omega) hS5.2.1,hTn.new (k:=X) HD.out (by omega) hS5.2.2.1,hTn.kp.heap (k:=q) hS5.2.2.2 (fun hm=>E.apt _ hT5.dev _ hm _ _ _ hS5.2.2.2 (by decide))⟩;refine hK.out _ _ hS6 (fun _=>?_);clear hK K
     try simp only[zZ]
     have hP6:=hTn.new HD.out (by omega) hP5;refine zU 10 (.tuple #[.agg #[.string fk,.string fv],.bool fb]) hS6 ?_;refine zU 11 (.agg #[.string fk,.string fv]) hS6 ?_;refine zU 12 (.bool fb) hS6 ?_;have hPs:=ζ hP6;have z0:=ξ hP6;have fz0:=ρ hP6;refine zq 14 fun K hK=>?_;go_simp;have hts:=qN1 (.string fk) (.string fv) hP6;obtain⟨w7,hw7,hP7,hK7⟩:∃ w7,w7=(w6.setCell ⟨w4.heap.size,0,none⟩ (.string fk)).setCell ⟨w4.heap.size,1,none⟩ (.string fv)∧w7.heap[w4.heap.size]?=some (.cells #[.string fk,.string fv] 64)∧Kp [w4.heap.size] w6 w7:=⟨_,rfl,hts.1,hts.2⟩;rw[←hw7];clear hw7 hts z0 fz0;have hT7:=hT6.store' (by omega) hP6 (by decide) hK7;have hT27:=hT26.store' (by omega) hP6 (by decide) hK7;have hR7:=hK7.ho hR6;have hS7:w7.heap[w.heap.size]?=some (.cells #[.pointer (some ⟨E.V,0,none⟩),.string r.key,.int .i64 r.b,.int .u64 r.s,.pointer r.ptr] 83)∧w7.heap[w.heap.size+1]?=some (.cells #[.func (.func g) #[] cap] 227)∧w7.heap[X]?=some (.cells #[.string x.key,.int .i64 x.b,.int .u64 x.s,.pointer x.ptr] 81)∧w7.heap[q]?=some (υ lv (.slice none 0 0) (.slice (some ⟨gb,off,none⟩) hs.length cp)):=⟨hK7.ho hS6.1,hK7.ho hS6.2.1,hK7.ho hS6.2.2.1,hK7.heap hS6.2.2.2 (by intro hm;rw[List.mem_singleton.1 hm,hP6] at hS6;simp[υ] at hS6)⟩;refine hK.out _ _ hS7 (fun _=>?_);clear hK K
     try simp only[zZ]
     refine zq 15 fun K hK=>?_;go_simp;refine hK.out _ _ hS7 (fun _=>?_);clear hK K
     try simp only[zZ]
     refine zd ?_;have HT7:Hid (E.To w w7∧E.To w2 w7):=⟨hT7,hT27⟩;have HR7:Hid (w7.heap[w.heap.size]?=some (.cells #[.pointer (some ⟨E.V,0,none⟩),.string r.key,.int .i64 r.b,.int .u64 r.s,.pointer r.ptr] 83)∧w7.heap[w.heap.size+1]?=some (.cells #[.func (.func g) #[] cap] 227)∧w7.heap[w.heap.size+1+1]?=some (.cells #[.string ⟨#[]⟩,.string ⟨#[]⟩] 64)):=⟨hS7.1,hS7.2.1,hR7⟩;have hPs7:=ζ hP7;have hRs7:=ζ hR7;have y0:=ξ hP7;have z0:=ξ hR7;have fz0:=ρ hR7;clear hS7 hS6 hP6 hP7 hR7 hR6 hT7 hT27 hT6 hT26 hK7 hS0 hSd hRd hTd hT2d hRXd
     cases hfd:(cont n z.sub).find? (fun q=>f q.k) with
     | none=>
      have hfv:=HFV.out;rw[hfd] at hfv;simp only[qF7,Value.tuple.injEq,Array.mk.injEq,List.cons.injEq,Value.agg.injEq,Value.string.injEq,Value.bool.injEq,and_true] at hfv;obtain⟨⟨rfl,rfl⟩,rfl⟩:=hfv;have HFD:=zh hfd;clear hfd HFV;go_wp2;refine⟨⟨j+1,by omega,by go_num,?_,HT7.out.1,HT7.out.2,HR7.out.1,HR7.out.2.1,HR7.out.2.2⟩,by simp[intOf];omega⟩;show _=none;rw[HST.out,List.find?_append,hnone.out,HFD.out];rfl
     | some p=>
      have hfv:=HFV.out;rw[hfd] at hfv;simp only[qF7,Value.tuple.injEq,Array.mk.injEq,List.cons.injEq,Value.agg.injEq,Value.string.injEq,Value.bool.injEq,and_true] at hfv;obtain⟨⟨rfl,rfl⟩,rfl⟩:=hfv;have HFD:=zh hfd;clear hfd HFV;go_wp2;have hts:=qN1 (.string p.k) (.string p.v) HR7.out.2.2;have hT5:=HT7.out.1.store' (by omega) HR7.out.2.2 (by decide) hts.2;have t0:=ξ hts.1 0;have t1:=ξ hts.1 1;simp only[zG,zH,zI] at t0 t1;refine bodyPost_ret (v:=qF7 (some p)) ?_ rfl ⟨?_,hT5⟩
      ·simp[results,results178,go_sem,t0,t1,qF7]
      ·have hall:(ls.drop i).flatMap (fun l=>cont n l.sub)=((ls.drop i).take (j+1)).flatMap (fun l=>cont n l.sub)++((ls.drop i).drop (j+1)).flatMap (fun l=>cont n l.sub):=by rw[←List.flatMap_append,List.take_append_drop]
       rw[HSK.out,HI0.out,hall,HST.out,List.find?_append,List.find?_append,hnone.out,HFD.out];rfl
   ·go_simp;obtain⟨w4,hwa,hP4,hKa⟩:∃ w',w'=(w3.alloc (.cells #[.string ⟨#[]⟩,.string ⟨#[]⟩] 64)).drew∧w'.heap[w3.heap.size]?=some (.cells #[.string ⟨#[]⟩,.string ⟨#[]⟩] 64)∧Kp [] w3.drew w':=⟨_,rfl,μ _ _,((Kp.refl _ w3.drew).alloc _)⟩;rw[←hwa];clear hwa;have hT4:=hTd.tail hKa;have hT24:=hT2d.tail hKa;have hR4:=hKa.hp hRd;have hS4:w4.heap[w.heap.size]?=some (.cells #[.pointer (some ⟨E.V,0,none⟩),.string r.key,.int .i64 r.b,.int .u64 r.s,.pointer r.ptr] 83)∧w4.heap[w.heap.size+1]?=some (.cells #[.func (.func g) #[] cap] 227)∧w4.heap[X]?=some (.cells #[.string x.key,.int .i64 x.b,.int .u64 x.s,.pointer x.ptr] 81)∧w4.heap[q]?=some (υ lv (.slice none 0 0) (.slice (some ⟨gb,off,none⟩) hs.length cp)):=⟨hKa.hp hSd.1,hKa.hp hSd.2.1,hKa.hp hSd.2.2.1,hKa.hp hSd.2.2.2⟩;refine hK.out _ _ hS4 (fun _=>?_);clear hK K
    try simp only[zZ]
    have hRX4:=RL.keep hRXd hKa (Apt.nil _ _);refine zq 7 fun K hK=>?_;go_simp;refine (qJ7 E n x r z lv w4 hT4.dev hRX4 HLV.out).mono ?_;rintro e w5 ⟨q1,rfl,hN1,hTn⟩;have hT5:=hT4.trans hTn;have hT25:=hT24.trans hTn;have hR5:=hTn.new (k:=w.heap.size+1+1) HD.out (by omega) hR4;have hS5:w5.heap[w.heap.size]?=some (.cells #[.pointer (some ⟨E.V,0,none⟩),.string r.key,.int .i64 r.b,.int .u64 r.s,.pointer r.ptr] 83)∧w5.heap[w.heap.size+1]?=some (.cells #[.func (.func g) #[] cap] 227)∧w5.heap[X]?=some (.cells #[.string x.key,.int .i64 x.b,.int .u64 x.s,.pointer x.ptr] 81)∧w5.heap[q]?=some (υ lv (.slice none 0 0) (.slice (some ⟨gb,off,none⟩) hs.length cp)):=⟨hTn.new (k:=w.heap.size) HD.out (by omega) hS4.1,hTn.new (k:=w.heap.size+1) HD.out (by omega) hS4.2.1,hTn.new (k:=X) HD.out (by omega) hS4.2.2.1,hTn.kp.heap (k:=q) hS4.2.2.2 (fun hm=>E.apt _ hT4.dev _ hm _ _ _ hS4.2.2.2 (by decide))⟩;refine hK.out _ _ hS5 (fun _=>?_);clear hK K
    try simp only[zZ]
    have hP5:=hTn.new HD.out (by omega) hP4;refine zq 9 fun K hK=>?_;go_simp;refine (HIH r z q1 w5 hT5.dev hN1 HZG.out.1 HZG.out.2 (HA.out.to hT5)).mono ?_;rintro e w6 ⟨rfl,hTn⟩;rw[HFV.out];have hT6:=hT5.trans hTn;have hT26:=hT25.trans hTn;have hR6:=hTn.new (k:=w.heap.size+1+1) HD.out (by omega) hR5;have hS6:w6.heap[w.heap.size]?=some (.cells #[.pointer (some ⟨E.V,0,none⟩),.string r.key,.int .i64 r.b,.int .u64 r.s,.pointer r.ptr] 83)∧w6.heap[w.heap.size+1]?=some (.cells #[.func (.func g) #[] cap] 227)∧w6.heap[X]?=some (.cells #[.string x.key,.int .i64 x.b,.int .u64 x.s,.pointer x.ptr] 81)∧w6.heap[q]?=some (υ lv (.slice none 0 0) (.slice (some ⟨gb,off,none⟩) hs.length cp)):=⟨hTn.new (k:=w.heap.size) HD.out (by omega) hS5.1,hTn.new (k:=w.heap.size+1) HD.out (by omega) hS5.2.1,hTn.new (k:=X) HD.out (by omega) hS5.2.2.1,hTn.kp.heap (k:=q) hS5.2.2.2 (fun hm=>E.apt _ hT5.dev _ hm _ _ _ hS5.2.2.2 (by decide))⟩;refine hK.out _ _ hS6 (fun _=>?_);clear hK K
    try simp only[zZ]
    have hP6:=hTn.new HD.out (by omega) hP5;have hlb:X<w3.heap.size:=hXs;refine zU 10 (.tuple #[.agg #[.string fk,.string fv],.bool fb]) hS6 ?_;refine zU 11 (.agg #[.string fk,.string fv]) hS6 ?_;refine zU 12 (.bool fb) hS6 ?_;have hPs:=ζ hP6;have z0:=ξ hP6;have fz0:=ρ hP6;refine zq 14 fun K hK=>?_;go_simp;have hts:=qN1 (.string fk) (.string fv) hP6;obtain⟨w7,hw7,hP7,hK7⟩:∃ w7,w7=(w6.setCell ⟨w3.heap.size,0,none⟩ (.string fk)).setCell ⟨w3.heap.size,1,none⟩ (.string fv)∧w7.heap[w3.heap.size]?=some (.cells #[.string fk,.string fv] 64)∧Kp [w3.heap.size] w6 w7:=⟨_,rfl,hts.1,hts.2⟩;rw[←hw7];clear hw7 hts z0 fz0;have hT7:=hT6.store' (by omega) hP6 (by decide) hK7;have hT27:=hT26.store' (by omega) hP6 (by decide) hK7;have hR7:=hK7.ho hR6;have hS7:w7.heap[w.heap.size]?=some (.cells #[.pointer (some ⟨E.V,0,none⟩),.string r.key,.int .i64 r.b,.int .u64 r.s,.pointer r.ptr] 83)∧w7.heap[w.heap.size+1]?=some (.cells #[.func (.func g) #[] cap] 227)∧w7.heap[X]?=some (.cells #[.string x.key,.int .i64 x.b,.int .u64 x.s,.pointer x.ptr] 81)∧w7.heap[q]?=some (υ lv (.slice none 0 0) (.slice (some ⟨gb,off,none⟩) hs.length cp)):=⟨hK7.ho hS6.1,hK7.ho hS6.2.1,hK7.ho hS6.2.2.1,hK7.heap hS6.2.2.2 (by intro hm;rw[List.mem_singleton.1 hm,hP6] at hS6;simp[υ] at hS6)⟩;refine hK.out _ _ hS7 (fun _=>?_);clear hK K
    try simp only[zZ]
    refine zq 15 fun K hK=>?_;go_simp;refine hK.out _ _ hS7 (fun _=>?_);clear hK K
    try simp only[zZ]
    refine zd ?_;have HT7:Hid (E.To w w7∧E.To w2 w7):=⟨hT7,hT27⟩;have HR7:Hid (w7.heap[w.heap.size]?=some (.cells #[.pointer (some ⟨E.V,0,none⟩),.string r.key,.int .i64 r.b,.int .u64 r.s,.pointer r.ptr] 83)∧w7.heap[w.heap.size+1]?=some (.cells #[.func (.func g) #[] cap] 227)∧w7.heap[w.heap.size+1+1]?=some (.cells #[.string ⟨#[]⟩,.string ⟨#[]⟩] 64)):=⟨hS7.1,hS7.2.1,hR7⟩;have hPs7:=ζ hP7;have hRs7:=ζ hR7;have y0:=ξ hP7;have z0:=ξ hR7;have fz0:=ρ hR7;clear hS7 hS6 hP6 hP7 hR7 hR6 hT7 hT27 hT6 hT26 hK7 hS0 hSd hRd hTd hT2d hRXd
    cases hfd:(cont n z.sub).find? (fun q=>f q.k) with
    | none=>
     have hfv:=HFV.out;rw[hfd] at hfv;simp only[qF7,Value.tuple.injEq,Array.mk.injEq,List.cons.injEq,Value.agg.injEq,Value.string.injEq,Value.bool.injEq,and_true] at hfv;obtain⟨⟨rfl,rfl⟩,rfl⟩:=hfv;have HFD:=zh hfd;clear hfd HFV;go_wp2;refine⟨⟨j+1,by omega,by go_num,?_,HT7.out.1,HT7.out.2,HR7.out.1,HR7.out.2.1,HR7.out.2.2⟩,by simp[intOf];omega⟩;show _=none;rw[HST.out,List.find?_append,hnone.out,HFD.out];rfl
    | some p=>
     have hfv:=HFV.out;rw[hfd] at hfv;simp only[qF7,Value.tuple.injEq,Array.mk.injEq,List.cons.injEq,Value.agg.injEq,Value.string.injEq,Value.bool.injEq,and_true] at hfv;obtain⟨⟨rfl,rfl⟩,rfl⟩:=hfv;have HFD:=zh hfd;clear hfd HFV;go_wp2;have hts:=qN1 (.string p.k) (.string p.v) HR7.out.2.2;have hT5:=HT7.out.1.store' (by omega) HR7.out.2.2 (by decide) hts.2;have t0:=ξ hts.1 0;have t1:=ξ hts.1 1;simp only[zG,zH,zI] at t0 t1;refine bodyPost_ret (v:=qF7 (some p)) ?_ rfl ⟨?_,hT5⟩
     ·simp[results,results178,go_sem,t0,t1,qF7]
     ·have hall:(ls.drop i).flatMap (fun l=>cont n l.sub)=((ls.drop i).take (j+1)).flatMap (fun l=>cont n l.sub)++((ls.drop i).drop (j+1)).flatMap (fun l=>cont n l.sub):=by rw[←List.flatMap_append,List.take_append_drop]
      rw[HSK.out,HI0.out,hall,HST.out,List.find?_append,List.find?_append,hnone.out,HFD.out];rfl
  ·have hjb:¬(j:Int)<(m:Int):=by omega
   have hRs:=ζ hRw;have z0:=ξ hRw;have fz0:=ρ hRw;have HRW:=zh hRw;clear hBw hFw hRw;go_wp2;have hts:=qN1 (.string ⟨#[]⟩) (.string ⟨#[]⟩) HRW.out;have hT3:=hTw.out.store' (by omega) HRW.out (by decide) hts.2;have t0:=ξ hts.1 0;have t1:=ξ hts.1 1;simp only[zG,zH,zI] at t0 t1;refine bodyPost_ret (v:=qF7 none) ?_ rfl ⟨?_,hT3⟩
   ·simp[results,results178,go_sem,t0,t1,qF7]
   ·have hx:=hnone.out;rw[List.take_of_length_le (by have:=HBL.out;simp;omega)] at hx;rw[HSK.out,HI0.out,hx]
theorem xW8(E:Env)(g:Nat)(cap:Array Value)(f:ByteArray→Bool)(hup:Up f)(hcf:∀ (args:Array Value) (W:World),Sem.run prog (callFunc g args) W=.ok (.enter g args) W):∀ (n:Nat) (r:HL) (l:Lnk (Tn n)) (q:Nat) (w:World),E.Dev w→RN E.O n w q l.sub→Good n l.key l.sub→1≤cnt n l.sub→Asks E w g cap f→
  Calls prog 178 #[φ E.V r,.pointer (some ⟨q,0,none⟩),.func (.func g) #[] cap] w fun e w'=>e=.returned (qF7 ((cont n l.sub).find? fun q=>f q.k))∧E.To w w':=by
 intro n
 induction n with
 | zero=>intro r l q w hd hr hg _ ha;exact xW7 E r l q g cap f w hd hr hg hup ha hcf
 | succ n ih=>intro r l q w hd hr hg hc ha;exact xW6 E n g cap f hup hcf (fun r l q w hd hr hg h1 ha=>ih r l q w hd hr hg h1 ha) r l q w hd hr hg hc ha
theorem jQ9(E:Env)(r:Root)(h:HL)(g:Nat)(cap:Array Value)(f:ByteArray→Bool)(w:World)(hd:E.Dev w)(hR:RR E w h r)(hg:RGood r)(hup:Up f)(ha:Asks E w g cap f)
  (hcf:∀ (args:Array Value) (W:World),Sem.run prog (callFunc g args) W=.ok (.enter g args) W):
  Calls prog 142 #[φ E.V h,.func (.func g) #[] cap] w fun e w'=>e=.returned (qF7 (r.cont.find? fun q=>f q.k))∧E.To w w':=by
 have HD:=zh hd;have HRR:=zh hR;have HG:=zh hg;have HA:=zh ha;have HUP:=zh hup;clear hd hR hg ha hup;rw[φ];go_enter func142,ntmps142;go_wp2_with fail;obtain⟨w0,hw0,hB0,hR0,hK0,hs0⟩:∃ w0,w0=(w.alloc (.cells #[.pointer (some ⟨E.V,0,none⟩),.string h.key,.int .i64 h.b,.int .u64 h.s,.pointer h.ptr] 83)).alloc (.cells #[.string ⟨#[]⟩,.string ⟨#[]⟩] 64)∧w0.heap[w.heap.size]?=some (.cells #[.pointer (some ⟨E.V,0,none⟩),.string h.key,.int .i64 h.b,.int .u64 h.s,.pointer h.ptr] 83)∧w0.heap[w.heap.size+1]?=some (.cells #[.string ⟨#[]⟩,.string ⟨#[]⟩] 64)∧Kp [] w w0∧w0.heap.size=w.heap.size+2:=by
  refine⟨_,rfl,θ _ (μ _ _),?_,((Kp.refl _ _).alloc _).alloc _,by simp⟩;have e:=μ (w.alloc (.cells #[.pointer (some ⟨E.V,0,none⟩),.string h.key,.int .i64 h.b,.int .u64 h.s,.pointer h.ptr] 83)) (.cells #[.string ⟨#[]⟩,.string ⟨#[]⟩] 64);simpa using e
 rw[←hw0];clear hw0;have hT0:=Env.To.of0 HD.out hK0
 cases r with
 | none=>
  have hh:h=⟨⟨#[]⟩,0,0,none⟩:=HRR.out;have hem:Calls prog 85 #[φ E.V h] w0 fun e w'=>e=.returned (.bool true)∧Kp [] w0 w':=by rw[hh];exact zB0 E.V w0
  have HEM:=zh hem;clear hh hem;refine (show Calls _ _ _ _ _ from HEM.out).mono ?_;rintro e w1 ⟨rfl,hK1⟩;have hT1:=hT0.tail hK1;have hR1:=hK1.hp hR0;have hRs:=ζ hR1;have z0:=ξ hR1;have fz0:=ρ hR1;have HR1:=zh hR1;clear hR1 hB0 hR0 hK0 hK1 hT0;go_wp2;have hts:=qN1 (.string ⟨#[]⟩) (.string ⟨#[]⟩) HR1.out;have hT3:=hT1.store' (by omega) HR1.out (by decide) hts.2;have t0:=ξ hts.1 0;have t1:=ξ hts.1 1;simp only[zG,zH,zI] at t0 t1;refine bodyPost_ret (v:=qF7 none) ?_ rfl ⟨rfl,hT3⟩;simp[results,results142,go_sem,t0,t1,qF7]
 | «at» n l=>
  have hRL:RL E.O n w h l:=HRR.out;obtain⟨g1,g2,g3⟩:=HG.out;refine (qZ3 E n h l w0 (Env.RL hRL HD.out hT0) g1).mono ?_;rintro e w1 ⟨rfl,hK1⟩;have hT1:=hT0.tail hK1;have hB1:=hK1.hp hB0;have hR1:=hK1.hp hR0;have HRL1:Hid (RL E.O n w1 h l):=Env.RL hRL HD.out hT1;have HG2:=zh g2;have hc1:1≤cnt n l.sub:=by omega
  obtain⟨fk,fv,fb,hfv⟩:∃ fk fv fb,qF7 ((cont n l.sub).find? fun q=>f q.k)=.tuple #[.agg #[.string fk,.string fv],.bool fb]:=by
   cases (cont n l.sub).find? fun q=>f q.k with
   | none=>exact⟨_,_,_,rfl⟩
   | some p=>exact⟨_,_,_,rfl⟩
  have HFV:=zh hfv;clear hB0 hR0 hK0 hT0 hK1 hfv hRL g2;go_wp2_with fail;have hS0:w1.heap[w.heap.size]?=some (.cells #[.pointer (some ⟨E.V,0,none⟩),.string h.key,.int .i64 h.b,.int .u64 h.s,.pointer h.ptr] 83):=hB1;refine wp_region_held_drew (S:=fun W=>W.heap[w.heap.size]?=some (.cells #[.pointer (some ⟨E.V,0,none⟩),.string h.key,.int .i64 h.b,.int .u64 h.s,.pointer h.ptr] 83)) (by kernel_rfl) hS0 (fun _=>?_);refine zW 0 (.agg #[.pointer (some ⟨E.V,0,none⟩),.string h.key,.int .i64 h.b,.int .u64 h.s,.pointer h.ptr]) hS0 id ?_;refine zW 1 (.agg #[.pointer (some ⟨E.V,0,none⟩),.string h.key,.int .i64 h.b,.int .u64 h.s,.pointer h.ptr]) hS0 id ?_;refine zU 3 (.func (.func g) #[] cap) hS0 ?_;refine zq 2 fun K hK=>?_;go_simp;have hTd:E.To w w1.drew:=hT1.tail ((Kp.refl _ _).drew);refine (qY6 E n h l w1.drew hTd.dev (RL.keep HRL1.out ((Kp.refl [] _).drew) (Apt.nil _ _))).mono ?_;rintro e w2 ⟨q,rfl,hN2,hTn⟩;have hT2:=hTd.trans hTn;have hS2:=hTn.new (k:=w.heap.size) HD.out (by omega) hS0;have hR2:=hTn.new (k:=w.heap.size+1) HD.out (by omega) hR1;refine hK.out _ _ hS2 (fun _=>?_);clear hK K
  try simp only[zZ]
  clear hTn hTd hS0 hR1 hB1;refine zq 4 fun K hK=>?_;go_simp;refine (xW8 E g cap f HUP.out hcf n h l q w2 hT2.dev hN2 HG2.out hc1 (HA.out.to hT2)).mono ?_;rintro e w3 ⟨rfl,hTn⟩;rw[HFV.out];have hT3:=hT2.trans hTn;have hS3:=hTn.new (k:=w.heap.size) HD.out (by omega) hS2;have hR3:=hTn.new (k:=w.heap.size+1) HD.out (by omega) hR2;refine hK.out _ _ hS3 (fun _=>?_);clear hK K
  try simp only[zZ]
  clear hTn hS2 hR2;refine zU 5 (.agg #[.string fk,.string fv]) hS3 ?_;refine zU 6 (.bool fb) hS3 ?_;have hRs:=ζ hR3;have z0:=ξ hR3;have fz0:=ρ hR3;refine zq 7 fun K hK=>?_;go_simp;have hts:=qN1 (.string fk) (.string fv) hR3;obtain⟨w4,hw4,hR4,hK4⟩:∃ w4,w4=(w3.setCell ⟨w.heap.size+1,0,none⟩ (.string fk)).setCell ⟨w.heap.size+1,1,none⟩ (.string fv)∧w4.heap[w.heap.size+1]?=some (.cells #[.string fk,.string fv] 64)∧Kp [w.heap.size+1] w3 w4:=⟨_,rfl,hts.1,hts.2⟩;rw[←hw4];clear hw4 hts z0 fz0;have hT4:=hT3.store' (by omega) hR3 (by decide) hK4;have hS4:=hK4.hp hS3;refine hK.out _ _ hS4 (fun _=>?_);clear hK K
  try simp only[zZ]
  refine zq 8 fun K hK=>?_;go_simp;refine hK.out _ _ hS4 (fun _=>?_);clear hK K
  try simp only[zZ]
  refine zd ?_;have HT4:=zh hT4;clear hS4 hS3 hT4 hT3 hK4 hR3;go_wp2;have t0:=ξ hR4 0;have t1:=ξ hR4 1;simp only[zG,zH,zI] at t0 t1;refine bodyPost_ret (v:=.tuple #[.agg #[.string fk,.string fv],.bool fb]) ?_ rfl ⟨?_,HT4.out⟩
  ·simp[results,results142,go_sem,t0,t1]
  ·rw[show (Root.at n l).cont=cont n l.sub from rfl,HFV.out]
structure Tx where
 St:Nat
 nr:Int
 wrt:Bool
 over:Bool
 on:Option Addr
 h:HL
 ch:Int
def qA6(t:Tx):Obj:=
 .cells #[.pointer (some ⟨t.St,0,none⟩),.int .u64 t.nr,.bool t.wrt,.bool t.over,.pointer t.on,.string t.h.key,.int .i64 t.h.b,.int .u64 t.h.s,.pointer t.h.ptr,.int .u64 t.ch] 85
theorem zR1(args:Array Value)(W:World):Sem.run prog (callFunc 64 args) W=.ok (.enter 64 args) W:=by
 simp[go_sem,func64]
theorem zU7(k:Option Int)(S F x f:Nat)(t:Tx)(first cap:Array Value)(w:World)(R:World→Prop)(hS:w.heap[S]?=some (.cells #[.pointer (some ⟨x,0,none⟩)] 29))(hF:w.heap[F]?=some (.cells #[.func (.func f) first cap] 1))(hx:w.heap[x]?=some (qA6 t))(ho:t.over=false)
  (hcf:∀ W:World,Sem.run prog (callFunc f (first++cap)) W=.ok (.enter f (first++cap)) W)
  (hw:Calls prog f (first++cap) w fun e w'=>e=qD1 k∧R w'):
  Calls prog 64 #[.pointer (some ⟨S,0,none⟩),.pointer (some ⟨F,0,none⟩)] w fun e w'=>e=qD1 k∧R w':=by
 have s0:=ξ hS 0;have f0:=ξ hF 0;have p2:=ξ hx 3;simp[ho] at s0 f0 p2;clear hS hF hx;have HW:=zh hw;clear hw;go_enter func64,ntmps64;go_wp2_with fail;refine (show Calls _ _ _ _ _ from HW.out).mono ?_;rintro e w1 ⟨rfl,hR⟩
 cases k with
 | none=>
  simp only[qD1];go_wp2
  go_end0
  exact⟨rfl,hR⟩
 | some k=>
  simp only[qD1];go_wp2;exact⟨rfl,rfl,hR⟩
theorem xK4(k:Option Int)(hk8:k≠some 8)(x St f:Nat)(t:Tx)(s s':Sto)(first cap:Array Value)(call:ByteArray)(X:List Nat)(Q:World→World→Prop)(w:World)(hx:w.heap[x]?=some (qA6 t))(htS:t.St=St)(hSt:w.heap[St]?=some (τ 0 s))(hpo:s.po=false)(hX:∀ i,i∈X→i<w.heap.size)
  (hw:∀ W:World,Kp [St] w W→W.heap[St]?=some (τ 1 s)→W.heap[w.heap.size]?=some (.cells #[.pointer (some ⟨x,0,none⟩)] 29)→W.heap[w.heap.size+1]?=some (.cells #[.func (.func f) first cap] 1)→Calls prog 64 #[.pointer (some ⟨w.heap.size,0,none⟩),.pointer (some ⟨w.heap.size+1,0,none⟩)] W fun e w1=>e=qD1 k∧Q W w1∧Kp (St::X) W w1∧w1.heap[St]?=some (τ 1 s')):
  Calls prog 38 #[.pointer (some ⟨x,0,none⟩),.string call,.func (.func f) first cap] w fun e w'=>∃ v,e=.returned v∧qI9 w' v k∧w'.heap[St]?=some (τ 0 s')∧Kp (St::X) w w'∧∃ W w1 B,Q W w1∧Kp [St] w W∧w.heap.size≤B∧B<W.heap.size∧w1.heap[B]?=some (.cells #[.nilIface] 35)∧Kp [St,B] w1 w':=by
 have hmf:=zM;have HW:=zh hw;have HX:=zh hX;have HK8:=zh hk8;have HPO:=zh hpo;clear hw hX hk8 hpo;have hSs:=ζ hSt;have hxs:=ζ hx;subst htS;have d0:=ξ (θ (.cells #[.func (Fn.func f) first cap] 1) (θ (.cells #[.pointer (some ⟨x,0,none⟩)] 29) hx)) 0;simp only[zG,zH] at d0;go_enter func38,ntmps38;go_wp2_with fail;obtain⟨W0,hW0,hK0,hs0,hB0,hF0⟩:∃ W0,W0=(w.alloc (.cells #[.pointer (some ⟨x,0,none⟩)] 29)).alloc (.cells #[.func (Fn.func f) first cap] 1)∧Kp [] w W0∧W0.heap.size=w.heap.size+2∧W0.heap[w.heap.size]?=some (.cells #[.pointer (some ⟨x,0,none⟩)] 29)∧W0.heap[w.heap.size+1]?=some (.cells #[.func (Fn.func f) first cap] 1):=by
  refine⟨_,rfl,((Kp.refl _ _).alloc _).alloc _,by simp,θ _ (μ _ _),?_⟩;have e:=μ (w.alloc (.cells #[.pointer (some ⟨x,0,none⟩)] 29)) (.cells #[.func (Fn.func f) first cap] 1);simpa using e
 rw[←hW0];clear hW0;have hSt0:=hK0.hp hSt;refine (zG1 k HK8.out t.St 64 s s' #[] #[.pointer (some ⟨w.heap.size,0,none⟩),.pointer (some ⟨w.heap.size+1,0,none⟩)] _ X Q W0 hSt0 HPO.out (zR1 _) (fun i hi=>by have:=HX.out i hi;omega) ?_).mono ?_
 ·intro W hK hS;exact HW.out W ((hK0.mono (S':=[t.St]) (by simp)).trans hK (fun _ h _=>h)) hS (hK.ho hB0) (hK.ho hF0)
 rintro e w2 ⟨v,rfl,hv,hSt2,hK2,W,w1,B,hQ,hKW,hB1,hB2,hB3,hKB⟩;have HV:=zh hv;have HR:Hid (Q W w1∧Kp [t.St,B] w1 w2):=⟨hQ,hKB⟩;clear hv hQ hKB;go_wp2;go_ret;exact⟨v,rfl,HV.out,hSt2,(hK0.mono (S':=t.St::X) (by simp)).trans hK2 (fun _ h _=>h),W,w1,B,HR.out.1,(hK0.mono (S':=[t.St]) (by simp)).trans hKW (fun _ h _=>h),by omega,hB2,hB3,HR.out.2⟩
theorem qX3(k:Option Int)(hk8:k≠some 8)(x St f:Nat)(t:Tx)(s s':Sto)(first cap:Array Value)(call:ByteArray)(X:List Nat)(Q:World→World→Prop)(w:World)(hx:w.heap[x]?=some (qA6 t))(ho:t.over=false)(htS:t.St=St)(hSt:w.heap[St]?=some (τ 0 s))(hpo:s.po=false)(hne:x≠St)
  (hcf:∀ W:World,Sem.run prog (callFunc f (first++cap)) W=.ok (.enter f (first++cap)) W) (hX:∀ i,i∈X→i<w.heap.size)
  (hw:∀ W:World,Kp [St] w W→W.heap[St]?=some (τ 1 s)→Calls prog f (first++cap) W fun e w1=>e=qD1 k∧Q W w1∧Kp (St::X) W w1∧w1.heap[St]?=some (τ 1 s')):
  Calls prog 38 #[.pointer (some ⟨x,0,none⟩),.string call,.func (.func f) first cap] w fun e w'=>∃ v,e=.returned v∧qI9 w' v k∧w'.heap[St]?=some (τ 0 s')∧Kp (St::X) w w'∧∃ W w1 B,Q W w1∧Kp [St] w W∧w.heap.size≤B∧B<W.heap.size∧w1.heap[B]?=some (.cells #[.nilIface] 35)∧Kp [St,B] w1 w':=
 xK4 k hk8 x St f t s s' first cap call X Q w hx htS hSt hpo hX fun W hK hS hB hF=>
  zU7 k _ _ x f t first cap W (fun w1=>Q W w1∧Kp (St::X) W w1∧w1.heap[St]?=some (τ 1 s')) hB hF (hK.heap hx (by simp;exact hne)) ho hcf (hw W hK hS)
end Go.Proofs.YtdohpenfkdckiabGreatDoor
namespace Go.Proofs.YtdohpenfkdckiabGreatDoor
open Go.Proofs.Tryz
open Go.RowKit
open Go.Maps (Keyed)
open Go.ChangeMaps
theorem zM6(V:Nat)(b s:Int)(w:World):
  Calls prog 74 #[.pointer (some ⟨V,0,none⟩),.agg #[.int .i64 b,.int .u64 s]] w fun e w'=>e=.returned (φ V ⟨⟨#[]⟩,b,s,none⟩)∧Kp [] w w':=by
 go_enter func74,ntmps74;go_wp2;refine bodyPost_ret (results_cell_row results74 _ _ (w.heap.size+1) 83 #[.pointer (some ⟨V,0,none⟩),.string ⟨#[]⟩,.int .i64 b,.int .u64 s,.pointer none] (0,0) _ rfl ?_ underlying83 rfl (by kernel_rfl)) rfl ⟨rfl,((Kp.refl _ _).alloc _).alloc _⟩;have e:=μ (w.alloc (.cells #[.int .i64 b,.int .u64 s] 78)) (.cells #[.pointer (some ⟨V,0,none⟩),.string ⟨#[]⟩,.int .i64 b,.int .u64 s,.pointer none] 83);simpa using e
theorem qY2(St:Nat)(lk:Int)(s:Sto)(w:World)(hSt:w.heap[St]?=some (τ lk s)):
  Calls prog 46 #[.pointer (some ⟨St,0,none⟩)] w fun e w'=>e=.returned (φ s.V ⟨⟨#[]⟩,s.rb,s.rs,none⟩)∧Kp [] w w':=by
 have hSs:=ζ hSt;have HS:=zh hSt;clear hSt;go_enter func46,ntmps46;go_wp2_with fail;obtain⟨w0,hw0,hR0,hK0⟩:∃ w0,w0=w.alloc (.cells #[.pointer none,.string ⟨#[]⟩,.int .i64 0,.int .u64 0,.pointer none] 83)∧w0.heap[w.heap.size]?=some (.cells #[.pointer none,.string ⟨#[]⟩,.int .i64 0,.int .u64 0,.pointer none] 83)∧Kp [] w w0:=⟨_,rfl,μ _ _,(Kp.refl _ _).alloc _⟩;rw[←hw0];clear hw0;have hS0:=hK0.hp HS.out;refine wp_region_held_drew (S:=fun W=>W.heap[St]?=some (τ lk s)) (by kernel_rfl) hS0 (fun _=>?_);refine zP 0 St 0 hS0 ?_;refine zP 1 St 0 hS0 ?_;refine zP 2 St 2 hS0 ?_;refine zV 3 (.pointer (some ⟨s.V,0,none⟩)) rfl (fun W hS=>by have c:=ξ hS 2;simp only[τ,zG,zH,zI] at c;clear hS;go_simp) hS0 ?_;refine zP 4 St 0 hS0 ?_;refine zP 5 St 0 hS0 ?_;refine zP 6 St 3 hS0 ?_;refine zP 7 St 4 hS0 ?_;refine zV 8 (.agg #[.int .i64 s.rb,.int .u64 s.rs]) rfl (fun W hS=>by have c:=ξ hS 4;have d:=ξ hS 5;simp only[τ,zG,zH,zI] at c d;clear hS;go_simp) hS0 ?_;refine zq 9 fun K hK=>?_;go_simp;refine (zM6 s.V s.rb s.rs w0.drew).mono ?_;rintro e w1 ⟨rfl,hK1⟩;have hK1':Kp [] w0 w1:=((Kp.refl _ w0).drew).tr hK1;have hS1:=hK1'.hp hS0;have hR1:=hK1'.hp hR0;have hRs:=ζ hR1;refine hK.out _ _ hS1 (fun _=>?_);clear hK K hK1
 try simp only[zZ]
 have r0:=ξ hR1;have fr0:=ρ hR1;refine zq 10 fun K hK=>?_;rw[φ];go_simp;have hts:=qK8 (.pointer (some ⟨s.V,0,none⟩)) (.string ⟨#[]⟩) (.int .i64 s.rb) (.int .u64 s.rs) (.pointer none) hR1;obtain⟨w2,hw2,hR2,hK2⟩:∃ w2,w2=((((w1.setCell ⟨w.heap.size,0,none⟩ (.pointer (some ⟨s.V,0,none⟩))).setCell ⟨w.heap.size,1,none⟩ (.string ⟨#[]⟩)).setCell ⟨w.heap.size,2,none⟩ (.int .i64 s.rb)).setCell ⟨w.heap.size,3,none⟩ (.int .u64 s.rs)).setCell ⟨w.heap.size,4,none⟩ (.pointer none)∧w2.heap[w.heap.size]?=some (.cells #[.pointer (some ⟨s.V,0,none⟩),.string ⟨#[]⟩,.int .i64 s.rb,.int .u64 s.rs,.pointer none] 83)∧Kp [w.heap.size] w1 w2:=⟨_,rfl,hts.1,hts.2⟩;have hptr:HL.ptr ⟨⟨#[]⟩,s.rb,s.rs,none⟩=none:=rfl
 try simp only[hptr]
 rw[←hw2];clear hw2 hts r0 fr0;have hS2:=hK2.ho hS1;refine hK.out _ _ hS2 (fun _=>?_);clear hK K;refine zd ?_;have HK2:Hid (Kp [] w w2):=(hK0.tr hK1').trans hK2 (by intro i hi hlt;simp at hi;omega);clear hS2 hS1 hS0 hR1 hK2 hK1' hK0 hR0;go_wp2;exact bodyPost_ret (results_cell_row results46 _ _ (w.heap.size) 83 #[.pointer (some ⟨s.V,0,none⟩),.string ⟨#[]⟩,.int .i64 s.rb,.int .u64 s.rs,.pointer none] (0,0) _ rfl hR2 underlying83 rfl (by kernel_rfl)) rfl ⟨rfl,HK2.out⟩
def qT6(V:Nat):Value→Option (DataW Unit × List MemPlace)
 | .agg c=>match c.toList with
  | [.pointer (some a),.string k,.int .i64 x,.int .u64 y,.pointer none]=>if a.block=V∧a.off=0∧a.spot=none then some (.agg [.lit (.string k.data.toList),.lit (.int .i64 x),.lit (.int .u64 y)],[]) else none
  | _=>none
 | _=>none
def RM(w:World)(V M n:Nat)(D:DataW Unit):Prop:=w.ownsMap prog 75 (qT6 V) M n D
theorem qM9:Keyed prog 75:=Maps.int_keyed underlying75
theorem RM.kp{S:List Nat}{w w':World}{V M n:Nat}{D:DataW Unit}(h:RM w V M n D)(hK:Kp S w w')(hM:M ∉ S):RM w' V M n D:=by
 obtain⟨es,cl,hb,hf⟩:=h;exact⟨es,cl,hK.heap hb hM,hf⟩
theorem Kp.turned{w w':World}{M:Nat}(h:w.mapTurned w' M):Kp [M] w w':=
 (Kp.refl [M] w).grown h.grown (fun k hk=>by cases hk;exact .inl (by simp))
theorem qX7:prog.underlying 124=some (.map 75 83):=underlying124
def qA4(n:Int):Lit:=.int .u64 n
theorem zV7{n:Int}(h0:0≤n)(h1:n≤1000000000):keyOf prog 75 (.int .u64 n)=some (qA4 n):=
 Maps.keyOf_int_mk underlying75 (by simp[Lit.wf,IntKind.min,IntKind.max,IntKind.signed,IntKind.bits];omega)
theorem RM.len{w:World}{V M n:Nat}{D:DataW Unit}(h:RM w V M n D)(ty:TypeId):(Builtin.len_ #[124] ty #[.map (some M)]).run prog w=.ok (.int .i64 (Maps.size D)) w:=
 World.ownsMap.len h qX7 ty
theorem RM.drop{w:World}{V M n:Nat}{D:DataW Unit}(h:RM w V M n D){x:Int}(h0:0≤x)(h1:x≤1000000000)(ty:TypeId):
  ∃ w',(Builtin.delete_ #[124,75] ty #[.map (some M),.int .u64 x]).run prog w=.ok (.tuple #[]) w'∧RM w' V M n (D.del (qA4 x))∧Kp [M] w w':=by
 obtain⟨w',h1,h2,h3⟩:=World.ownsMap.drop h qM9 qX7 (zV7 h0 h1) ty;exact⟨w',h1,h2,Kp.turned h3⟩
def qF1(h:HL):DataW Unit:=.agg [.lit (.string h.key.data.toList),.lit (.int .i64 h.b),.lit (.int .u64 h.s)]
theorem RM.store{w:World}{V M n:Nat}{D:DataW Unit}(h:RM w V M n D){x:Int}(h0:0≤x)(h1:x≤1000000000)(hn:n≤1000000000)(r:HL)(hr:r.p=none):
  ∃ w',(Instr.mapUpdate 124 (.map (some M)) (.int .u64 x) (φ V r)).run prog w=.ok () w'∧RM w' V M (n+1) (D.put (qA4 x) (qF1 r))∧Kp [M] w w':=by
 have hv:qT6 V (φ V r)=some (qF1 r,[]):=by
  have hp:r.ptr=none:=by simp[HL.ptr,hr]
  rw[φ,hp];simp[qT6,qF1]
 obtain⟨w',h1,h2,h3⟩:=World.ownsMap.store h qM9 qX7 (by simp[maxLen];omega) (zV7 h0 h1) hv;exact⟨w',h1,h2,Kp.turned h3⟩
end Go.Proofs.YtdohpenfkdckiabGreatDoor
namespace Go.Proofs.YtdohpenfkdckiabGreatDoor
open Go.Proofs.Tryz
open Go.RowKit
def Sto.wrote(s:Sto):Sto:={ s with bg:=s.bg+1,wr:=s.bg+1 }
def Sto.read(s:Sto):Sto:={ s with bg:=s.bg+1 }
def Sto.left(s:Sto)(nr:Int):Sto:={ s with wr:=if nr=s.wr then 0 else s.wr }
theorem xV4(St:Nat)(s:Sto)(w:World)(hSt:w.heap[St]?=some (τ 1 s))(hwr:s.wr=0)(h0:0≤s.bg)(h1:s.bg≤100000000):
  Calls prog 47 #[.pointer (some ⟨St,0,none⟩),.bool true] w fun e w'=>e=.returned (.int .u64 (s.bg+1))∧w'.heap[St]?=some (τ 1 s.wrote)∧Kp [St] w w':=by
 have hSs:=ζ hSt;have p8:=ξ hSt 8;have p9:=ξ hSt 9;simp only[τ,zG,zH,zI] at p8 p9;have f8:=ρ hSt;rw[hwr] at p9;have HS:=zh hSt;clear hSt;go_enter func47,ntmps47;go_wp2;go_ret;exact⟨rfl,ω (ω HS.out 8 _) 9 _,((Kp.refl _ _).sc _).sc _⟩
theorem xV3(St n:Nat)(s:Sto)(D:DataW Unit)(w:World)(hSt:w.heap[St]?=some (τ 1 s))(hM:RM w s.V s.M n D)(h4:Maps.size D<4)(hn:n≤100000000)(h0:0≤s.bg)(h1:s.bg≤100000000)(hne:s.M≠St):
  Calls prog 47 #[.pointer (some ⟨St,0,none⟩),.bool false] w fun e w'=>e=.returned (.int .u64 (s.bg+1))∧w'.heap[St]?=some (τ 1 s.read)∧RM w' s.V s.M (n+1) (D.put (qA4 (s.bg+1)) (qF1 ⟨⟨#[]⟩,s.rb,s.rs,none⟩))∧Kp [St,s.M] w w':=by
 have hSs:=ζ hSt;have p8:=ξ hSt 8;have p10:=ξ hSt 10;simp only[τ,zG,zH,zI] at p8 p10;have f8:=ρ hSt 8;have hl:=hM.len 3;have h4':¬((Maps.size D:Nat):Int)=4:=by omega
 have HM:=zh hM;have HN:=zh hne;have HS:=zh hSt;clear hSt hM h4 hne;go_enter func47,ntmps47;go_wp2_with fail;obtain⟨w0,hw0,hS0,hK0⟩:∃ w0,w0=w.setCell ⟨St,8,none⟩ (.int .u64 (s.bg+1))∧w0.heap[St]?=some (τ 1 s.read)∧Kp [St] w w0:=⟨_,rfl,ω HS.out 8 _,(Kp.refl _ _).sc _⟩;rw[←hw0];clear hw0;have hM0:=HM.out.kp hK0 (by simp;exact HN.out);have hMs:=hM0;refine wp_region_held_drew (S:=fun W=>W.heap[St]?=some (τ 1 s.read)) (by kernel_rfl) hS0 (fun _=>?_);refine zP 0 St 0 hS0 ?_;refine zP 1 St 0 hS0 ?_;refine zP 2 St 10 hS0 ?_;refine zV 3 (.map (some s.M)) rfl (fun W hS=>by have c:=ξ hS 10;simp only[τ,Sto.read,zG,zH,zI] at c;clear hS;go_simp) hS0 ?_;refine zP 4 St 0 hS0 ?_;refine zP 5 St 0 hS0 ?_;refine zP 6 St 8 hS0 ?_;refine zV 7 (.int .u64 (s.bg+1)) rfl (fun W hS=>by have c:=ξ hS 8;simp only[τ,Sto.read,zG,zH,zI] at c;clear hS;go_simp) hS0 ?_;refine zP 8 St 0 hS0 ?_;refine zq 9 fun K hK=>?_;go_simp;refine (qY2 St 1 s.read w0.drew hS0).mono ?_;rintro e w1 ⟨rfl,hK1⟩;have hK1':Kp [] w0 w1:=((Kp.refl _ w0).drew).tr hK1;have hS1:=hK1'.hp hS0;have hM1:=hM0.kp hK1' (by simp);refine hK.out _ _ hS1 (fun _=>?_);clear hK K hK1
 try simp only[zZ]
 obtain⟨w2,hr2,hM2,hK2⟩:=hM1.store (x:=s.bg+1) (by omega) (by omega) (by omega) ⟨⟨#[]⟩,s.rb,s.rs,none⟩ rfl;have hS2:=hK2.heap hS1 (by simp;exact fun h=>HN.out h.symm);refine zq 10 fun K hK=>?_;have hVe:φ s.read.V ⟨⟨#[]⟩,s.read.rb,s.read.rs,none⟩=φ s.V ⟨⟨#[]⟩,s.rb,s.rs,none⟩:=rfl;rw[hVe];rw[φ] at hr2 ⊢;go_simp;refine hK.out _ _ hS2 (fun _=>?_);clear hK K;refine zd ?_;have HR:Hid (RM w2 s.V s.M (n+1) (D.put (qA4 (s.bg+1)) (qF1 ⟨⟨#[]⟩,s.rb,s.rs,none⟩))∧Kp [St,s.M] w w2):=⟨hM2,((hK0.mono (S':=[St,s.M]) (by simp +contextual)).tr hK1').trans hK2 (by simp +contextual)⟩;have HS2:=zh hS2;have hS2s:=ζ hS2;have q8:=ξ hS2 8;simp only[τ,Sto.read,zG,zH,zI] at q8;clear hS2 hS1 hS0 hM2 hM1 hM0 hMs hK2 hK1' hK0 hr2;go_wp2;go_ret;exact⟨rfl,HS2.out,HR.out.1,HR.out.2⟩
theorem jH8(St n:Nat)(s:Sto)(nr:Int)(D:DataW Unit)(w:World)(hSt:w.heap[St]?=some (τ 1 s))(hM:RM w s.V s.M n D)(h0:0≤nr)(h1:nr≤1000000000)(hne:s.M≠St):
  Calls prog 65 #[.pointer (some ⟨St,0,none⟩),.int .u64 nr] w fun e w'=>e=.returned (.tuple #[])∧w'.heap[St]?=some (τ 1 (s.left nr))∧RM w' s.V s.M n (D.del (qA4 nr))∧Kp [St,s.M] w w':=by
 have hSs:=ζ hSt;by_cases hw:nr=s.wr
 ·obtain⟨w0,hw0,hS0,hK0⟩:∃ w0,w0=w.setCell ⟨St,9,none⟩ (.int .u64 0)∧w0.heap[St]?=some (τ 1 (s.left nr))∧Kp [St] w w0:=⟨_,rfl,by rw[Sto.left,if_pos hw];exact ω hSt 9 _,(Kp.refl _ _).sc _⟩;have hM0:=hM.kp hK0 (by simp;exact hne);obtain⟨w1,hr1,hM1,hK1⟩:=hM0.drop h0 h1 0;have HE:Hid (w1.heap[St]?=some (τ 1 (s.left nr))∧RM w1 s.V s.M n (D.del (qA4 nr))∧Kp [St,s.M] w w1):=⟨hK1.heap hS0 (by simp;exact fun h=>hne h.symm),hM1,(hK0.mono (by simp +contextual)).trans hK1 (by simp +contextual)⟩;have p9:=ξ hSt 9;have p10:=ξ hSt 10;simp only[τ,zG,zH,zI] at p9 p10;have q10:=ξ hS0 10;simp only[τ,Sto.left,zG,zH,zI] at q10;have f9:=ρ hSt 9;rw[hw0] at q10 hr1;rw[←hw] at p9;clear hSt hM hS0 hM0 hM1 hK0 hK1 hne hw0 hw;go_enter func65,ntmps65;go_wp2
  go_end0
  exact⟨rfl,HE.out⟩
 ·obtain⟨w1,hr1,hM1,hK1⟩:=hM.drop h0 h1 0;have HE:Hid (w1.heap[St]?=some (τ 1 (s.left nr))∧RM w1 s.V s.M n (D.del (qA4 nr))∧Kp [St,s.M] w w1):=⟨by rw[Sto.left,if_neg hw];exact hK1.heap hSt (by simp;exact fun h=>hne h.symm),hM1,hK1.mono (by simp +contextual)⟩;have p9:=ξ hSt 9;have p10:=ξ hSt 10;simp only[τ,zG,zH,zI] at p9 p10;have hwb:(nr == s.wr)=false:=by simp[hw]
  clear hSt hM hM1 hK1 hne;go_enter func65,ntmps65;go_wp2
  go_end0
  exact⟨rfl,HE.out⟩
end Go.Proofs.YtdohpenfkdckiabGreatDoor
