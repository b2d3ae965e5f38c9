import Derived.Test.YtdohpenfkdckiabGreatDoorP01
set_option linter.all false
set_option maxRecDepth 100000
set_option maxHeartbeats 20000000
namespace Go.Proofs.YtdohpenfkdckiabGreatDoor
open Go.Proofs.Tryz
open Go.RowKit
variable {κ:Nat}
def qE9(l:List UInt8):List Int:=l.map (fun b=>(b.toNat:Int))
def toB(xs:List Int):List UInt8:=xs.map (fun x=>UInt8.ofNat x.toNat)
theorem zF3(l:List UInt8):(qE9 l).length=l.length:=by simp[qE9]
theorem xM6(l:List UInt8):∀ x∈qE9 l,0≤x∧x<256:=by
 intro x hx;simp[qE9] at hx;obtain⟨b,_,rfl⟩:=hx;have:=b.toNat_lt;omega
theorem qP1(xs:List Int)(h:∀ x∈xs,0≤x∧x<256):qE9 (toB xs)=xs:=by
 simp only[qE9,toB,List.map_map]
 conv=>rhs;rw[←List.map_id xs]
 apply List.map_congr_left;intro x hx;have:=h x hx;simp[UInt8.toNat_ofNat'];omega
theorem xS2(l:List UInt8):qD8 l=u8s (qE9 l):=by simp[qD8,u8s,qE9]
theorem zE2(xs:List Int)(h:∀ x∈xs,0≤x∧x<256):u8s xs=qD8 (toB xs):=by rw[xS2,qP1 xs h]
theorem jS7(N rb rs:Int):∀ x∈qE3 N rb rs,0≤x∧x<256:=by
 intro x hx;simp only[qE3,qL0,List.mem_append] at hx;rcases hx with (((hx|hx)|hx)|hx)|hx
 ·simp[qH3] at hx;omega
 ·exact qJ5 _ _ x hx
 ·exact qJ5 _ _ x hx
 ·exact qJ5 _ _ x hx
 ·exact qJ5 _ _ x hx
theorem zC4{w:World}{base:Nat}{v:Value}{N rb rs:Int}(h:w.ownsRow base 5 1 v 32 (u8s (qE3 N rb rs))):∃ g cap cur,v=.slice (some ⟨g,0,none⟩) 32 cap∧w.heap[g]?=some (.cells cur 5)∧32≤cur.size∧qA1 cur 0 32=enc (toB (qE3 N rb rs)):=by
 obtain⟨_,h2⟩:=h;rcases h2 with⟨_,h0⟩|⟨g,cap,cur,rfl,_,hg,h1,_,hs,ht⟩
 ·cases h0
 ·refine⟨g,cap,cur,rfl,hg,by omega,?_⟩;rw[zE2 _ (jS7 N rb rs)] at ht;simp[qA1,enc,←ht]
theorem xC6(G off n cap:Nat)(bl:List UInt8)(t:TypeId)(w:World)(hG:w.heap[G]?=some (.cells (enc bl) t))(hn:off+n≤bl.length)(hb:n≤1000000):
  Calls prog 152 #[.slice (some ⟨G,off,none⟩) n cap] w fun e w'=>e=.returned (.int .u64 (qE6 (qE9 ((bl.drop off).take n))))∧w'=w:=by
 have hl:((bl.drop off).take n).length=n:=by simp;omega
 refine qU7 G off n cap _ w (by rw[zF3,hl]) hb (fun j hj=>?_);rw[ξ hG,←qX5 (cs:=enc bl) hj,qI8];have hj':j<((bl.drop off).take n).length:=by omega
 generalize (bl.drop off).take n=s at *;simp[enc,qD8,qE9,List.getD_eq_getElem?_getD,List.getElem?_eq_getElem hj']
theorem qN3{P:Program}{fn:Func}{p u:Tmp}{ty:TypeId}(h:fn.results=#[.cell p ty,.tmp u])(tmps:Array Value)(w:World)(g:Nat)(t:TypeId)(cs:Array Value)(fr:Nat × Nat)(d:TypeDesc)
  (hp:tmps.getD p undef=.pointer (some ⟨g,0,none⟩)) (hg:w.heap[g]?=some (.cells cs t fr))
  (hu:P.underlying ty=some d) (hd:(match d with | .struct _ | .array _ _=>true | _=>false)=true) (hi:(P.info? ty).map (·.size)=some cs.size):
  (results fn tmps).run P w=.ok (.tuple #[.agg cs,tmps.getD u undef]) w:=by
 rw[results_cell_tmp h,hp];simp[asAddr,run_loadVar_row w g t ty cs fr d hg hu hd hi]
theorem zV0(V A n C:Nat)(calls writes:Int)(i:Nat)(l:List UInt8)(N rb rs:Int)(w:World)(hV:w.heap[V]?=some (qC8 A n))(h:w.heap[A]?=some (qA8 κ n C (.slice none 0 0) calls writes))(h0:0≤calls)(h1:calls≤1000000000)
  (hi:i<n) (hn:n≤1000) (hC:w.heap[C]?=some (.cells (enc l) 87)) (hs:n*128≤l.length) (hAC:C≠A) (hVA:V≠A)
  (hN:qE6 (qE9 (((χ l i).drop 8).take 8))=N) (hrb:qE6 (qE9 (((χ l i).drop 6).take 2))=rb) (hrs:qE6 (qE9 (((χ l i).drop 16).take 8))=rs)
  (hN0:0≤N) (hrb0:0≤rb) (hrb1:rb≤65535) (hrs0:0≤rs) (q:Bool) (hq:q=(decide (N % 2=(i:Int)) && (toB (qE3 N rb rs) == (χ l i).take 32))):
  Calls prog 111 #[.pointer (some ⟨V,0,none⟩),.int .i64 i] w fun e w'=>e=.returned (.tuple #[if q then qI0 N rb rs else qI0 0 0 0,.bool q])∧
   w'.heap[A]?=some (qA8 κ n C (.slice none 0 0) (calls+1) writes)∧Kp [A] w w':=by
 have hbl:(χ l i).length=128:=by simp[χ];omega
 obtain⟨bl,hb0⟩:∃ bl,χ l i=bl:=⟨_,rfl⟩;rw[hb0] at hN hrb hrs hq hbl;have HB:=zh hb0;have HQ:=zh hq;clear hb0 hq;have hVs:=ζ hV;have hA:=ζ h;have hCs:=ζ hC;go_enter func111,ntmps111;go_wp2_with fail;refine (jH3 V A n C calls writes i l _ (θ _ hV) (θ _ h) h0 h1 hi hn (θ _ hC) hs hAC hVA).mono ?_;rintro e w1 ⟨rfl,hA1,hK1⟩;rw[HB.out];have hes:(enc bl).size=128:=by rw[qD2,hbl]
 go_wp2_with fail;have hN1:=μ w1 (.cells zeroCells223 223);have hR:w1.heap[w.heap.size]?=some (.cells #[.int .u64 0,.int .i64 0,.int .u64 0] 116):=hK1.heap (μ _ _) (by simp;omega);have hK1':Kp [A] w w1:=((Kp.refl _ _).alloc _).tr hK1;have hRs:=ζ hR;have hA1s:=ζ hA1;rw[qI9 hN1 (by simp[qF5,hes]) (qF9 bl).one];rw[show (enc bl).toList.toArray=enc bl from by simp,qH1 (by rw[qF5,hes])];obtain⟨W2,hW2,hK2,hA2,hR2,hG2,hs2⟩:∃ W2,W2=(w1.alloc (.cells zeroCells223 223)).setRow w1.heap.size (enc bl)∧Kp [A] w W2∧W2.heap[A]?=some (qA8 κ n C (.slice none 0 0) (calls+1) writes)∧
   W2.heap[w.heap.size]?=some (.cells #[.int .u64 0,.int .i64 0,.int .u64 0] 116)∧W2.heap[w1.heap.size]?=some (.cells (enc bl) 223)∧W2.heap.size=w1.heap.size+1:=
  ⟨_,rfl,(hK1'.alloc _).setRow (Or.inr hK1'.size) _,(setRow_other _ _ _ _ (by omega)).trans (θ _ hA1),(setRow_other _ _ _ _ (by omega)).trans (θ _ hR),setRow_heap _ _ _ _ _ _ hN1,by simp[World.setRow]⟩
 rw[←hW2];clear hW2 hN1 hR hK1 hK1' hA1;generalize hgen:w1.heap.size=G at *;clear hgen;go_wp2_with fail;have hwr:IntKind.i64.wrap rb=rb:=by simp only[IntKind.wrap_i64];omega
 rename_i Q0 K0 hK0;have key:K0 { tmps:=#[Value.pointer (some ⟨V,0,none⟩),Value.int .i64 ↑i,undef,undef,Value.pointer (some ⟨w.heap.size,0,none⟩),Value.bool false,
     Value.pointer (some ⟨G,0,none⟩),Value.pointer (some ⟨G+1,0,none⟩),Value.pointer (some ⟨V,0,none⟩),Value.int .i64 ↑i,Value.agg (enc bl),
     Value.slice (some ⟨G,8,none⟩) 8 120,Value.int .u64 N,Value.slice (some ⟨G,6,none⟩) 2 122,Value.int .u64 rb,
     Value.int .i64 rb,Value.slice (some ⟨G,16,none⟩) 8 112,Value.int .u64 rs,Value.agg #[.int .i64 rb,.int .u64 rs],
     Value.agg #[.int .u64 N,.int .i64 rb,.int .u64 rs],undef,undef,undef,undef,undef,undef,undef,undef,undef,undef,undef,undef,undef],defers:=[] }
   (W2.alloc (.cells #[.int .u64 N,.int .i64 rb,.int .u64 rs] 116)).drew:=by
  refine hK0 _ _ ?_;clear hK0 K0 hwr;obtain⟨W3,hW3,hK3,hA3,hR3,hG3,hH3⟩:∃ W3,W3=(W2.alloc (.cells #[.int .u64 N,.int .i64 rb,.int .u64 rs] 116)).drew∧Kp [A] w W3∧W3.heap[A]?=some (qA8 κ n C (.slice none 0 0) (calls+1) writes)∧
    W3.heap[w.heap.size]?=some (.cells #[.int .u64 0,.int .i64 0,.int .u64 0] 116)∧W3.heap[G]?=some (.cells (enc bl) 223)∧W3.heap[G+1]?=some (.cells #[.int .u64 N,.int .i64 rb,.int .u64 rs] 116):=
   ⟨_,rfl,(hK2.alloc _).drew,θ _ hA2,θ _ hR2,θ _ hG2,by rw[←hs2];exact μ W2 _⟩
  rw[←hW3];clear hW3 hK2 hA2 hR2 hG2 hN hrb hrs hs2;have e0:=ξ hH3 0;have e1:=ξ hH3 1;have e2:=ξ hH3 2;simp at e0 e1 e2;have hG1s:=ζ hH3;by_cases hp:N % 2=(i:Int)
  ·have hpb:(N % 2 != (i:Int))=false:=by simp[hp]
   go_wp2_with fail
   go_region_with (first
    | (go_at_call 137;go_must (refine (qU8 N rb rs _ hN0).mono ?_;rintro e w4 ⟨rfl,hB4⟩;have hH4:=(hB4.block (G+1) hG1s).trans hH3;have hG4:=(hB4.block G (by have:=hG1s;show G<W3.heap.size;omega)).trans hG3;have g0:=ξ hH4 0;have g1:=ξ hH4 1;have g2:=ξ hH4 2;simp at g0 g1 g2))
    | (go_at_call 135;go_must (refine (zD1 N rb rs _ hN0 hrb0 hrb1 hrs0).mono ?_;rintro e w5 ⟨v5,rfl,hO5,hB5⟩;obtain⟨g5,cap5,cur5,rfl,hg5,hcs5,hp5⟩:=zC4 hO5;have hG5:=(hB5.block G (ζ hG4)).trans hG4))
    | (go_at_call 153;go_must (refine (zU3 g5 0 32 cap5 G 0 128 (toB (qE3 N rb rs)) (bl.take 32) _ 5 223 cur5 (enc bl) (0,0) (0,0) hg5 hG5 hp5 (by rw[qI8,List.drop_zero]) (by omega) (by omega)).mono ?_;rintro e w6 ⟨rfl,rfl⟩)))
   have hB4':Kp [] W3.drew w4:=Kp.of_below hB4 (Nat.le_refl _);have hB5':Kp [] w4 w6:=Kp.of_below hB5 (Nat.le_refl _);have hR5:=hB5'.heap (hB4'.heap (k:=w.heap.size) hR3 (by simp)) (by simp);have hA5:=hB5'.heap (hB4'.heap (k:=A) hA3 (by simp)) (by simp);have hH5:=hB5'.hp hH4;have hK5:Kp [A] w w6:=((hK3.drew).tr hB4').tr hB5';clear hB4 hB4' hB5 hB5' g0 g1 g2 e0 e1 e2 hG5 hp5 hO5 hG4 hH4 hg5 hcs5 hpb;have r0:=ξ hR5 0;have r1:=ξ hR5 1;have r2:=ξ hR5 2;have s0:=ξ hH5 0;have s1:=ξ hH5 1;have s2:=ξ hH5 2;simp at r0 r1 r2 s0 s1 s2;have rf:=ψ hR5;have hqq:q=(toB (qE3 N rb rs) == bl.take 32):=by rw[HQ.out];simp[hp]
   clear HQ hp;have HQ2:=zh hqq;clear hqq;simp only[zZ];by_cases hE:(toB (qE3 N rb rs) == bl.take 32)=true
   ·have hq1:q=true:=by rw[HQ2.out];exact hE
    subst hq1;clear HQ2;simp only[hE,Bool.not_true];go_wp2;have hfin:=φ (φ (φ hR5 0 (.int .u64 N)) 1 (.int .i64 rb)) 2 (.int .u64 rs);refine bodyPost_ret (qN3 results111 _ _ w.heap.size 116 _ _ _ rfl hfin underlying116 rfl (by kernel_rfl)) rfl ⟨rfl,?_,((hK5.sc _).sc _).sc _⟩;exact (qA9 (by omega) _ _).trans ((qA9 (by omega) _ _).trans ((qA9 (by omega) _ _).trans hA5))
   ·have hE':(toB (qE3 N rb rs) == bl.take 32)=false:=by simpa using hE
    have hq1:q=false:=by rw[HQ2.out];exact hE'
    subst hq1;clear HQ2 hE;simp only[hE',Bool.not_false];go_wp2;have hfin:=φ (φ (φ hR5 0 (.int .u64 0)) 1 (.int .i64 0)) 2 (.int .u64 0);refine bodyPost_ret (qN3 results111 _ _ w.heap.size 116 _ _ _ rfl hfin underlying116 rfl (by kernel_rfl)) rfl ⟨rfl,?_,((hK5.sc _).sc _).sc _⟩;exact (qA9 (by omega) _ _).trans ((qA9 (by omega) _ _).trans ((qA9 (by omega) _ _).trans hA5))
  ·have hpb:(N % 2 != (i:Int))=true:=by simp[hp]
   have hq0:q=false:=by rw[HQ.out];simp[hp]
   clear hp HQ;subst hq0;go_wp2_with fail;refine wp_region_any (by kernel_rfl) ?_;change wpAny _ _ _ _ _ _ _ (World.drew _);refine wpAny_take (i:=2) (v:=.int .i64 i) rfl (by kernel_rfl) (by kernel_rfl) (by kernel_rfl) (fun _ _ _ h=>h) (Or.inl ⟨by rfl,fun W=>rfl⟩) ?_;simp only[zZ];refine zQ 0 fun K hK=>?_;refine qJ0 rfl (qK7 (t:=116) rfl (by kernel_rfl) 3 (by kernel_rfl) (G+1) rfl (show W3.drew.heap[G+1]?=_ from hH3) rfl) ?_;refine hK _ _ ?_;clear hK K;simp only[zZ];refine zQ 1 fun K hK=>?_;go_simp;refine (qU8 N rb rs _ hN0).mono ?_;rintro e w4 ⟨rfl,hB4⟩;refine hK _ _ ?_;clear hK K;refine zu 3 (.bool true) ?_;refine wpAny_take (i:=4) (v:=.bool true) rfl (by kernel_rfl) (by kernel_rfl) (by kernel_rfl) (fun _ _ _ h=>h) (Or.inl ⟨by rfl,fun W=>rfl⟩) ?_;simp only[zZ];refine wpAny_take (i:=5) (v:=undef) rfl (by kernel_rfl) (by kernel_rfl) (by kernel_rfl) (fun _ _ _ h=>h) (Or.inr ⟨by rfl,rfl⟩) ?_;simp only[zZ];refine wpAny_take (i:=6) (v:=undef) rfl (by kernel_rfl) (by kernel_rfl) (by kernel_rfl) (fun _ _ _ h=>h) (Or.inr ⟨by rfl,rfl⟩) ?_;simp only[zZ];refine wpAny_take (i:=7) (v:=undef) rfl (by kernel_rfl) (by kernel_rfl) (by kernel_rfl) (fun _ _ _ h=>h) (Or.inr ⟨by rfl,rfl⟩) ?_;simp only[zZ];refine wpAny_take (i:=8) (v:=undef) rfl (by kernel_rfl) (by kernel_rfl) (by kernel_rfl) (fun _ _ _ h=>h) (Or.inr ⟨by rfl,rfl⟩) ?_;simp only[zZ];refine wpAny_take (i:=9) (v:=undef) rfl (by kernel_rfl) (by kernel_rfl) (by kernel_rfl) (fun _ _ _ h=>h) (Or.inr ⟨by rfl,rfl⟩) ?_;simp only[zZ];refine zu 10 (.bool true) ?_;refine wpAny_done (by kernel_rfl) ?_ _;have hB4':Kp [] W3.drew w4:=Kp.of_below hB4 (Nat.le_refl _);have hR4:=hB4'.heap (k:=w.heap.size) hR3 (by simp);have hA4:=hB4'.heap (k:=A) hA3 (by simp);have hK4:Kp [A] w w4:=(hK3.drew).tr hB4';clear hB4 hB4';have r0:=ξ hR4 0;have r1:=ξ hR4 1;have r2:=ξ hR4 2;simp at r0 r1 r2;have rf:=ψ hR4;go_wp2;have hfin:=φ (φ (φ hR4 0 (.int .u64 0)) 1 (.int .i64 0)) 2 (.int .u64 0);refine bodyPost_ret (qN3 results111 _ _ w.heap.size 116 _ _ _ rfl hfin underlying116 rfl (by kernel_rfl)) rfl ⟨rfl,?_,((hK4.sc _).sc _).sc _⟩;exact (qA9 (by omega) _ _).trans ((qA9 (by omega) _ _).trans ((qA9 (by omega) _ _).trans hA4))
 go_region_with (go_at_call 152;go_must (refine (xC6 _ _ _ _ bl 223 _ (by first | exact hG2 | exact θ _ hG2) (by omega) (by omega)).mono ?_);rintro e w' ⟨rfl,rfl⟩)
 all_goals exact key
end Go.Proofs.YtdohpenfkdckiabGreatDoor
