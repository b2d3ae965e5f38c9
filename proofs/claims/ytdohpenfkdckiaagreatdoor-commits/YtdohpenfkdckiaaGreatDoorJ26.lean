import Derived.Test.YtdohpenfkdckiaaGreatDoorJ15
set_option linter.all false
set_option maxRecDepth 100000
set_option maxHeartbeats 20000000
namespace Go.Proofs.YtdohpenfkdckiaaGreatDoor
open Go.Proofs.Tryz
open Go.RowKit
variable {κ:Nat}
theorem jM3(V A n C:Nat)(o x:Int)(i:Nat)(l)(N rb rs:Int)(w)(hV:w.heap[V]?=some (qE4 A n))(h:w.heap[A]?=some (qA8 κ n C (.slice none 0 0) o x))
  (hi:i<n) (hn:n<=1000) (hC:w.heap[C]?=some (.cells (enc l) 115)) (hs:n*128<=l.length) (a3:C≠A) (a6:V≠A)
  (hN:qI1 (qH8 (((qB3 l i).drop 8).take 8))=N) (ax:qI1 (qH8 (((qB3 l i).drop 6).take 2))=rb) (ay:qI1 (qH8 (((qB3 l i).drop 16).take 8))=rs)
  (M:0<=N) (ba:0<=rb) (bb:rb<=65535) (bc:0<=rs) (q:Bool) (R:q=(decide (N % 2=(i:Int)) && (toB (qJ0 N rb rs) == (qB3 l i).take 32))):
  Calls prog 205 #[.pointer (some ⟨V,0,none⟩),.int .i64 i] w λe Y=>e=.returned (.tuple #[if q then qI8 N rb rs else qI8 0 0 0,.bool q])/\
   Y.heap[A]?=some (qA8 κ n C (.slice none 0 0) (nx o) x)/\Kp [A] w Y:=by
 have ap:(qB3 l i).length=128:=by simp[qB3];omega
 obtain⟨a,Q⟩:=eY (qB3 l i);rw[Q] at hN ax ay R ap;have HB:=zh Q;have y:=zh R;clear Q R;have bh:=ζ hV;have hA:=ζ h;have bf:=ζ hC;go_enter func205,ntmps205;go_wp2_with fail;refine (zP1 V A n C o x i l _ (ν _ hV) (ν _ h) hi hn (ν _ hC) hs a3 a6).mono ?_;rintro e w1 ⟨rfl,E,J⟩;rw[HB.out];have aq:(enc a).size=128:=by rw[qI7,ap]
 go_wp2_with fail;have O:=υ w1 (.cells zeroCells288 288);have P:Ϙ w1 w.heap.size (.cells #[.int .u64 0,ϊ 0,.int .u64 0] 166):=J.heap (υ _ _) sO;have L:Kp [A] w w1:=(kF.alloc _).tr J;have bg:=ζ P;have be:=ζ E;rw[qP9 O (by simp[qL1,aq]) (qM1 a).one];rw[show (enc a).toList.toArray=enc a from by simp,qP5 (by rw[qL1,aq])];obtain⟨b,an,ah,aa,al,D,az⟩:∃ b,b=(w1.alloc (.cells zeroCells288 288)).setRow w1.heap.size (enc a)/\Kp [A] w b/\Ϙ b A (qA8 κ n C (.slice none 0 0) (nx o) x)/\
   Ϙ b w.heap.size (.cells #[.int .u64 0,ϊ 0,.int .u64 0] 166)/\Ϙ b w1.heap.size (.cells (enc a) 288)/\b.heap.size=w1.heap.size+1:=
  ⟨_,rfl,(L.alloc _).setRow (Or.inr L.size) _,(setRow_other _ _ _ _ oM).trans (ν _ E),(setRow_other _ _ _ _ oM).trans (ν _ P),setRow_heap _ _ _ _ _ _ O,by simp[World.setRow]⟩
 rw[<-an];clear an O P J L E;generalize a8:w1.heap.size=G at *;clear a8;go_wp2_with fail;have bd:IntKind.i64.wrap rb=rb:=by simp only[wK];omega
 rename_i Q0 Z ag;have key:Z { tmps:=#[Value.pointer (some ⟨V,0,none⟩),Value.int .i64 ↑i,undef,undef,Value.pointer (some ⟨w.heap.size,0,none⟩),Value.bool false,
     Value.pointer (some ⟨G,0,none⟩),Value.pointer (some ⟨G+1,0,none⟩),Value.pointer (some ⟨V,0,none⟩),Value.int .i64 ↑i,Value.agg (enc a),
     Value.slice (some ⟨G,8,none⟩) 8 120,Value.int .u64 N,Value.slice (some ⟨G,6,none⟩) 2 122,Value.int .u64 rb,
     Value.int .i64 rb,Value.slice (some ⟨G,16,none⟩) 8 112,Value.int .u64 rs,Value.agg #[ϊ rb,.int .u64 rs],
     Value.agg #[.int .u64 N,ϊ rb,.int .u64 rs],undef,undef,undef,undef,undef,undef,undef,undef,undef,undef,undef,undef,undef],defers:=[] }
   (b.alloc (.cells #[.int .u64 N,ϊ rb,.int .u64 rs] 166)).drew:=by
  refine ag _ _ ?_;clear ag Z bd;obtain⟨c,ao,ai,ab,am,a4,g⟩:∃ c,c=(b.alloc (.cells #[.int .u64 N,ϊ rb,.int .u64 rs] 166)).drew/\Kp [A] w c/\Ϙ c A (qA8 κ n C (.slice none 0 0) (nx o) x)/\
    Ϙ c w.heap.size (.cells #[.int .u64 0,ϊ 0,.int .u64 0] 166)/\Ϙ c G (.cells (enc a) 288)/\c.heap[G+1]?=some (.cells #[.int .u64 N,ϊ rb,.int .u64 rs] 166):=
   ⟨_,rfl,(ah.alloc _).drew,ν _ aa,ν _ al,ν _ D,by rw[<-az];exact υ b _⟩
  rw[<-ao];clear ao ah aa al D hN ax ay az;have e0:=ξ g 0;have e1:=ξ g 1;have e2:=ξ g 2;simp at e0 e1 e2;have ae:=ζ g;by_cases m:N % 2=(i:Int)
  .have av:(N % 2 != (i:Int))=false:=by simp[m]
   go_wp2_with fail
   go_region_with (first
    | (go_at_call 209;go_must (refine (zR6 N rb rs _ M).mono ?_;rintro e w4 ⟨rfl,f⟩;have r:=(f.block (G+1) ae).trans g;have H:=(f.block G (by have:=ae;show G<c.heap.size;omega)).trans a4;have g0:=ξ r 0;have g1:=ξ r 1;have g2:=ξ r 2;simp at g0 g1 g2))
    | (go_at_call 207;go_must (refine (xO4 N rb rs _ M ba bb bc).mono ?_;rintro e w5 ⟨v5,rfl,ak,F⟩;obtain⟨g5,a0,a1,rfl,ar,a7,au⟩:=xK9 ak;have af:=(F.block G (ζ H)).trans H))
    | (go_at_call 249;go_must (refine (jL1 g5 0 32 a0 G 0 128 (toB (qJ0 N rb rs)) (a.take 32) _ 5 288 a1 (enc a) (0,0) (0,0) ar af au (by rw[qO7,dZ]) oM oM).mono ?_;rintro e w6 ⟨rfl,rfl⟩)))
   have d:=Kp.of_below f lR;have p:=Kp.of_below F lR;have j:=p.heap (d.heap (k:=w.heap.size) am sM) sM;have ac:=p.heap (d.heap (k:=A) ab sM) sM;have I:=p.hp r;have aj:=((ai.drew).tr d).tr p;clear f d F p g0 g1 g2 e0 e1 e2 af au ak H r ar a7 av;have T:=ξ j 0;have U:=ξ j 1;have X:=ξ j 2;have s0:=ξ I 0;have s1:=ξ I 1;have s2:=ξ I 2;simp at T U X s0 s1 s2;have rf:=φ j;have aw:q=(toB (qJ0 N rb rs) == a.take 32):=by rw[y.out];simp[m]
   clear y m;have z:=zh aw;clear aw;simp only[zZ];by_cases B:(toB (qJ0 N rb rs) == a.take 32)=true
   .have S:q=true:=by rw[z.out];exact B
    subst S;clear z;simp only[B,Bool.not_true];go_wp2;have u:=μ (μ (μ j 0 (.int .u64 N)) 1 (ϊ rb)) 2 (.int .u64 rs);refine bodyPost_ret (qU6 results205 _ _ w.heap.size 166 _ _ _ rfl u underlying166 rfl kR) rfl ⟨rfl,?_,((aj.sc _).sc _).sc _⟩;exact (qB1 oM _ _).trans ((qB1 oM _ _).trans ((qB1 oM _ _).trans ac))
   .have ad:(toB (qJ0 N rb rs) == a.take 32)=false:=by simpa using B
    have S:q=false:=by rw[z.out];exact ad
    subst S;clear z B;simp only[ad,Bool.not_false];go_wp2;have u:=μ (μ (μ j 0 (.int .u64 0)) 1 (ϊ 0)) 2 (.int .u64 0);refine bodyPost_ret (qU6 results205 _ _ w.heap.size 166 _ _ _ rfl u underlying166 rfl kR) rfl ⟨rfl,?_,((aj.sc _).sc _).sc _⟩;exact (qB1 oM _ _).trans ((qB1 oM _ _).trans ((qB1 oM _ _).trans ac))
  .have av:(N % 2 != (i:Int))=true:=by simp[m]
   have a9:q=false:=by rw[y.out];simp[m]
   clear m y;subst a9;go_wp2_with fail;refine wp_region_any kR ?_;change wpAny _ _ _ _ _ _ _ (World.drew _);refine wpAny_take (i:=2) (v:=.int .i64 i) rfl kR kR kR (λ_ _ _ h=>h) (Or.inl ⟨by rfl,λW=>rfl⟩) ?_;simp only[zZ];refine zQ 0 λK hK=>?_;refine qF3 rfl (qR4 (t:=166) rfl kR 3 kR (G+1) rfl (show c.drew.heap[G+1]?=_ from g) rfl) ?_;refine hK _ _ ?_;simp only[zZ];refine zQ 1 λK hK=>?_;go_simp;refine (zR6 N rb rs _ M).mono ?_;rintro e w4 ⟨rfl,f⟩;refine hK _ _ ?_;refine zu 3 (.bool true) ?_;refine wpAny_take (i:=4) (v:=.bool true) rfl kR kR kR (λ_ _ _ h=>h) (Or.inl ⟨by rfl,λW=>rfl⟩) ?_;simp only[zZ];refine wpAny_take (i:=5) (v:=undef) rfl kR kR kR (λ_ _ _ h=>h) (Or.inr ⟨by rfl,rfl⟩) ?_;simp only[zZ];refine wpAny_take (i:=6) (v:=undef) rfl kR kR kR (λ_ _ _ h=>h) (Or.inr ⟨by rfl,rfl⟩) ?_;simp only[zZ];refine wpAny_take (i:=7) (v:=undef) rfl kR kR kR (λ_ _ _ h=>h) (Or.inr ⟨by rfl,rfl⟩) ?_;simp only[zZ];refine wpAny_take (i:=8) (v:=undef) rfl kR kR kR (λ_ _ _ h=>h) (Or.inr ⟨by rfl,rfl⟩) ?_;simp only[zZ];refine wpAny_take (i:=9) (v:=undef) rfl kR kR kR (λ_ _ _ h=>h) (Or.inr ⟨by rfl,rfl⟩) ?_;simp only[zZ];refine zu 10 (.bool true) ?_;refine wpAny_done kR ?_ _;have d:=Kp.of_below f lR;have s:=d.heap (k:=w.heap.size) am sM;have a2:=d.heap (k:=A) ab sM;have a5:=(ai.drew).tr d;clear f d;have T:=ξ s 0;have U:=ξ s 1;have X:=ξ s 2;simp at T U X;have rf:=φ s;go_wp2;have u:=μ (μ (μ s 0 (.int .u64 0)) 1 (ϊ 0)) 2 (.int .u64 0);refine bodyPost_ret (qU6 results205 _ _ w.heap.size 166 _ _ _ rfl u underlying166 rfl kR) rfl ⟨rfl,?_,((a5.sc _).sc _).sc _⟩;exact (qB1 oM _ _).trans ((qB1 oM _ _).trans ((qB1 oM _ _).trans a2))
 go_region_with (go_at_call 248;go_must (refine (kD6 _ _ _ _ a 288 _ (by first | exact D | exact ν _ D) oM oM).mono ?_);rintro e Y ⟨rfl,rfl⟩)
 all_goals exact key
end Go.Proofs.YtdohpenfkdckiaaGreatDoor
