import Derived.Test.YtdohpenfkdckiaaGreatDoorM13
import Derived.Lib.SmallJoins
import Derived.Laws.OwnMore
import Derived.Test.YtdohpenfkdckiaaGreatDoorRows
import Derived.ChangeSame
import Derived.ChangeVars
import Derived.JoinedOf
import Derived.RowKit
import Derived.LaidLaws
import Derived.LaidHandle
import Derived.Deep.Slices
import Derived.Stop.Joined
import Derived.Lay
set_option linter.all false
set_option maxRecDepth 100000
set_option maxHeartbeats 20000000
namespace Go.Proofs.YtdohpenfkdckiaaGreatDoor
open Go.Proofs.Tryz
open Go.RowKit
theorem qC3(k:Int)(w:World):Calls prog 127 #[.int .i64 k] w fun e w'=>e=.returned (.int .i64 k)∧w'=w:=by
 go_enter func127,ntmps127;go_wp2;go_ret;exact⟨rfl,rfl⟩
theorem qX8(c:Int)(n:Nat)(w:World)(h0:-9223372036854775808≤c)(h1:c≤9223372036854775807)(hn:1≤n)(hn1:n≤1000000):
  Calls prog 79 #[.int .i64 c,.int .i64 n] w fun e w'=>∃ j:Nat,e=.returned (.int .i64 j)∧j<n∧w'=w:=by
 have hne:¬((n:Int)=0):=by omega
 by_cases hc:c<0
 ·go_enter func79,ntmps79;go_wp2;go_ret;have e1:-((c+1).tmod (n:Int))=(-(c+1)) % (n:Int):=by rw[←Int.neg_tmod,Int.tmod_eq_emod_of_nonneg (by omega)]
  have e2:=Int.emod_nonneg (-(c+1)) hne;have e3:=Int.emod_lt_of_pos (-(c+1)) (show (0:Int)<n by omega);refine⟨((-(c+1)) % (n:Int)).toNat,?_,by omega,rfl⟩;rw[Int.toNat_of_nonneg e2,←e1];rfl
 ·go_enter func79,ntmps79;go_wp2;go_ret;have e2:=Int.emod_nonneg c hne;have e3:=Int.emod_lt_of_pos c (show (0:Int)<n by omega);refine⟨(c % (n:Int)).toNat,?_,by omega,rfl⟩;rw[Int.toNat_of_nonneg e2];rfl
theorem xB5(c:Int)(w:World)(h:c<0):Calls prog 122 #[.int .i64 c] w fun e w'=>e=.returned (.int .i64 0)∧w'=w:=by
 go_enter func122,ntmps122;go_wp2;go_ret;exact⟨rfl,rfl⟩
theorem xB4(c:Int)(w:World)(h:¬c<0):Calls prog 122 #[.int .i64 c] w fun e w'=>e=.returned (.int .i64 (c % 1000))∧w'=w:=by
 go_enter func122,ntmps122;go_wp2;go_ret;exact⟨rfl,rfl⟩
theorem jD4(w:World):Calls prog 201 #[.slice none 0 0,.slice none 0 0] w fun e w'=>e=.returned (.bool true)∧w'=w:=by
 go_enter func201,ntmps201;go_wp2_with fail;refine wp_loop_rounds 1 ?_;rw[rounds_succ];go_wp2;go_ret;exact⟨rfl,rfl⟩
def RowOk(w:World)(base:Nat)(v:Value)(n:Nat):Prop:=w.ownsRow base 126 1 v n (List.replicate n (.slice none 0 0))
theorem RowOk.kp{S:List Nat}{w w':World}{base:Nat}{v:Value}{n:Nat}(h:RowOk w base v n)(hK:Kp S w w')(hS:∀ k c t fr,w.heap[k]?=some (.cells c t fr)→k∈S→t≠126):RowOk w' base v n:=by
 refine⟨h.1,?_⟩;rcases h.2 with h0|⟨g,cap,cur,h1,h2,h3,h4⟩
 ·exact .inl h0
 ·exact .inr ⟨g,cap,cur,h1,h2,hK.heap h3 (fun hm=>hS g _ _ _ h3 hm rfl),h4⟩
theorem RowOk.le{w:World}{base base':Nat}{v:Value}{n:Nat}(h:RowOk w base v n)(hb:base'≤base):RowOk w base' v n:=qN0 h hb
theorem RowOk.form{w:World}{base:Nat}{v:Value}{n:Nat}(h:RowOk w base v n):∃ p c,v=.slice p n c:=by
 rcases h.2 with⟨h0,h1⟩|⟨g,cap,cur,h1,_⟩
 ·exact⟨none,0,by rw[h0,h1]⟩
 ·exact⟨_,cap,h1⟩
theorem RowOk.form1{w:World}{base:Nat}{v:Value}{n:Nat}(h:RowOk w base v (n+1)):∃ g c,v=.slice (some ⟨g,0,none⟩) (n+1) c:=by
 obtain⟨g,cap,h⟩:=qM9 h;exact⟨g,cap,h⟩
theorem zC7:(prog.info? 126).map (fun i=>(i.zero,i.size,i.bytes))=some (some (.agg #[.slice none 0 0]),1,24):=by kernel_rfl
theorem jD0(w:World)(ty:TypeId):Sem.run prog (Builtin.append_ #[121,121] ty #[.slice none 0 0,.slice none 0 0]) w=.ok (.slice none 0 0) w:=by
 obtain⟨i0,hi,hz0,hz1,hz2⟩:=info_parts zC7;simp[Builtin.append_,run_underlying underlying121,sizeOf,typeInfo,hi,Builtin.lenOf,Builtin.firstCells]
theorem zS3(w:World)(base:Nat)(v:Value)(n:Nat)(ty:TypeId)(h:RowOk w base v n)(hn:n≤1000000):
  ∃ v' w',Sem.run prog (Builtin.append_ #[121,121] ty #[.slice none 0 0,v]) w=.ok v' w'∧RowOk w' w.heap.size v' n∧Kp [] w w':=by
 obtain⟨i0,hi,hz0,hz1,hz2⟩:=info_parts zC7;rcases h.2 with⟨h0,h1⟩|⟨g,cap,cur,h1,h2,h3,h4,h5,h6,h7⟩
 ·subst h0;subst h1;exact⟨_,_,jD0 w ty,⟨by simp,.inl ⟨rfl,rfl⟩⟩,Kp.refl _ _⟩
 ·subst h1;obtain⟨v',w',hr,r1,r2,r3⟩:=run_append_own (P:=prog) w w.heap.size 121 ty 126 i0 _ 1 24 underlying121 hi hz0 hz1 hz2 rfl (by decide) (.slice none 0 0) 0 [] (World.ownsRow_nil _ _ _ _) ⟨g,0,none⟩ n cap (List.replicate n (.slice none 0 0)) (by simp) (fun j u hu=>h.cells (g:=g) rfl j u hu) (by intro u hu;rw[(List.mem_replicate.1 hu).2];rfl) (by unfold maxLen;omega) (by omega) (Nat.le_refl _);refine⟨v',w',hr,by simpa [RowOk] using r1,(Kp.refl [] w).grown r2 (by simp[Value.ownBlock])⟩
theorem zS2(w:World)(base g:Nat)(v:Value)(n:Nat)(ty:TypeId)(h:RowOk w base v n)(hn:n≤1000000)(hg:w.heap[g]?=some (.cells #[.slice none 0 0] 126))(hb:base≤w.heap.size):
  ∃ v' w',Sem.run prog (Builtin.append_ #[121,121] ty #[v,.slice (some ⟨g,0,none⟩) 1 1]) w=.ok v' w'∧RowOk w' base v' (n+1)∧w.grownBy w' v.ownBlock:=by
 obtain⟨i0,hi,hz0,hz1,hz2⟩:=info_parts zC7;obtain⟨v',w',hr,r1,r2,r3⟩:=run_append_own (P:=prog) w base 121 ty 126 i0 _ 1 24 underlying121 hi hz0 hz1 hz2 rfl (by decide) v n _ h ⟨g,0,none⟩ 1 1 [.slice none 0 0] (by simp) (fun j u hu=>by
  rw[qG4,ξ hg];simpa using hu) (by simp[Value.oneCell']) (by unfold maxLen;omega) (by omega) hb
 refine⟨v',w',hr,?_,r2⟩;rw[RowOk,List.replicate_succ'];exact r1
theorem qS0{P:Program}{ops:Array Oper}{rest:List Oper}{dst:Option Tmp}{ty:TypeId}{pos:String}{aft:Array Edge}{a:Act}{w w':World}{Q:Exit→Act→World→Prop}{s x:Operand}{t:TypeId}{vs vx v':Value}(hs:a.eval s=vs)(hx:a.eval x=vx)
  (hr:Sem.run P (Builtin.append_ #[t,t] ty #[vs,vx]) w=.ok v' w') (h:wpList P ops Q rest (a.put dst v') w'):
  wpList P ops Q (⟨dst,.call { callee:=.builtin .append,args:=#[s,x],argTypes:=#[t,t] },ty,pos,aft,none⟩::rest) a w:=by
 refine wpList_plain rfl fun K hK=>?_;have hk:=hK _ _ h;unfold Oper.wp execOp;simp only[resolve,invoke,builtin,Sem.run_bind,Sem.run_pure,Result.andThen_ok,List.map_toArray,List.map_cons,List.map_nil,hs,hx,hr];exact hk
theorem qG2{w:World}{i j:Nat}{c d:Array Value}{t u:TypeId}{f g:Nat × Nat}(hi:w.heap[i]?=some (.cells c t f))(hj:w.heap[j]?=some (.cells d u g))(h:t≠u):i≠j:=by
 rintro rfl;rw[hi] at hj;cases hj;exact h rfl
def Apart(w:World)(S:List Nat)(t:TypeId):Prop:=∀ k,k∈S→∃ c u fr,w.heap[k]?=some (.cells c u fr)∧u≠t
theorem RowOk.keep{S:List Nat}{w w':World}{base:Nat}{v:Value}{n:Nat}(h:RowOk w base v n)(hK:Kp S w w')(hS:Apart w S 126):RowOk w' base v n:=by
 refine h.kp hK (fun k c t fr hk hm=>?_);obtain⟨c',u,fr',h1,h2⟩:=hS k hm;rw[hk] at h1;cases h1;exact h2
theorem RowOk.alloc{w:World}{base:Nat}{v:Value}{n:Nat}(h:RowOk w base v n)(o:Obj):RowOk (w.alloc o) base v n:=World.ownsRow.alloc h o
theorem RowOk.below{w:World}{base:Nat}{v:Value}{n:Nat}(h:RowOk w base v n):∀ k,v.ownBlock=some k→base≤k:=fun k hk=>(World.ownsRow.lt h k hk).1
theorem jG4(base m cm k cw:Nat)(pm pw:Option Addr)(n:Int)(e wl bt:Bool)(w:World)(hm:RowOk w base (.slice pm m cm) m)(hk:RowOk w base (.slice pw k cw) k)(hm1:m≤100000)(hk1:k≤100000):
  Calls prog 130 #[.agg #[.int .i64 n,.slice pm m cm,.bool e,.slice pw k cw,.bool wl,.bool bt],.agg #[.slice none 0 0]] w fun r w'=>∃ gm cm' gw cw',r=.returned (.agg #[.int .i64 n,.slice (some ⟨gm,0,none⟩) (m+1) cm',.bool e,.slice (some ⟨gw,0,none⟩) (k+1) cw',.bool wl,.bool bt])∧
   RowOk w' w.heap.size (.slice (some ⟨gw,0,none⟩) (k+1) cw') (k+1)∧Kp [] w w':=by
 -- the three boxes
 obtain⟨W3,hW3,hB3,hM3,hR3,hK3,hs3⟩:∃ W3,W3=((w.alloc (.cells #[.int .i64 n,.slice pm m cm,.bool e,.slice pw k cw,.bool wl,.bool bt] 123)).alloc (.cells #[.slice none 0 0] 126)).alloc (.cells #[.int .i64 0,.slice none 0 0,.bool false,.slice none 0 0,.bool false,.bool false] 123)∧
   W3.heap[w.heap.size]?=some (.cells #[.int .i64 n,.slice pm m cm,.bool e,.slice pw k cw,.bool wl,.bool bt] 123)∧W3.heap[w.heap.size+1]?=some (.cells #[.slice none 0 0] 126)∧W3.heap[w.heap.size+1+1]?=some (.cells #[.int .i64 0,.slice none 0 0,.bool false,.slice none 0 0,.bool false,.bool false] 123)∧Kp [] w W3∧W3.heap.size=w.heap.size+3:=by
  refine⟨_,rfl,η _ (η _ (κ _ _)),η _ ?_,?_,(((Kp.refl _ _).alloc _).alloc _).alloc _,by simp⟩
  ·have e:=κ (w.alloc (.cells #[.int .i64 n,.slice pm m cm,.bool e,.slice pw k cw,.bool wl,.bool bt] 123)) (.cells #[.slice none 0 0] 126);simpa using e
  ·have e:=κ ((w.alloc (.cells #[.int .i64 n,.slice pm m cm,.bool e,.slice pw k cw,.bool wl,.bool bt] 123)).alloc (.cells #[.slice none 0 0] 126)) (.cells #[.int .i64 0,.slice none 0 0,.bool false,.slice none 0 0,.bool false,.bool false] 123);simpa using e
 have hm3:RowOk W3 base (.slice pm m cm) m:=hm.keep hK3 (by intro k h;simp at h);have hk3:RowOk W3 base (.slice pw k cw) k:=hk.keep hK3 (by intro k h;simp at h)
 -- the first two appends
 obtain⟨v1,w1,hr1,hrow1,hK1⟩:=zS3 W3 base (.slice pm m cm) m 121 hm3 (by omega);obtain⟨p1,c1,rfl⟩:=hrow1.form;have hB1:=hK1.hp hB3;have hM1:=hK1.hp hM3;have hR1:=hK1.hp hR3;have hs1:=hK1.size;obtain⟨v2,w2,hr2,hrow2,hgr2⟩:=zS2 (w1.alloc (.cells #[.slice none 0 0] 126)) W3.heap.size w1.heap.size (.slice p1 m c1) m 121 (hrow1.alloc _) (by omega) (κ _ _) (by simp;omega);obtain⟨g2,c2,rfl⟩:=hrow2.form1;have hK2:Kp [] W3 w2:=(hK1.alloc _).grown hgr2 (fun k hk=>Or.inr (hrow1.below k hk));have hB2:=hK2.hp hB3;have hM2:=hK2.hp hM3;have hR2:=hK2.hp hR3;have hk2:RowOk w2 base (.slice pw k cw) k:=hk3.keep hK2 (by intro k h;simp at h)
 -- the first is kept
 obtain⟨w3,hw3,hB4,hM4,hR4,hK4,hs4⟩:∃ w3,w3=w2.setCell ⟨w.heap.size,1,none⟩ (.slice (some ⟨g2,0,none⟩) (m+1) c2)∧w3.heap[w.heap.size]?=some (.cells #[.int .i64 n,.slice (some ⟨g2,0,none⟩) (m+1) c2,.bool e,.slice pw k cw,.bool wl,.bool bt] 123)∧w3.heap[w.heap.size+1]?=some (.cells #[.slice none 0 0] 126)∧w3.heap[w.heap.size+1+1]?=some (.cells #[.int .i64 0,.slice none 0 0,.bool false,.slice none 0 0,.bool false,.bool false] 123)∧Kp [] w w3∧w3.heap.size=w2.heap.size:=
  ⟨_,rfl,μ hB2 1 _,(qA4 (by omega) _ _).trans hM2,(qA4 (by omega) _ _).trans hR2,(hK3.tr hK2).setCell (Or.inr (by simp)) _,by simp[World.setCell]⟩
 have hk4:RowOk w3 base (.slice pw k cw) k:=by
  refine hk.keep hK4 (by intro k h;simp at h)
 -- the other two
 obtain⟨v5,w5,hr5,hrow5,hK5⟩:=zS3 w3 base (.slice pw k cw) k 121 hk4 (by omega);obtain⟨p5,c5,rfl⟩:=hrow5.form;have hB5:=hK5.hp hB4;have hM5:=hK5.hp hM4;have hR5:=hK5.hp hR4;have hs5:=hK5.size;obtain⟨v6,w6,hr6,hrow6,hgr6⟩:=zS2 (w5.alloc (.cells #[.slice none 0 0] 126)) w3.heap.size w5.heap.size (.slice p5 k c5) k 121 (hrow5.alloc _) (by omega) (κ _ _) (by simp;omega);obtain⟨g6,c6,rfl⟩:=hrow6.form1;have hK6:Kp [] w3 w6:=(hK5.alloc _).grown hgr6 (fun k hk=>Or.inr (hrow5.below k hk));have hB6:=hK6.hp hB4;have hR6:=hK6.hp hR4;have hK6':Kp [] w w6:=hK4.tr hK6;have hs6:=hK4.size;have x1:=ξ hB3 1;have y0:=ξ hM1 0;have z1:=ξ hB2 1;have z1f:=ρ hB2 1;have u3:=ξ hB4 3;have t0:=ξ hM5 0;have q0:=ξ hB6;have r0:=ξ hR6;have r0f:=ρ hR6;have q3f:=ρ hB6 3;simp only[zG,zH,zI] at x1 y0 z1 u3 t0;rw[hw3] at hr5 u3;rw[hW3] at hr1 x1;clear hm hk hm3 hk3 hk2 hk4 hrow1 hrow2 hrow5 hK1 hK2 hK3 hK5 hgr2 hgr6 hB1 hM1 hR1 hB2 hM2 hR2 hB3 hM3 hR3 hB4 hM4 hR4 hB5 hM5 hR5 hs1 hs3 hs4 hs5 hW3 hw3;go_enter func130,ntmps130
 go_wp2_with (at_builtin;first | ((with_reducible refine qS0 ?_ ?_ hr1 ?_);rfl;rfl) | ((with_reducible refine qS0 ?_ ?_ hr2 ?_);rfl;rfl) | ((with_reducible refine qS0 ?_ ?_ hr5 ?_);rfl;rfl) | ((with_reducible refine qS0 ?_ ?_ hr6 ?_);rfl;rfl))
 have hR7:=(qA4 (w:=w6) (b:=w.heap.size) (k:=w.heap.size+1+1) (by omega) 3 (.slice (some ⟨g6,0,none⟩) (k+1) c6)).trans hR6;refine bodyPost_ret (results_cell_row results130 _ _ (w.heap.size+1+1) 123 #[.int .i64 n,.slice (some ⟨g2,0,none⟩) (m+1) c2,.bool e,.slice (some ⟨g6,0,none⟩) (k+1) c6,.bool wl,.bool bt] (0,0) _ rfl (μ (μ (μ (μ (μ (μ hR7 0 _) 1 _) 2 _) 3 _) 4 _) 5 _) underlying123 rfl (by kernel_rfl)) rfl ⟨g2,c2,g6,c6,rfl,?_,?_⟩
 ·refine (hrow6.le hs6).keep (S:=[w.heap.size,w.heap.size+1+1]) (((((((((Kp.refl _ w6).sc _).sc _).sc _).sc _).sc _).sc _).sc _)) ?_;intro k hk;rcases List.mem_cons.1 hk with rfl|hk
  ·exact⟨_,_,_,hB6,by decide⟩
  ·rw[List.mem_singleton.1 hk];exact⟨_,_,_,hR6,by decide⟩
 ·exact ((((((hK6'.setCell (Or.inr (by simp)) _).setCell (Or.inr (by simp;omega)) _).setCell (Or.inr (by simp;omega)) _).setCell (Or.inr (by simp;omega)) _).setCell (Or.inr (by simp;omega)) _).setCell (Or.inr (by simp;omega)) _).setCell (Or.inr (by simp;omega)) _
theorem zE4(base m cm k cw:Nat)(pm pw:Option Addr)(n:Int)(e wl bt:Bool)(w:World)(hm:RowOk w base (.slice pm m cm) m)(hk:RowOk w base (.slice pw k cw) k)(hm1:m≤100000)(hk1:k≤100000):
  Calls prog 129 #[.agg #[.int .i64 n,.slice pm m cm,.bool e,.slice pw k cw,.bool wl,.bool bt],.agg #[.slice none 0 0]] w fun r w'=>∃ gm gw cw',r=.returned (.agg #[.int .i64 n,.slice (some ⟨gm,0,none⟩) 1 1,.bool false,.slice (some ⟨gw,0,none⟩) (k+1) cw',.bool wl,.bool bt])∧
   RowOk w' w.heap.size (.slice (some ⟨gm,0,none⟩) 1 1) 1∧RowOk w' w.heap.size (.slice (some ⟨gw,0,none⟩) (k+1) cw') (k+1)∧Kp [] w w':=by
 obtain⟨W3,hW3,hB3,hM3,hR3,hK3,hs3⟩:∃ W3,W3=((w.alloc (.cells #[.int .i64 n,.slice pm m cm,.bool e,.slice pw k cw,.bool wl,.bool bt] 123)).alloc (.cells #[.slice none 0 0] 126)).alloc (.cells #[.int .i64 0,.slice none 0 0,.bool false,.slice none 0 0,.bool false,.bool false] 123)∧
   W3.heap[w.heap.size]?=some (.cells #[.int .i64 n,.slice pm m cm,.bool e,.slice pw k cw,.bool wl,.bool bt] 123)∧W3.heap[w.heap.size+1]?=some (.cells #[.slice none 0 0] 126)∧W3.heap[w.heap.size+1+1]?=some (.cells #[.int .i64 0,.slice none 0 0,.bool false,.slice none 0 0,.bool false,.bool false] 123)∧Kp [] w W3∧W3.heap.size=w.heap.size+3:=by
  refine⟨_,rfl,η _ (η _ (κ _ _)),η _ ?_,?_,(((Kp.refl _ _).alloc _).alloc _).alloc _,by simp⟩
  ·have e:=κ (w.alloc (.cells #[.int .i64 n,.slice pm m cm,.bool e,.slice pw k cw,.bool wl,.bool bt] 123)) (.cells #[.slice none 0 0] 126);simpa using e
  ·have e:=κ ((w.alloc (.cells #[.int .i64 n,.slice pm m cm,.bool e,.slice pw k cw,.bool wl,.bool bt] 123)).alloc (.cells #[.slice none 0 0] 126)) (.cells #[.int .i64 0,.slice none 0 0,.bool false,.slice none 0 0,.bool false,.bool false] 123);simpa using e
 have hm3:RowOk W3 base (.slice pm m cm) m:=hm.keep hK3 (by intro k h;simp at h);have hk3:RowOk W3 base (.slice pw k cw) k:=hk.keep hK3 (by intro k h;simp at h);clear hm hk;go_enter func129,ntmps129;go_wp2_with fail;rw[←hW3];clear hW3;refine (jG4 base m cm k cw pm pw n e wl bt W3 hm3 hk3 hm1 hk1).mono ?_;rintro r w1 ⟨gm,cm',gw,cw',rfl,hrow1,hK1⟩;have hM1:=hK1.hp hM3;have hR1:=hK1.hp hR3;have hK1':Kp [] w w1:=hK3.tr hK1;have HS1:=zh hK1.size;have HS3:=zh hs3;clear hm3 hk3 hK1 hB3 hM3 hR3 hs3;have y0:=ξ hM1 0;have r0:=ξ hR1;simp only[zG,zH,zI] at y0;have hl1:w.heap.size+1<w1.heap.size:=ζ hM1;have hl2:w.heap.size+1+1<w1.heap.size:=ζ hR1;have r0f:=ρ hR1;go_wp2;obtain⟨w2,hw2,hR2,hK2,hs2⟩:∃ w2,w2=(((((w1.setCell ⟨w.heap.size+1+1,0,none⟩ (.int .i64 n)).setCell ⟨w.heap.size+1+1,1,none⟩ (.slice (some ⟨w1.heap.size+1,0,none⟩) 1 1)).setCell ⟨w.heap.size+1+1,2,none⟩ (.bool false)).setCell ⟨w.heap.size+1+1,3,none⟩ (.slice (some ⟨gw,0,none⟩) (k+1) cw')).setCell ⟨w.heap.size+1+1,4,none⟩ (.bool wl)).setCell ⟨w.heap.size+1+1,5,none⟩ (.bool bt)∧w2.heap[w.heap.size+1+1]?=some (.cells #[.int .i64 n,.slice (some ⟨w1.heap.size+1,0,none⟩) 1 1,.bool false,.slice (some ⟨gw,0,none⟩) (k+1) cw',.bool wl,.bool bt] 123)∧Kp [w.heap.size+1+1] w1 w2∧w2.heap.size=w1.heap.size:=
  ⟨_,rfl,μ (μ (μ (μ (μ (μ hR1 0 _) 1 _) 2 _) 3 _) 4 _) 5 _,((((((Kp.refl _ w1).sc _).sc _).sc _).sc _).sc _).sc _,by simp[World.setCell]⟩
 rw[←hw2];clear hw2;have hrow2:RowOk w2 W3.heap.size (.slice (some ⟨gw,0,none⟩) (k+1) cw') (k+1):=hrow1.keep hK2 (fun k hk=>by rw[List.mem_singleton.1 hk];exact⟨_,_,_,hR1,by decide⟩);have hK2':Kp [] w w2:=hK1'.trans hK2 (fun i hi hlt=>by simp at hi;omega);refine bodyPost_ret (results_cell_row results129 _ _ (w.heap.size+1+1) 123 #[.int .i64 n,.slice (some ⟨w1.heap.size+1,0,none⟩) 1 1,.bool false,.slice (some ⟨gw,0,none⟩) (k+1) cw',.bool wl,.bool bt] (0,0) _ rfl (η _ (η _ hR2)) underlying123 rfl (by kernel_rfl)) rfl ⟨w1.heap.size+1,gw,cw',rfl,?_,((hrow2.alloc _).alloc _).le (by have:=HS3.out;omega),(hK2'.alloc _).alloc _⟩;refine⟨by simp,.inr ⟨w1.heap.size+1,1,#[.slice none 0 0],rfl,by omega,?_,Nat.le_refl _,by unfold maxLen;omega,rfl,rfl⟩⟩;have e:=κ (w2.alloc (.cells #[.int .i64 n,.slice (some ⟨w1.heap.size+1,0,none⟩) 1 1,.bool false,.slice (some ⟨gw,0,none⟩) (k+1) cw',.bool wl,.bool bt] 123)) (.cells #[.slice none 0 0] 126);simpa [hs2] using e
theorem zC0(may were:Value)(n:Nat)(e wl bt:Bool)(w:World)(h8:8≤n)(h400:n≤400):
  Calls prog 128 #[.agg #[.int .i64 n,may,.bool e,were,.bool wl,.bool bt]] w fun r w'=>r=.returned (.bool true)∧Kp [] w w':=by
 go_enter func128,ntmps128;go_wp2;go_ret;exact⟨by show Ending.returned (Value.bool (decide ((n:Int)≤400)))=_;rw[decide_eq_true (by omega)],(Kp.refl _ _).alloc _⟩
theorem zM3(may were:Value)(n:Nat)(e wl bt:Bool)(w:World)(hb:n<8∨400<n):
  Calls prog 128 #[.agg #[.int .i64 n,may,.bool e,were,.bool wl,.bool bt]] w fun r w'=>r=.returned (.bool false)∧Kp [] w w':=by
 by_cases h8:n<8
 ·clear hb;go_enter func128,ntmps128;go_wp2;go_ret;exact⟨rfl,(Kp.refl _ _).alloc _⟩
 ·have h400:400<n:=by omega
  clear hb;go_enter func128,ntmps128;go_wp2;go_ret;exact⟨by show Ending.returned (Value.bool (decide ((n:Int)≤400)))=_;rw[decide_eq_false (by omega)],(Kp.refl _ _).alloc _⟩
theorem xM6(base g:Nat)(were:Value)(n:Int)(e wl bt:Bool)(w:World)(hm:RowOk w base (.slice (some ⟨g,0,none⟩) 1 1) 1):
  Calls prog 190 #[.agg #[.int .i64 n,.slice (some ⟨g,0,none⟩) 1 1,.bool e,were,.bool wl,.bool bt],.slice none 0 0] w fun r w'=>r=.returned (.bool true)∧Kp [] w w':=by
 have c0:w.cell? ⟨g,0,none⟩=some (.slice none 0 0):=by
  have:=World.ownsRow.cells hm (g:=g) rfl 0 (.slice none 0 0) rfl
  rwa [qG4] at this
 have hg:g<w.heap.size:=(World.ownsRow.lt hm g rfl).2;go_enter func190,ntmps190;go_wp2_with fail;refine wp_loop_rounds 1 ?_;rw[rounds_succ]
 go_wp2_with (go_at_call 201;refine (jD4 _).mono ?_;rintro r w' ⟨rfl,rfl⟩)
 go_ret;exact⟨rfl,(Kp.refl _ _).alloc _⟩
theorem xN1:(prog.info? 66).map (fun i=>(i.zero,i.size,i.bytes))=some (some (.agg #[.int .i64 0,.int .i64 0,.int .i64 0,.int .i64 0,.int .i64 0,.string ⟨#[]⟩,.string ⟨#[]⟩]),7,72):=by kernel_rfl
theorem jC9(w:World)(base g:Nat)(v:Value)(n:Nat)(xs:List Value)(us:List Value)(h7:us.length=7)(ty:TypeId)
  (h:w.ownsRow base 66 7 v n xs) (hn:n≤1000000) (hg:w.heap[g]?=some (.cells us.toArray 66)) (hu:∀ u∈us,u.oneCell'=true) (hb:base≤w.heap.size):
  ∃ v' w',Sem.run prog (Builtin.append_ #[22,22] ty #[v,.slice (some ⟨g,0,none⟩) 1 1]) w=.ok v' w'∧w'.ownsRow base 66 7 v' (n+1) (xs++us)∧w.grownBy w' v.ownBlock:=by
 obtain⟨i0,hi,hz0,hz1,hz2⟩:=info_parts xN1;obtain⟨v',w',hr,r1,r2,r3⟩:=run_append_own (P:=prog) w base 22 ty 66 i0 _ 7 72 underlying22 hi hz0 hz1 hz2 rfl (by decide) v n _ h ⟨g,0,none⟩ 1 1 us (by simp[h7]) (fun j v hv=>by
  rw[qG4,ξ hg];simpa using hv) hu (by unfold maxLen;omega) (by omega) hb
 exact⟨v',w',hr,r1,r2⟩
theorem jD8{w:World}{base:Nat}{p:Option Addr}{c:Nat}{ops:List SOp}(h:w.ownsRow base 66 7 (.slice p ops.length c) ops.length (ops.flatMap SOp.cells)):Script w p ops.length (fun i=>ops.getD i ⟨0,0,0,0,0,⟨#[]⟩,⟨#[]⟩⟩):=by
 intro hn;rcases h.2 with⟨_,h0⟩|⟨g,cap,cur,h1,h2,h3,h4,h5,h6,h7⟩
 ·omega
 ·cases h1;refine⟨g,0,rfl,ζ h3,fun i hi c hc=>?_⟩;rw[ξ h3];have hlen:∀ (l:List SOp) (i:Nat) (hi:i<l.length),(l.flatMap SOp.cells)[i*7+c]?=(l[i]).cells[c]?:=by
   intro l
   induction l with
   | nil=>intro i hi;simp at hi
   | cons o l ih=>
    intro i hi;rw[List.flatMap_cons];have e7:o.cells.length=7:=rfl
    cases i with
    | zero=>rw[List.getElem?_append_left (by omega)];simp
    | succ i=>rw[List.getElem?_append_right (by omega),show (i+1)*7+c-o.cells.length=i*7+c by omega,ih i (by simpa using hi)];simp
  have e:=hlen ops i hi;rw[←h7,List.getElem?_take_of_lt (by omega)] at e;have e2:ops.getD i ⟨0,0,0,0,0,⟨#[]⟩,⟨#[]⟩⟩=ops[i]:=by simp[List.getD,hi]
  show _=(ops.getD i _).cells[c]?;rw[e2,←e];simp
end Go.Proofs.YtdohpenfkdckiaaGreatDoor
namespace Go.Proofs.YtdohpenfkdckiaaGreatDoor.Gw
open Go.Proofs.Tryz
open Go.RowKit
def I64(x:Int):Prop:=-9223372036854775808≤x∧x≤9223372036854775807
structure SFits(o:SOp):Prop where
 x:I64 o.x
 y:I64 o.y
 a:I64 o.a
 b:I64 o.b
structure Fit(ks:List Int)(o:SOp):Prop where
 k:o.k<4∨o.k∈ks
 f:SFits o
theorem jB3(ks:List Int)(n3:Nat)(hn3:n3≤20)(hl3:ks.length=n3)(UP:∀ (p:Option Addr) (n cap:Nat) (f:Nat→SOp) (w:World),n≤16384→0<w.heap.size→w.cell? ⟨0,0,none⟩=some qB5→Script w p n f→(∀ i,i<n→Fit ks (f i))→Calls prog 17 #[.slice p n cap] w fun e w'=>e=.returned (.int .i64 (-1))∧Kp [] w w')
  (p:Option Addr) (n cap:Nat) (f:Nat→SOp) (w:World) (hS:Script w p n f) (hf:∀ i,i<n→SFits (f i)) (h0:0<w.heap.size) (hg:w.cell? ⟨0,0,none⟩=some qB5) (kb:Nat) (hkb:w.heap[kb]?=some (.cells (ks.map (.int .i64)).toArray 3)):
  Calls prog 15 #[.slice p n cap,.slice (some ⟨kb,0,none⟩) n3 n3] w fun e w'=>e=.returned (.bool true)∧Kp [] w w':=by
 have HU:=zh UP;have HS:=zh hS;have HF:=zh hf;have HG:Hid (0<w.heap.size∧w.cell? ⟨0,0,none⟩=some qB5∧w.heap[kb]?=some (.cells (ks.map (.int .i64)).toArray 3)):=⟨h0,hg,hkb⟩;have hkbs:=ζ hkb;have HL3:=zh hl3;clear UP hf h0 hg hl3;go_enter func15,ntmps15;go_wp2_with fail;refine (jE5 p n cap f w hS).mono ?_;rintro e w1 ⟨r,rfl,hr,m,rfl⟩
 cases r with
 | false=>
  go_wp2;go_ret;exact⟨rfl,(Kp.refl _ _).drewN _⟩
 | true=>
  have hn:=hr rfl;clear hr hS hkb;go_wp2
  go_loopw [6,7] (fun l i wr=>∃ (j:Nat) (ops:List SOp) (q:Option Addr) (c:Nat),j≤n∧i=.int .i64 j∧l=.slice q ops.length c∧ops.length≤j∧(∀ o,o∈ops→Fit ks o)∧wr.ownsRow w.heap.size 66 7 (.slice q ops.length c) ops.length (ops.flatMap SOp.cells)∧Kp [] w wr) (fun _ i _=>n-(intOf i).toNat)
  case atStart=>exact⟨0,[],none,0,Nat.zero_le _,rfl,rfl,Nat.zero_le _,by simp,World.ownsRow_nil _ _ _ _,(Kp.refl _ _).drewN _⟩
  case round=>
   obtain⟨j,ops,q,cq,hj,rfl,rfl,hlj,hfit,hrow,hK⟩:=hrel;by_cases hlt:j<n
   ·obtain⟨blk,off,rfl,hblk,hcell⟩:=(HS.out.keep hK) (by omega);have hfj:=HF.out j hlt;have hkb:=hK.hp HG.out.2.2;have hkbs':=ζ hkb;generalize hoj:f j=o at *;have c0:=hcell j hlt 0 (by decide);have c1:=hcell j hlt 1 (by decide);have c2:=hcell j hlt 2 (by decide);have c3:=hcell j hlt 3 (by decide);have c4:=hcell j hlt 4 (by decide);have c5:=hcell j hlt 5 (by decide);have c6:=hcell j hlt 6 (by decide);rw[hoj] at c0 c1 c2 c3 c4 c5 c6;obtain⟨k,x,y,a,b,s,t⟩:=o;simp only[SOp.cells,zH,zI,Nat.add_zero] at c0 c1 c2 c3 c4 c5 c6;have hjb:(j:Int)<(n:Int):=by omega
    have HO:=zh hoj;have HR:Hid (wr.ownsRow w.heap.size 66 7 (.slice q ops.length cq) ops.length (ops.flatMap SOp.cells)∧Kp [] w wr∧(∀ o,o∈ops→Fit ks o)):=⟨hrow,hK,hfit⟩;have HJ:=zh hfj;have HQ:Hid (∀ i,i<n3→∃ kk,wr.cell? ⟨kb,i,none⟩=some (.int .i64 kk)∧kk∈ks):=by
     intro i hi;rw[ξ hkb];have hi':i<ks.length:=by have:=HL3.out;omega
     exact⟨ks[i],by simp[hi'],List.getElem_mem hi'⟩
    clear hcell hrow hK hfit hfj hoj hkb;go_wp2
    go_loop [9,10] (fun q i=>∃ (jj:Nat) (bb:Bool),jj≤n3∧i=.int .i64 jj∧q=.bool bb∧Hid (bb=true→k<4∨k∈ks)) (fun _ i=>n3-(intOf i).toNat)
    case atStart=>exact⟨0,_,Nat.zero_le _,rfl,rfl,fun h=>Or.inl (by simpa using h)⟩
    case round=>
     obtain⟨jj,bb,hjj,rfl,rfl,hin⟩:=hrel;by_cases hlt3:jj<n3
     ·obtain⟨kk,hkk,hkv⟩:=HQ.out jj hlt3;have hj3:(jj:Int)<(n3:Int):=by omega
      have HKV:=zh hkv;clear hkv
      cases bb with
      | true=>
       go_wp2;exact⟨⟨jj+1,true,by omega,by go_num,rfl,hin⟩,by simp[intOf];omega⟩
      | false=>
       go_wp2;exact⟨⟨jj+1,decide (k=kk),by omega,by go_num,rfl,fun h=>by have h:=of_decide_eq_true h;subst h;exact Or.inr HKV.out⟩,by simp[intOf];omega⟩
     ·have hj3:¬(jj:Int)<(n3:Int):=by omega
      cases bb with
      | false=>
       go_wp2;obtain⟨hrow,hK,hfit⟩:=HR.out;exact⟨⟨j+1,ops,q,cq,by omega,by go_num,rfl,by omega,hfit,hrow,hK⟩,by simp[intOf];omega⟩
      | true=>
       have hk4:=hin.out rfl;have HK4:=zh hk4;clear hk4 hin;have hsz:=HR.out.2.1.size;obtain⟨v5,w5,hr5,hrow5,hgr5⟩:=jC9 (wr.alloc (.cells #[.int .i64 k,.int .i64 x,.int .i64 y,.int .i64 a,.int .i64 b,.string s,.string t] 66)) w.heap.size wr.heap.size (.slice q ops.length cq) ops.length _ [.int .i64 k,.int .i64 x,.int .i64 y,.int .i64 a,.int .i64 b,.string s,.string t] rfl 22 (HR.out.1.alloc _) (by omega) (κ _ _) (by simp[Value.oneCell']) (by simp;omega);obtain⟨g5,c5,rfl⟩:=qM9 hrow5;have HR5:Hid (w5.ownsRow w.heap.size 66 7 (.slice (some ⟨g5,0,none⟩) (ops.length+1) c5) (ops.length+1) (ops.flatMap SOp.cells++[.int .i64 k,.int .i64 x,.int .i64 y,.int .i64 a,.int .i64 b,.string s,.string t])∧Kp [] w w5):=⟨hrow5,(HR.out.2.1.alloc _).grown hgr5 (fun k hk=>Or.inr (World.ownsRow.lt HR.out.1 k hk).1)⟩;clear hrow5 hgr5
       go_wp2_with (at_builtin;((with_reducible refine qS0 ?_ ?_ hr5 ?_);rfl;rfl))
       obtain⟨r1,r2⟩:=HR5.out;refine⟨⟨j+1,ops++[⟨k,x,y,a,b,s,t⟩],some ⟨g5,0,none⟩,c5,by omega,by go_num,by simp,by simp;omega,?_,?_,r2⟩,by simp[intOf];omega⟩
       ·intro o ho;rcases List.mem_append.1 ho with ho|ho
        ·exact HR.out.2.2 o ho
        ·rw[List.mem_singleton.1 ho];exact⟨HK4.out,HJ.out⟩
       ·rw[List.length_append,List.flatMap_append];simpa [SOp.cells] using r1
   ·have hjb:¬(j:Int)<(n:Int):=by omega
    have hs:=jD8 hrow;have H0:=hK.size;have hg1:wr.cell? ⟨0,0,none⟩=some qB5:=(hK.cell (a:=⟨0,0,none⟩) HG.out.1 (by simp)).trans HG.out.2.1;go_wp2_with fail;refine (HU.out q ops.length cq _ wr (by omega) (by have:=HG.out.1;omega) hg1 hs (fun i hi=>?_)).mono ?_
    ·have e2:ops.getD i ⟨0,0,0,0,0,⟨#[]⟩,⟨#[]⟩⟩=ops[i]:=by simp[List.getD,hi]
     show Fit ks (ops.getD i _);rw[e2];exact hfit _ (List.getElem_mem hi)
    rintro e w3 ⟨rfl,hK3⟩;go_wp2;go_ret;exact⟨rfl,hK.tr hK3⟩
end Go.Proofs.YtdohpenfkdckiaaGreatDoor.Gw
namespace Go.Proofs.YtdohpenfkdckiaaGreatDoor.Gw
open Go.Proofs.Tryz
open Go.ChangeShapes Go.WideShapes Go.RowKit Go.Deep
theorem zI6:prog.cellsOf 66=7:=by kernel_rfl
theorem xD6:prog.cellsOf 3=1:=by kernel_rfl
theorem xD7:prog.cellsOf 9=1:=by kernel_rfl
section
variable {H:Type} {enc:TypeId × Value→H}
theorem qZ3{n:Int}(h:(Lit.int .i64 n).wf=true):-9223372036854775808≤n∧n≤9223372036854775807:=by
 simp[Lit.wf,IntKind.min,IntKind.max,IntKind.bits,IntKind.signed] at h;omega
theorem xZ4{W:World}{sp:Nat→Bool}{held:Bool}{n:Nat}{cs:List Value}{x:DataW H × List MemPlace}(h:DataW.trod enc prog W 0 sp held n 66 cs=some x):∃ o:SOp,SFits o∧cs=o.cells:=by
 obtain⟨xs,k,hk,hxy,hlen,hxl,hf⟩:=DataW.trod_struct underlying66 h;rw[zI6] at hlen
 match xs,hxl,cs,hlen with
 | [y0,y1,y2,y3,y4,y5,y6],_,[v0,v1,v2,v3,v4,v5,v6],_=>
  have g0:=hf 0 _ rfl;have g1:=hf 1 _ rfl;have g2:=hf 2 _ rfl;have g3:=hf 3 _ rfl;have g4:=hf 4 _ rfl;have g5:=hf 5 _ rfl;have g6:=hf 6 _ rfl;simp[xD6,xD7] at g0 g1 g2 g3 g4 g5 g6;obtain⟨k0,e0,_,f0⟩:=DataW.trod_int underlying3 g0;obtain⟨k1,e1,_,f1⟩:=DataW.trod_int underlying3 g1;obtain⟨k2,e2,_,f2⟩:=DataW.trod_int underlying3 g2;obtain⟨k3,e3,_,f3⟩:=DataW.trod_int underlying3 g3;obtain⟨k4,e4,_,f4⟩:=DataW.trod_int underlying3 g4;obtain⟨s5,e5,_⟩:=DataW.trod_string underlying9 g5;obtain⟨s6,e6,_⟩:=DataW.trod_string underlying9 g6;simp only[List.cons.injEq,and_true] at e0 e1 e2 e3 e4 e5 e6;subst e0 e1 e2 e3 e4 e5 e6;exact⟨⟨k0,k1,k2,k3,k4,s5,s6⟩,⟨qZ3 f1,qZ3 f2,qZ3 f3,qZ3 f4⟩,rfl⟩
theorem xZ5{W:World}{fuel:Nat}{c0:Value}{x:DataW H × List MemPlace}(h:DataW.trod enc prog W 0 (fun _=>true) true fuel 22 [c0]=some x):
  ∃ p n cap f,c0=.slice p n cap∧Script W p n f∧∀ i,i<n→SFits (f i):=by
 rcases open_slice underlying22 h with⟨hc,_⟩|⟨a,len,cap,m,k,D,Pl,hc,_,hl,_,hmm,_,hall⟩
 ·simp only[List.cons.injEq,and_true] at hc;exact⟨none,0,0,fun _=>⟨0,0,0,0,0,⟨#[]⟩,⟨#[]⟩⟩,hc,fun h=>absurd h (by omega),fun i hi=>absurd hi (by omega)⟩
 ·simp only[List.cons.injEq,and_true] at hc;simp only[if_true] at hmm;rw[zI6] at hall
  haveI:Inhabited SOp:=⟨⟨0,0,0,0,0,⟨#[]⟩,⟨#[]⟩⟩⟩
  obtain⟨f,hfs⟩:=choose_lt (n:=len) (p:=fun i (o:SOp)=>SFits o∧∀ c,c<7→W.cell? ((a.add (i*7)).add c)=o.cells[c]?) (fun i hi=>by
   obtain⟨cs',h1,h2⟩:=hall i (by omega);obtain⟨_,hlen,hcell⟩:=World.cells?_some h1;obtain⟨o,ho,rfl⟩:=xZ4 h2;exact⟨o,ho,hcell⟩)
  refine⟨some a,len,cap,f,hc,fun hn=>?_,fun i hi=>(hfs i hi).1⟩;obtain⟨b,off,spot⟩:=a;have h0:=(hfs 0 hn).2 0 (by decide);have hspot:spot=none:=by simpa [Addr.add] using World.cell?_spot (v:=.int .i64 (f 0).k) h0
  subst hspot;refine⟨b,off,rfl,?_,fun i hi c hc=>?_⟩
  ·have h1:W.cell? ⟨b,off,none⟩=some (.int .i64 (f 0).k)  :=by
    have e:(f 0).cells[0]?=some (.int .i64 (f 0).k):=rfl;rw[e] at h0;simpa [Addr.add] using h0
   unfold World.cell? at h1
   cases hb:W.heap[b]? with
   | none=>simp[hb] at h1
   | some o=>exact ζ hb
  ·have:=(hfs i hi).2 c hc;rw[qG4,qG4] at this;exact this
end
theorem zO2:laidOutB prog=true:=by kernel_rfl
theorem jC6:ownKnob prog.godebug=none:=by kernel_rfl
theorem jC3:prog.globalNamed "errors.errorType"=some 0:=by kernel_rfl
theorem jC7:(prog.cutTypes.find? (·.1 == "internal/reflectlite.rtype")).map (·.2)=some 220:=by kernel_rfl
theorem jC5:((List.range 413).filter fun t=>prog.rowNamed t [101,114,114,111,114])=[38]:=by kernel_rfl
theorem jC8:prog.types.size=413:=by kernel_rfl
theorem xT3{W:World}(h:laidMetH prog Rows.movesRow.laid W):W.cell? ⟨0,0,none⟩=some qB5:=by
 have h':laidMet prog (Rows.movesRow.laid.filter fun x=>x.2.handleName?.isNone) W∧handlesMet prog [("errors.errorType",Rows.laid_errors_errorType)] W:=h;obtain⟨name,u,ty,e1,e2,e3,e4,e5⟩:=h'.2 _ (List.mem_singleton.2 rfl);have en:name=[101,114,114,111,114]:=(Option.some.inj e1).symm;subst en;obtain rfl:=Option.some.inj (jC7.symm.trans e2);have hm:ty∈(List.range 413).filter fun t=>prog.rowNamed t [101,114,114,111,114]:=List.mem_filter.2 ⟨List.mem_range.2 (by rw[←jC8];exact e3),e4⟩;rw[jC5] at hm;obtain rfl:=List.mem_singleton.1 hm;have hh:typeHandle prog 38=.pointer (some ⟨5,38,none⟩):=by kernel_rfl
 rw[hh] at e5;simpa [qB5] using World.var?_cell jC3 e5 0
theorem xT7(os:Os)(H:Type)(enc:TypeId × Value→H):
  ∃ (w:World) (tape:Tape) (i:Input),w.os=os∧(w.forCall tape i).Shaped prog∧i.vars=[]∧Input.okWide prog (w.forCall tape i) .any w.heap.size 5 i∧
   ((Rows.movesSpec.pre enc prog f5 [] false (w.forCall tape i).memory i.args∧laidMetH prog Rows.movesRow.laid (w.forCall tape i).memory)∧sizedMet enc prog f5 (OpenSpec.ofChange Rows.movesSpec) false (w.forCall tape i).memory i.args)∧({}:Assume).holds prog (lone (Frame.enter prog 5 i.args .normal) [] (w.forCall tape i)):=
 ChangeSpec.witness_at (enc:=enc) (C:=checked) (os:=os) (X:=fun w _=>laidMetH prog Rows.movesRow.laid w) false ({ World.laidAll prog os (Rows.movesRow.laid.filter fun x=>x.2.handleName?.isNone) with heap:=(World.laidAll prog os (Rows.movesRow.laid.filter fun x=>x.2.handleName?.isNone)).heap.modify 0 fun o=>match o with | .cells _ t frozen=>.cells #[qB5] t frozen | o=>o }) #[.slice none 0 0] 8 rfl (by kernel_rfl) (by kernel_rfl) (by kernel_rfl) (by kernel_rfl) (by kernel_rfl) (laidMetH_of_parts (laidMet_of_run' 8 (by kernel_rfl) (by kernel_rfl)) (by kernel_rfl))
end Go.Proofs.YtdohpenfkdckiaaGreatDoor.Gw
namespace Go.Proofs.YtdohpenfkdckiaaGreatDoor
open Go.Proofs.Tryz
open Go.RowKit
def qF5(pk:Option Addr)(nk ck:Nat)(pd:Option Addr)(nd cd:Nat):Obj:=.cells #[.slice pk nk ck,.slice pd nd cd] 70
theorem qJ7{S:List Nat}{w w':World}{base sz:Nat}{e:TypeId}{v:Value}{n:Nat}{xs:List Value}(h:w.ownsRow base e sz v n xs)(hK:Kp S w w')(hS:Apart w S e):w'.ownsRow base e sz v n xs:=by
 refine⟨h.1,?_⟩;rcases h.2 with h0|⟨g,cap,cur,h1,h2,h3,h4⟩
 ·exact .inl h0
 ·refine .inr ⟨g,cap,cur,h1,h2,hK.heap h3 (fun hm=>?_),h4⟩;obtain⟨c',u,fr',h5,h6⟩:=hS g hm;rw[h3] at h5;cases h5;exact h6 rfl
theorem Apart.nil(w:World)(t:TypeId):Apart w [] t:=fun _ h=>by cases h
theorem qW4{w w':World}{base:Nat}{S:List Nat}(h:w.cell? ⟨0,0,none⟩=some qB5)(hK:Kp S w w')(hb:0<base)(hbs:base≤w.heap.size)(hS:∀ k,k∈S→base≤k):w'.cell? ⟨0,0,none⟩=some qB5:=
 (hK.cell (a:=⟨0,0,none⟩) (by simp;omega) (fun hm=>by have:=hS _ hm;simp at this;omega)).trans h
theorem jA9{α:Type}(R:α→α→Prop):∀ l:List α,l.length≤1→l.Pairwise R
 | [],_=>List.Pairwise.nil
 | [_],_=>List.pairwise_singleton _ _
 | _::_::_,h=>by simp at h
theorem jA3{w:World}{base sz:Nat}{e:TypeId}{p:Option Addr}{n c:Nat}{xs:List Value}(h:w.ownsRow base e sz (.slice p n c) n xs)(hn:1≤n):∃ g cur,p=some ⟨g,0,none⟩∧base≤g∧w.heap[g]?=some (.cells cur e (0,0))∧cur.toList.take (n*sz)=xs:=by
 rcases h.2 with⟨h0,h1⟩|⟨g,cap,cur,h1,h2,h3,h4,h5,h6,h7⟩
 ·omega
 ·cases h1;exact⟨g,cur,rfl,h2,h3,h7⟩
theorem jA1(Wb:Nat)(k x y a b:Int)(s t:ByteArray)(w:World)(hk:k<5):
  Calls prog 124 #[.pointer (some ⟨Wb,0,none⟩),.agg #[.int .i64 k,.int .i64 x,.int .i64 y,.int .i64 a,.int .i64 b,.string s,.string t]] w fun e w'=>e=.returned (.bool false)∧Kp [] w w':=by
 go_enter func124,ntmps124;go_wp2;go_ret;exact⟨rfl,(Kp.refl _ _).alloc _⟩
theorem jA0(Wb:Nat)(k x y a b:Int)(s t:ByteArray)(w:World)(hk:9<k):
  Calls prog 124 #[.pointer (some ⟨Wb,0,none⟩),.agg #[.int .i64 k,.int .i64 x,.int .i64 y,.int .i64 a,.int .i64 b,.string s,.string t]] w fun e w'=>e=.returned (.bool false)∧Kp [] w w':=by
 go_enter func124,ntmps124;go_wp2;go_ret;exact⟨rfl,(Kp.refl _ _).alloc _⟩
theorem jA6(Wb:Nat)(k x y a b:Int)(s t:ByteArray)(w:World)(hk:k<1):
  Calls prog 78 #[.pointer (some ⟨Wb,0,none⟩),.agg #[.int .i64 k,.int .i64 x,.int .i64 y,.int .i64 a,.int .i64 b,.string s,.string t]] w fun e w'=>e=.returned (.bool false)∧Kp [] w w':=by
 have e1:¬k=1:=by omega
 have e2:¬k=2:=by omega
 have e3:¬k=3:=by omega
 have e4:¬k=4:=by omega
 go_enter func78,ntmps78;go_wp2_with fail;refine (jA1 Wb k x y a b s t _ (by omega)).mono ?_;rintro e w1 ⟨rfl,hK1⟩;go_wp2;go_ret;exact⟨rfl,((Kp.refl _ _).alloc _).tr hK1⟩
theorem zR2(Wb:Nat)(k x y a b:Int)(s t:ByteArray)(w:World)(hk:9<k):
  Calls prog 78 #[.pointer (some ⟨Wb,0,none⟩),.agg #[.int .i64 k,.int .i64 x,.int .i64 y,.int .i64 a,.int .i64 b,.string s,.string t]] w fun e w'=>e=.returned (.bool false)∧Kp [] w w':=by
 have e1:¬k=1:=by omega
 have e2:¬k=2:=by omega
 have e3:¬k=3:=by omega
 have e4:¬k=4:=by omega
 go_enter func78,ntmps78;go_wp2_with fail;refine (jA0 Wb k x y a b s t _ hk).mono ?_;rintro e w1 ⟨rfl,hK1⟩;go_wp2;go_ret;exact⟨rfl,((Kp.refl _ _).alloc _).tr hK1⟩
theorem qW6:(prog.info? 3).map (fun i=>(i.zero,i.size,i.bytes))=some (some (.int .i64 0),1,8):=by kernel_rfl
theorem xN2:(prog.info? 119).map (fun i=>(i.zero,i.size,i.bytes))=some (some (.pointer none),1,8):=by kernel_rfl
theorem zS1(w:World)(base g:Nat)(v:Value)(n:Nat)(xs:List Value)(u:Value)(t e ty:TypeId)(z:Value)(ht:prog.underlying t=some (.slice e))(hi:(prog.info? e).map (fun i=>(i.zero,i.size,i.bytes))=some (some z,1,8))(hz:z.cells.size=1)
  (h:w.ownsRow base e 1 v n xs) (hn:n≤1000000) (hg:w.heap[g]?=some (.cells #[u] e)) (hu:u.oneCell'=true) (hb:base≤w.heap.size):
  ∃ v' w',Sem.run prog (Builtin.append_ #[t,t] ty #[v,.slice (some ⟨g,0,none⟩) 1 1]) w=.ok v' w'∧w'.ownsRow base e 1 v' (n+1) (xs++[u])∧w.grownBy w' v.ownBlock:=by
 obtain⟨i0,hi,hz0,hz1,hz2⟩:=info_parts hi;obtain⟨v',w',hr,r1,r2,r3⟩:=run_append_own (P:=prog) w base t ty e i0 _ 1 8 ht hi hz0 hz1 hz2 hz (by decide) v n _ h ⟨g,0,none⟩ 1 1 [u] (by simp) (fun j v hv=>by
  rw[qG4,ξ hg];simpa using hv) (by simpa using hu) (by unfold maxLen;omega) (by omega) hb
 exact⟨v',w',hr,r1,r2⟩
theorem zV1(Z:Array Value)(n:Nat)(h:Z.size=n)(h0:∀ v∈Z.toList,v=.int .u8 0):Z=enc (List.replicate n 0):=by
 apply Array.ext';have e:Z.toList=List.replicate n (.int .u8 0):=List.eq_replicate_iff.2 ⟨by simpa using h,h0⟩;rw[e];simp[enc,qK2]
theorem zM5(m:Nat)(h:8≤m):Fresh (List.replicate (m*128) 0):=by
 have e0:min 128 (m*128-0*128)=128:=by omega
 have e1:min 128 (m*128-1*128)=128:=by omega
 exact⟨by rw[qE8,List.drop_replicate,List.take_replicate,e0];rfl,by rw[qE8,List.drop_replicate,List.take_replicate,e1];rfl⟩
theorem xG0(a:Int):∃ m:Nat,m<1000∧(∀ w,Calls prog 122 #[.int .i64 a] w fun e w'=>e=.returned (.int .i64 m)∧w'=w)∧
  (∀ w,Calls prog 41 #[.int .i64 a] w fun e w'=>e=.returned (.pointer (some ⟨w.heap.size+1,0,none⟩))∧w'=(w.alloc (.cells (enc (List.replicate (m*128) 0)) 115)).alloc (qA1 m w.heap.size (.slice none 0 0) 0 0)):=by
 by_cases ha:a<0
 ·refine⟨0,by omega,fun w=>xB5 a w ha,fun w=>(xY1 w a ha).mono ?_⟩;rintro e w' ⟨rfl,Z,hZ,hZ0,rfl⟩;exact⟨rfl,by rw[zV1 Z _ hZ hZ0]⟩
 ·have h0:=Int.emod_nonneg a (show (1000:Int)≠0 by decide);have h1:=Int.emod_lt_of_pos a (show (0:Int)<1000 by decide);refine⟨(a % 1000).toNat,by omega,fun w=>(xB4 a w ha).mono ?_,fun w=>(xY0 (a % 1000).toNat w (by omega) a (by omega) (by omega)).mono ?_⟩
  ·rintro e w' ⟨rfl,rfl⟩;exact⟨by rw[Int.toNat_of_nonneg h0],rfl⟩
  ·rintro e w' ⟨rfl,Z,hZ,hZ0,rfl⟩;exact⟨rfl,by rw[zV1 Z _ hZ hZ0]⟩
theorem qD4{w:World}{base sz:Nat}{e:TypeId}{v:Value}{n:Nat}{xs:List Value}(h:w.ownsRow base e sz v n xs):∀ k,k∈v.ownBlock.toList→base≤k∧∃ c,w.heap[k]?=some (.cells c e):=by
 intro k hk;rcases h.2 with⟨rfl,_⟩|⟨g,cap,cur,rfl,h2,h3,h4⟩
 ·simp[Value.ownBlock] at hk
 ·simp[Value.ownBlock] at hk;subst hk;exact⟨h2,_,h3⟩
theorem zB6{P:Program}{a:Act}{w w':World}{o:Oper}{s x:Operand}{t:TypeId}{vs vx v':Value}(ho:o.op=.call { callee:=.builtin .append,args:=#[s,x],argTypes:=#[t,t] })(hs:a.eval s=vs)(hx:a.eval x=vx)(hr:Sem.run P (Builtin.append_ #[t,t] o.type #[vs,vx]) w=.ok v' w'):Sem.run P (execOp a.eval o) w=.ok (.value v') w':=by
 unfold execOp;simp only[ho,resolve,invoke,builtin,Sem.run_bind,Sem.run_pure,Result.andThen_ok,List.map_toArray,List.map_cons,List.map_nil,hs,hx,hr]
structure KF where
 A:Nat
 n:Nat
 may:Value
 emp:Bool
 were:Value
 wild:Bool
 bit:Bool
 x:Option Addr
 c:Value
 com:Int
 po:Bool
 ts:Value
 li:Value
 wa:Value
def kob(k:KF):Obj:=
 .cells #[.pointer (some ⟨k.A,0,none⟩),.int .i64 k.n,k.may,.bool k.emp,k.were,.bool k.wild,.bool k.bit,.pointer k.x,k.c,.int .i64 k.com,.bool k.po,k.ts,k.li,k.wa] 130
structure TF where
 x:Nat
 v:Value
 wr:Bool
 dn:Bool
 chg:Int
 most:Int
 com:Int
 stp:Int
 cs:Value
def tob(f:TF):Obj:=
 .cells #[.pointer (some ⟨f.x,0,none⟩),f.v,.bool f.wr,.bool f.dn,.int .i64 f.chg,.int .i64 f.most,.int .i64 f.com,.int .i64 f.stp,f.cs] 197
theorem qD9(v:Value)(k:Option Int)(w:World)(hg:w.cell? ⟨0,0,none⟩=some qB5)(h:ErrV w v k):
  Calls prog 24 #[v] w fun e w'=>e=.returned (.int .i64 (k.getD 0))∧Kp [] w w':=by
 cases k with
 | none=>
  have hv:v=.nilIface:=h;subst hv;exact (qU2 w).mono fun e w' ⟨h1,h2⟩=>⟨h1,by rw[h2];exact Kp.refl _ _⟩
 | some k=>
  obtain⟨F,call,rfl,hF⟩:=h;exact qY9 F call k w hg hF
def qD1(wr dn:Bool)(k v:ByteArray):Int:=if dn then 5 else if wr=false then 6 else if qF6 k=false then 1 else if 12<v.size then 2 else 0
theorem qT7(v cs:Value)(wr dn:Bool)(chg most com stp:Int)(k val:ByteArray)(w:World)(hv:∃ b n c,v=.slice b n c):
  Calls prog 192 #[.agg #[v,.bool wr,.bool dn,.int .i64 chg,.int .i64 most,.int .i64 com,.int .i64 stp],.string k,.string val] w fun e w'=>e=.returned (.int .i64 (qD1 wr dn k val))∧Kp [] w w':=by
 obtain⟨b,n,c,rfl⟩:=hv;have hkey:=zE7 k;obtain⟨kb,hkb⟩:∃ kb,qF6 k=kb:=⟨_,rfl⟩;rw[hkb] at hkey;have HKB:=zh hkb;have HKEY:=zh hkey;clear hkb hkey
 cases dn with
 | true=>
  go_enter func192,ntmps192
  go_wp2_with (go_at_call 198;refine (HKEY.out _).mono ?_;rintro e w' ⟨rfl,rfl⟩)
  go_ret;exact⟨rfl,(Kp.refl _ _).alloc _⟩
 | false=>
  cases wr with
  | false=>
   go_enter func192,ntmps192
   go_wp2_with (go_at_call 198;refine (HKEY.out _).mono ?_;rintro e w' ⟨rfl,rfl⟩)
   go_ret;exact⟨rfl,(Kp.refl _ _).alloc _⟩
  | true=>
   cases kb with
   | false=>
    go_enter func192,ntmps192
    go_wp2_with (go_at_call 198;refine (HKEY.out _).mono ?_;rintro e w' ⟨rfl,rfl⟩)
    go_ret;exact⟨by rw[qD1,HKB.out];rfl,(Kp.refl _ _).alloc _⟩
   | true=>
    by_cases h12:12<val.size
    ·have hb:(12:Int)<(val.size:Int):=by omega
     have HV:=zh h12;clear h12;go_enter func192,ntmps192
     go_wp2_with (go_at_call 198;refine (HKEY.out _).mono ?_;rintro e w' ⟨rfl,rfl⟩)
     go_ret;refine⟨?_,(Kp.refl _ _).alloc _⟩;have:qD1 true false k val=2:=by simp[qD1,HKB.out,HV.out]
     rw[this];rfl
    ·have hb:¬(12:Int)<(val.size:Int):=by omega
     have HV:=zh h12;clear h12;go_enter func192,ntmps192
     go_wp2_with (go_at_call 198;refine (HKEY.out _).mono ?_;rintro e w' ⟨rfl,rfl⟩)
     go_ret;refine⟨?_,(Kp.refl _ _).alloc _⟩;have:qD1 true false k val=0:=by simp[qD1,HKB.out,HV.out]
     rw[this];rfl
def PRow(w:World)(T:TypeId)(v:Value)(tbs:List Nat):Prop:=∃ p c,v=.slice p tbs.length c∧(1≤tbs.length→∃ g cur,p=some ⟨g,0,none⟩∧w.heap[g]?=some (.cells cur T)∧∀ i (h:i<tbs.length),cur[i]?=some (.pointer (some ⟨tbs[i],0,none⟩)))
def qF3(tbs:List Nat):List Value:=tbs.map fun b=>.pointer (some ⟨b,0,none⟩)
theorem PRow.of{w:World}{base:Nat}{T:TypeId}{v:Value}{tbs:List Nat}(h:w.ownsRow base T 1 v tbs.length (qF3 tbs)):PRow w T v tbs:=by
 rcases h.2 with⟨h0,h1⟩|⟨g,cap,cur,h1,h2,h3,h4,h5,h6,h7⟩
 ·exact⟨none,0,by rw[h0,h1],fun h=>by omega⟩
 ·refine⟨some ⟨g,0,none⟩,cap,h1,fun _=>⟨g,cur,rfl,h3,fun i hi=>?_⟩⟩;have e:(qF3 tbs)[i]?=some (.pointer (some ⟨tbs[i],0,none⟩)):=by simp[qF3,hi]
  rw[←h7,List.getElem?_take_of_lt (by omega)] at e;simpa using e
theorem PRow.keep0{w w':World}{T:TypeId}{v:Value}{tbs:List Nat}(h:PRow w T v tbs)(hK:Kp [] w w'):PRow w' T v tbs:=by
 obtain⟨p,c,h1,h2⟩:=h;exact⟨p,c,h1,fun h=>by obtain⟨g,cur,a,b,d⟩:=h2 h;exact⟨g,cur,a,hK.hp b,d⟩⟩
def qE3(com:Int):List (TF × Nat)→Int
 | []=>0
 | (f,l)::fs=>(if f.dn=false∧f.com<com then (l:Int)+4 else 0)+qE3 com fs
theorem zT3(com:Int):∀ a b:List (TF × Nat),qE3 com (a++b)=qE3 com a+qE3 com b
 | [],b=>by simp[qE3]
 | (f,l)::a,b=>by simp only[List.cons_append,qE3,zT3 com a b];omega
theorem zF5(com:Int):∀ a:List (TF × Nat),(∀ x∈a,x.2≤100000)→0≤qE3 com a∧qE3 com a≤100004*a.length
 | [],_=>by simp[qE3]
 | (f,l)::a,h=>by
  have h1:=zF5 com a (fun x hx=>h x (by simp[hx]));have h2:=h (f,l) (by simp);simp only[qE3,List.length_cons];simp only at h2;split<;>omega
theorem zF6{com:Int}:∀ {a:List (TF × Nat)},(∀ x∈a,com≤x.1.com)→qE3 com a=0
 | [],_=>rfl
 | (f,l)::a,h=>by
  have h2:=h (f,l) (by simp);simp only at h2;rw[qE3,if_neg (by omega),zF6 (fun x hx=>h x (by simp[hx]))];rfl
structure TFs(w:World)(k:KF)(tbs:List Nat)(fs:List (TF × Nat)):Prop where
 row:PRow w 132 k.ts tbs
 len:fs.length=tbs.length
 at_:∀ i (h:i<tbs.length) (h':i<fs.length),w.heap[tbs[i]]?=some (tob fs[i].1)∧∃ b c,fs[i].1.v=.slice b fs[i].2 c
theorem TFs.keep0{w w':World}{k:KF}{tbs:List Nat}{fs:List (TF × Nat)}(h:TFs w k tbs fs)(hK:Kp [] w w'):TFs w' k tbs fs:=
 ⟨h.row.keep0 hK,h.len,fun i h1 h2=>⟨hK.heap (h.at_ i h1 h2).1 (by simp),(h.at_ i h1 h2).2⟩⟩
theorem jE9(B:Nat)(k:KF)(tbs:List Nat)(fs:List (TF × Nat))(w:World)(hB:w.heap[B]?=some (kob k))(hT:TFs w k tbs fs)(hn:tbs.length≤100000)(hl:∀ x∈fs,x.2≤100000):
  Calls prog 242 #[.pointer (some ⟨B,0,none⟩)] w fun e w'=>e=.returned (.int .i64 (qE3 k.com fs))∧Kp [] w w':=by
 obtain⟨p,c,hts,hrow⟩:=hT.row;have hBs:=ζ hB;have b9:=ξ hB 9;have b11:=ξ hB 11;simp only[kob,zG,zH,zI] at b9 b11;rw[hts] at b11;have HT:=zh hT;have HROW:=zh hrow;have HL:=zh hl;have HLEN:=zh hT.len;clear hT hrow hl hts hB;go_enter func242,ntmps242;go_wp2_with fail
 go_loopw [3,4] (fun s i wr=>∃ (j:Nat),j≤tbs.length∧i=.int .i64 j∧s=.int .i64 (qE3 k.com (fs.take j))∧∃ d,wr=w.drewN d) (fun _ i _=>tbs.length-(intOf i).toNat)
 case atStart=>exact⟨0,Nat.zero_le _,rfl,rfl,0,rfl⟩
 case round=>
  obtain⟨j,hj,rfl,rfl,d,rfl⟩:=hrel;have hlen:=HLEN.out;have hsb:=zF5 k.com (fs.take j) (fun x hx=>HL.out x (List.mem_of_mem_take hx));have hsl:(fs.take j).length=j:=by simp;omega
  rw[hsl] at hsb;clear hsl;by_cases hlt:j<tbs.length
  ·have hjb:(j:Int)<(tbs.length:Int):=by omega
   have hjf:j<fs.length:=by omega
   obtain⟨g,cur,rfl,hR,hcur⟩:=HROW.out (by omega);obtain⟨hTb,vb,vc,hv⟩:=HT.out.at_ j hlt hjf;have hst:qE3 k.com (fs.take (j+1))=qE3 k.com (fs.take j)+(if fs[j].1.dn=false∧fs[j].1.com<k.com then (fs[j].2:Int)+4 else 0):=by
    rw[List.take_succ_eq_append_getElem hjf,zT3];simp[qE3]
   have hlj:=HL.out fs[j] (List.getElem_mem hjf);obtain⟨⟨f,l⟩,hf⟩:∃ f,fs[j]=f:=⟨_,rfl⟩;obtain⟨tb,htb⟩:∃ tb,tbs[j]=tb:=⟨_,rfl⟩;have hcj:=hcur j hlt;rw[htb] at hcj hTb;rw[hf] at hTb hv hst hlj;simp only at hTb hv hst hlj;have HST:=zh hst;generalize hM:qE3 k.com (fs.take j)=M at *;have hgs:=ζ hR;have hTs:=ζ hTb;have r0:=ξ hR j;rw[hcj] at r0;have t1:=ξ hTb 1;have t3:=ξ hTb 3;have t6:=ξ hTb 6;simp only[tob,zG,zH,zI] at t1 t3 t6;rw[hv] at t1;clear hcur hR hTb hst hf htb hcj hM hv hlen
   cases hdn:f.dn with
   | true=>
    rw[hdn] at t3;go_wp2_with fail
    go_quiet (fail)
    go_wp2;refine⟨⟨j+1,by omega,by go_num,?_,_,rfl⟩,by simp[intOf];omega⟩;rw[HST.out,hdn];simp
   | false=>
    rw[hdn] at t3;by_cases hc:f.com<k.com
    ·go_wp2_with fail
     go_quiet (fail)
     go_wp2;refine⟨⟨j+1,by omega,by go_num,?_,_,rfl⟩,by simp[intOf];omega⟩;rw[HST.out,hdn,if_pos ⟨rfl,hc⟩]
     go_num
    ·go_wp2_with fail
     go_quiet (fail)
     go_wp2;refine⟨⟨j+1,by omega,by go_num,?_,_,rfl⟩,by simp[intOf];omega⟩;rw[HST.out,if_neg (fun h=>by omega)];simp
  ·have hjb:¬(j:Int)<(tbs.length:Int):=by omega
   have HM:Hid (qE3 k.com (fs.take j)=qE3 k.com fs):=by show _=_;rw[List.take_of_length_le (by omega)]
   generalize qE3 k.com (fs.take j)=M at *;clear hlen;go_wp2;go_ret;exact⟨qI0 HM.out,(Kp.refl _ _).drewN _⟩
def qQ2(k:KF)(cl:Nat)(most keys stale:Int):Bool:=
 decide (3*(max (max most keys) (cl:Int))+12+stale≤(k.n:Int)) && !k.wild
theorem xR1(B tb:Nat)(k:KF)(f:TF)(tbs:List Nat)(fs:List (TF × Nat))(keys:Int)(w:World)(hB:w.heap[B]?=some (kob k))(hf:w.heap[tb]?=some (tob f))(hT:TFs w k tbs fs)(hn:tbs.length≤100000)(hl:∀ x∈fs,x.2≤100000)(cb:Option Addr)(cl cc:Nat)(hc:k.c=.slice cb cl cc)(hcl:cl≤100000)(hm0:0≤f.most)(hm1:f.most≤100000)(hk0:0≤keys)(hk1:keys≤100000)(hkn:k.n≤100000):
  Calls prog 195 #[.pointer (some ⟨B,0,none⟩),.pointer (some ⟨tb,0,none⟩),.int .i64 keys] w fun e w'=>e=.returned (.bool (qQ2 k cl f.most keys (qE3 k.com fs)))∧Kp [] w w':=by
 have hBs:=ζ hB;have hTs:=ζ hf;have hsb:=zF5 k.com fs hl;have hfl:=hT.len;have HSTL:Hid (Calls prog 242 #[.pointer (some ⟨B,0,none⟩)] w fun e w'=>e=.returned (.int .i64 (qE3 k.com fs))∧Kp [] w w'):=jE9 B k tbs fs w hB hT hn hl;have HB:=zh hB;have b1:=ξ hB 1;have b5:=ξ hB 5;have b8:=ξ hB 8;simp only[kob,zG,zH,zI] at b1 b5 b8;rw[hc] at b8;have t5:=ξ hf 5;simp only[tob,zG,zH,zI] at t5;clear hB hf hT hl hc;generalize qE3 k.com fs=ST at *;obtain⟨m1,hm1e⟩:∃ m1,max f.most keys=m1:=⟨_,rfl⟩;obtain⟨m2,hm2e⟩:∃ m2,max m1 (cl:Int)=m2:=⟨_,rfl⟩;have HR:Hid (qQ2 k cl f.most keys ST=(decide (3*m2+12+ST≤(k.n:Int)) && !k.wild)):=by show _=_;rw[qQ2,hm1e,hm2e]
 have hm2b:0≤m2∧m2≤100000:=by omega
 have hT4:tbs.length≤100000:=hn;have hST:0≤ST∧ST≤10000500000:=by omega
 clear hsb hfl hn hT4;go_enter func195,ntmps195;by_cases h1:f.most<keys
 ·have e1:m1=keys:=by omega
  subst e1;by_cases h2:m1<(cl:Int)
  ·have e2:m2=(cl:Int):=by omega
   subst e2;clear hm1e hm2e;go_wp2_with fail;refine (show Calls _ _ _ _ _ from HSTL.out).mono ?_;rintro e w1 ⟨rfl,hK1⟩;have hB1:=hK1.hp HB.out;have hB1s:=ζ hB1;have HK1:=zh hK1;clear b1 b5 b8;have b1:=ξ hB1;simp only[kob,zG,zH,zI] at b1;clear hB1 hK1 t5;by_cases hq:3*(cl:Int)+12+ST≤(k.n:Int)
   ·go_wp2;go_ret;exact⟨by rw[HR.out,decide_eq_true hq];rfl,HK1.out⟩
   ·have HQ:Hid (decide (3*(cl:Int)+12+ST≤(k.n:Int))=false):=decide_eq_false hq;go_wp2;go_ret;exact⟨by rw[HR.out,HQ.out];rfl,HK1.out⟩
  ·have e2:m2=m1:=by omega
   subst e2;clear hm1e hm2e;go_wp2_with fail;refine (show Calls _ _ _ _ _ from HSTL.out).mono ?_;rintro e w1 ⟨rfl,hK1⟩;have hB1:=hK1.hp HB.out;have hB1s:=ζ hB1;have HK1:=zh hK1;clear b1 b8;have b1:=ξ hB1;simp only[kob,zG,zH,zI] at b1;clear hB1 hK1 t5;by_cases hq:3*m2+12+ST≤(k.n:Int)
   ·go_wp2;go_ret;exact⟨by rw[HR.out,decide_eq_true hq];rfl,HK1.out⟩
   ·have HQ:Hid (decide (3*m2+12+ST≤(k.n:Int))=false):=decide_eq_false hq;go_wp2;go_ret;exact⟨by rw[HR.out,HQ.out];rfl,HK1.out⟩
 ·have e1:m1=f.most:=by omega
  subst e1;by_cases h2:f.most<(cl:Int)
  ·have e2:m2=(cl:Int):=by omega
   subst e2;clear hm1e hm2e;go_wp2_with fail;refine (show Calls _ _ _ _ _ from HSTL.out).mono ?_;rintro e w1 ⟨rfl,hK1⟩;have hB1:=hK1.hp HB.out;have hB1s:=ζ hB1;have HK1:=zh hK1;clear b1 b8;have b1:=ξ hB1;simp only[kob,zG,zH,zI] at b1;clear hB1 hK1 t5;by_cases hq:3*(cl:Int)+12+ST≤(k.n:Int)
   ·go_wp2;go_ret;exact⟨by rw[HR.out,decide_eq_true hq];rfl,HK1.out⟩
   ·have HQ:Hid (decide (3*(cl:Int)+12+ST≤(k.n:Int))=false):=decide_eq_false hq;go_wp2;go_ret;exact⟨by rw[HR.out,HQ.out];rfl,HK1.out⟩
  ·have e2:m2=f.most:=by omega
   subst e2;clear hm1e hm2e;go_wp2_with fail;refine (show Calls _ _ _ _ _ from HSTL.out).mono ?_;rintro e w1 ⟨rfl,hK1⟩;have hB1:=hK1.hp HB.out;have hB1s:=ζ hB1;have HK1:=zh hK1;clear b1 b8;have b1:=ξ hB1;simp only[kob,zG,zH,zI] at b1;clear hB1 hK1 t5;by_cases hq:3*f.most+12+ST≤(k.n:Int)
   ·go_wp2;go_ret;exact⟨by rw[HR.out,decide_eq_true hq];rfl,HK1.out⟩
   ·have HQ:Hid (decide (3*f.most+12+ST≤(k.n:Int))=false):=decide_eq_false hq;go_wp2;go_ret;exact⟨by rw[HR.out,HQ.out];rfl,HK1.out⟩
def qY0:List TypeId:=[169,99,80,114,115,117]
def ProgS(w:World)(S:List Nat):Prop:=∀ k∈S,0<k∧∀ c t fr,w.heap[k]?=some (.cells c t fr)→t∈qY0
theorem ProgS.stay{w w':World}{S:List Nat}(h:ProgS w S)(hK:Kp S w w'){k:Nat}{c:Array Value}{t:TypeId}{fr:Nat × Nat}(hk:w.heap[k]?=some (.cells c t fr))(ht:t ∉ qY0):w'.heap[k]?=some (.cells c t fr):=
 hK.heap hk fun hm=>ht ((h k hm).2 _ _ _ hk)
theorem ProgS.g0{w w':World}{S:List Nat}(h:ProgS w S)(hK:Kp S w w')(hg:w.cell? ⟨0,0,none⟩=some qB5)(hs:0<w.heap.size):w'.cell? ⟨0,0,none⟩=some qB5:=
 (hK.cell (a:=⟨0,0,none⟩) (by simpa using hs) (fun hm=>by have:=(h _ hm).1;simp at this)).trans hg
theorem ProgS.prow{w w':World}{S:List Nat}(h:ProgS w S)(hK:Kp S w w'){T:TypeId}(hT:T ∉ qY0){v:Value}{tbs:List Nat}(hr:PRow w T v tbs):PRow w' T v tbs:=by
 obtain⟨p,c,h1,h2⟩:=hr;exact⟨p,c,h1,fun hh=>by obtain⟨g,cur,a,b,d⟩:=h2 hh;exact⟨g,cur,a,h.stay hK b hT,d⟩⟩
theorem ProgS.tfs{w w':World}{S:List Nat}(h:ProgS w S)(hK:Kp S w w'){k:KF}{tbs:List Nat}{fs:List (TF × Nat)}(hr:TFs w k tbs fs):TFs w' k tbs fs:=
 ⟨h.prow hK (by decide) hr.row,hr.len,fun i h1 h2=>⟨h.stay hK (hr.at_ i h1 h2).1 (by decide),(hr.at_ i h1 h2).2⟩⟩
theorem ProgS.apt{w:World}{S:List Nat}(h:ProgS w S){Ts:List TypeId}(hT:∀ t∈Ts,t ∉ qY0):Apt w S Ts:=fun k hk c t fr e hm=>hT t hm ((h k hk).2 _ _ _ e)
theorem SPR.slc{w:World}{v:Value}{ps:List KV}(h:SPR w v ps):∃ b n c,v=.slice b n c:=by
 obtain⟨b,c,e⟩:=h.form;exact⟨b,_,c,e⟩
structure ChIn(w:World)(B tb A n C:Nat)(cache:Value)(calls writes:Int)(k:KF)(f:TF)(tbs:List Nat)(fs:List (TF × Nat))(ps:List KV):Prop where
 hB:w.heap[B]?=some (kob k)
 po:k.po=false
 kA:k.A=A
 hA:w.heap[A]?=some (qA1 n C cache calls writes)
 hT:w.heap[tb]?=some (tob f)
 sp:SPR w f.v ps
 sz:ps.length≤50000
 g0:w.cell? ⟨0,0,none⟩=some qB5
 m0:0≤f.most
 m1:f.most≤100000
 c0:0≤f.chg
 c1:f.chg≤100000000
 s0:0≤f.stp
 s1:f.stp≤100000000
theorem zK2(B tb A n C:Nat)(cache:Value)(calls writes:Int)(k:KF)(f:TF)(tbs:List Nat)(fs:List (TF × Nat))(ps:List KV)(key val:ByteArray)(j:Int)(ko:Option Int)(hko:ko=some j)(S:List Nat)(R:World→Prop)(w:World)(hI:ChIn w B tb A n C cache calls writes k f tbs fs ps)(hP:ProgS w S)(hj:qD1 f.wr f.dn key val=j)(hj0:j≠0)(hcall:Calls prog 34 #[.pointer (some ⟨f.x,0,none⟩),.string key,.string val] w fun e w'=>∃ v,e=.returned v∧ErrV w' v ko∧R w'∧Kp S w w'):
  Calls prog 132 #[.pointer (some ⟨B,0,none⟩),.pointer (some ⟨tb,0,none⟩),.string key,.string val,.bool false] w fun e w'=>e=.returned (.bool true)∧∃ w1,R w1∧Kp S w w1∧Kp [] w1 w':=by
 have hBs:=ζ hI.hB;have hTs:=ζ hI.hT;have hAs:=ζ hI.hA;have HI:=zh hI;have HP:=zh hP;have hB:=hI.hB;have hT:=hI.hT;have hkA:=hI.kA;have HCALL:=zh hcall;have b0:=ξ hB 0;simp only[kob,zG,zH,zI] at b0;have t0:=ξ hT 0;simp only[tob,zG,zH,zI] at t0;rw[hkA] at b0;clear hI hP hB hT hkA hcall;go_enter func132,ntmps132;go_wp2_with fail;refine (qE6 A n C cache calls writes w HI.out.hA).mono ?_;rintro e w0 ⟨rfl,rfl⟩;go_wp2_with fail;refine (show Calls _ _ _ _ _ from HCALL.out).mono ?_;rintro e w1 ⟨v,rfl,hv,hR,hK1⟩;have hB1:=HP.out.stay hK1 HI.out.hB (by decide);have hT1:=HP.out.stay hK1 HI.out.hT (by decide);have hsp1:=HI.out.sp.keep hK1 (HP.out.apt (by decide));have hg1:=HP.out.g0 hK1 HI.out.g0 (by omega);have HR:Hid (R w1∧Kp S w0 w1):=⟨hR,hK1⟩;clear b0 t0 hR;go_wp2_with fail;refine (qD9 v ko w1 hg1 hv).mono ?_;rintro e w2 ⟨rfl,hK2⟩;have hB2:=hK2.hp hB1;have hT2:=hK2.hp hT1;have hsp2:=hsp1.keep0 hK2;have hT2s:=ζ hT2;have hB2s:=ζ hB2;have t1:=ξ hT2 1;have t2:=ξ hT2 2;have t3:=ξ hT2 3;have t4:=ξ hT2 4;have t5:=ξ hT2 5;have t6:=ξ hT2 6;have t7:=ξ hT2 7;simp only[tob,zG,zH,zI] at t1 t2 t3 t4 t5 t6 t7;obtain⟨vb,vl,vc,hvv⟩:=hsp2.slc;rw[hvv] at t1;have HVV:=zh hvv;clear hvv
 go_wp2_with (go_at_call 127;refine (qC3 _ _).mono ?_;rintro e w2 ⟨rfl,rfl⟩)
 refine (qT7 (.slice vb vl vc) f.cs f.wr f.dn f.chg f.most f.com f.stp key val _ ⟨_,_,_,rfl⟩).mono ?_;rintro e w3 ⟨rfl,hK3⟩;have hB3:=hK3.hp hB2;have hT3:=hK3.hp hT2;have hsp3:=hsp2.keep0 hK3;have hB3s:=ζ hB3;have hT3s:=ζ hT3;have b10:=ξ hB3 10;simp only[kob,zG,zH,zI] at b10;rw[HI.out.po] at b10;have HK3:Hid (Kp [] w1 w3):=hK2.tr hK3;clear t1 t2 t3 t4 t5 t6 t7 hB1 hT1 hsp1 hg1 hK1 hK2 hK3 hB2 hT2 hsp2 hv;rw[hj];have hjb:¬(j=0):=hj0;clear hj hko;go_wp2;go_ret;exact⟨by simp,w1,HR.out.1,HR.out.2,HK3.out⟩
theorem zK0(B tb A n C:Nat)(cache:Value)(calls writes:Int)(k:KF)(f:TF)(tbs:List Nat)(fs:List (TF × Nat))(ps:List KV)(key val:ByteArray)(j:Int)(ko:Option Int)(hko:ko=some j)(S:List Nat)(R:World→Prop)(w:World)(hI:ChIn w B tb A n C cache calls writes k f tbs fs ps)(hP:ProgS w S)(hj:qD1 f.wr f.dn key ⟨#[]⟩=j)(hj0:j≠0)(hcall:Calls prog 28 #[.pointer (some ⟨f.x,0,none⟩),.string key] w fun e w'=>∃ v,e=.returned v∧ErrV w' v ko∧R w'∧Kp S w w'):
  Calls prog 132 #[.pointer (some ⟨B,0,none⟩),.pointer (some ⟨tb,0,none⟩),.string key,.string val,.bool true] w fun e w'=>e=.returned (.bool true)∧∃ w1,R w1∧Kp S w w1∧Kp [] w1 w':=by
 have hBs:=ζ hI.hB;have hTs:=ζ hI.hT;have hAs:=ζ hI.hA;have HI:=zh hI;have HP:=zh hP;have hB:=hI.hB;have hT:=hI.hT;have hkA:=hI.kA;have HCALL:=zh hcall;have b0:=ξ hB 0;simp only[kob,zG,zH,zI] at b0;have t0:=ξ hT 0;simp only[tob,zG,zH,zI] at t0;rw[hkA] at b0;clear hI hP hB hT hkA hcall;go_enter func132,ntmps132;go_wp2_with fail;refine (qE6 A n C cache calls writes w HI.out.hA).mono ?_;rintro e w0 ⟨rfl,rfl⟩;go_wp2_with fail;refine (show Calls _ _ _ _ _ from HCALL.out).mono ?_;rintro e w1 ⟨v,rfl,hv,hR,hK1⟩;have hB1:=HP.out.stay hK1 HI.out.hB (by decide);have hT1:=HP.out.stay hK1 HI.out.hT (by decide);have hsp1:=HI.out.sp.keep hK1 (HP.out.apt (by decide));have hg1:=HP.out.g0 hK1 HI.out.g0 (by omega);have HR:Hid (R w1∧Kp S w0 w1):=⟨hR,hK1⟩;clear b0 t0 hR;go_wp2_with fail;refine (qD9 v ko w1 hg1 hv).mono ?_;rintro e w2 ⟨rfl,hK2⟩;have hB2:=hK2.hp hB1;have hT2:=hK2.hp hT1;have hsp2:=hsp1.keep0 hK2;have hT2s:=ζ hT2;have hB2s:=ζ hB2;have t1:=ξ hT2 1;have t2:=ξ hT2 2;have t3:=ξ hT2 3;have t4:=ξ hT2 4;have t5:=ξ hT2 5;have t6:=ξ hT2 6;have t7:=ξ hT2 7;simp only[tob,zG,zH,zI] at t1 t2 t3 t4 t5 t6 t7;obtain⟨vb,vl,vc,hvv⟩:=hsp2.slc;rw[hvv] at t1;have HVV:=zh hvv;clear hvv
 go_wp2_with (go_at_call 127;refine (qC3 _ _).mono ?_;rintro e w2 ⟨rfl,rfl⟩)
 refine (qT7 (.slice vb vl vc) f.cs f.wr f.dn f.chg f.most f.com f.stp key ⟨#[]⟩ _ ⟨_,_,_,rfl⟩).mono ?_;rintro e w3 ⟨rfl,hK3⟩;have hB3:=hK3.hp hB2;have hT3:=hK3.hp hT2;have hsp3:=hsp2.keep0 hK3;have hB3s:=ζ hB3;have hT3s:=ζ hT3;have b10:=ξ hB3 10;simp only[kob,zG,zH,zI] at b10;rw[HI.out.po] at b10;have HK3:Hid (Kp [] w1 w3):=hK2.tr hK3;clear t1 t2 t3 t4 t5 t6 t7 hB1 hT1 hsp1 hg1 hK1 hK2 hK3 hB2 hT2 hsp2 hv;rw[hj];have hjb:¬(j=0):=hj0;clear hj hko;go_wp2;go_ret;exact⟨by simp,w1,HR.out.1,HR.out.2,HK3.out⟩
def TF.step(f:TF)(v:Value)(m:Nat):TF:={ f with v:=v,chg:=f.chg+1,most:=if f.most<m then (m:Int) else f.most,stp:=f.stp+1 }
def qU8(f:TF)(tb:Nat)(R:World→Prop)(S:List Nat)(qs:List KV)(w w':World):Prop:=∃ w1 v',R w1∧Kp S w w1∧Kp [tb] w1 w'∧w'.heap[tb]?=some (tob (f.step v' qs.length))∧SPR w' v' qs
theorem zK3(B tb A n C:Nat)(cache:Value)(calls writes:Int)(k:KF)(f:TF)(tbs:List Nat)(fs:List (TF × Nat))(ps:List KV)(key val:ByteArray)(ko:Option Int)(hko:ko=none)(S:List Nat)(R:World→Prop)(w:World)(hI:ChIn w B tb A n C cache calls writes k f tbs fs ps)(hP:ProgS w S)(hj:qD1 f.wr f.dn key val=0)(hcall:Calls prog 34 #[.pointer (some ⟨f.x,0,none⟩),.string key,.string val] w fun e w'=>∃ v,e=.returned v∧ErrV w' v ko∧R w'∧Kp S w w'):
  Calls prog 132 #[.pointer (some ⟨B,0,none⟩),.pointer (some ⟨tb,0,none⟩),.string key,.string val,.bool false] w fun e w'=>e=.returned (.bool true)∧qU8 f tb R S (ins ⟨key,val⟩ ps) w w':=by
 have hBs:=ζ hI.hB;have hTs:=ζ hI.hT;have hAs:=ζ hI.hA;have HI:=zh hI;have HP:=zh hP;have hB:=hI.hB;have hT:=hI.hT;have hkA:=hI.kA;have HCALL:=zh hcall;have b0:=ξ hB 0;simp only[kob,zG,zH,zI] at b0;have t0:=ξ hT 0;simp only[tob,zG,zH,zI] at t0;rw[hkA] at b0;clear hI hP hB hT hkA hcall;go_enter func132,ntmps132;go_wp2_with fail;refine (qE6 A n C cache calls writes w HI.out.hA).mono ?_;rintro e w0 ⟨rfl,rfl⟩;go_wp2_with fail;refine (show Calls _ _ _ _ _ from HCALL.out).mono ?_;rintro e w1 ⟨v,rfl,hv,hR,hK1⟩;have hB1:=HP.out.stay hK1 HI.out.hB (by decide);have hT1:=HP.out.stay hK1 HI.out.hT (by decide);have hsp1:=HI.out.sp.keep hK1 (HP.out.apt (by decide));have hg1:=HP.out.g0 hK1 HI.out.g0 (by omega);have HR:Hid (R w1∧Kp S w0 w1):=⟨hR,hK1⟩;clear b0 t0 hR;go_wp2_with fail;refine (qD9 v ko w1 hg1 hv).mono ?_;rintro e w2 ⟨rfl,hK2⟩;have hB2:=hK2.hp hB1;have hT2:=hK2.hp hT1;have hsp2:=hsp1.keep0 hK2;have hT2s:=ζ hT2;have hB2s:=ζ hB2;have t1:=ξ hT2 1;have t2:=ξ hT2 2;have t3:=ξ hT2 3;have t4:=ξ hT2 4;have t5:=ξ hT2 5;have t6:=ξ hT2 6;have t7:=ξ hT2 7;simp only[tob,zG,zH,zI] at t1 t2 t3 t4 t5 t6 t7;obtain⟨vb,vl,vc,hvv⟩:=hsp2.slc;rw[hvv] at t1;have HVV:=zh hvv;clear hvv
 go_wp2_with (go_at_call 127;refine (qC3 _ _).mono ?_;rintro e w2 ⟨rfl,rfl⟩)
 refine (qT7 (.slice vb vl vc) f.cs f.wr f.dn f.chg f.most f.com f.stp key val _ ⟨_,_,_,rfl⟩).mono ?_;rintro e w3 ⟨rfl,hK3⟩;have hB3:=hK3.hp hB2;have hT3:=hK3.hp hT2;have hsp3:=hsp2.keep0 hK3;have hB3s:=ζ hB3;have hT3s:=ζ hT3;have b10:=ξ hB3 10;simp only[kob,zG,zH,zI] at b10;rw[HI.out.po] at b10;have HK3:Hid (Kp [] w1 w3):=hK2.tr hK3;clear t1 t2 t3 t4 t5 t6 t7 hB1 hT1 hsp1 hg1 hK1 hK2 hK3 hB2 hT2 hsp2 hv;rw[hj];clear hj hko;have t1:=ξ hT3 1;simp only[tob,zG,zH,zI] at t1;rw[HVV.out] at t1;have hsp3':SPR w3 (.slice vb vl vc) ps:=by rw[←HVV.out];exact hsp3
 have HT3:=zh hT3;have HSZ:=zh HI.out.sz;have HSPV:=zh hsp3';have HB3:=zh hB3;clear hT3 hB3 hsp3;go_wp2_with fail;refine (zF0 (.slice vb vl vc) ps ⟨key,val⟩ _ hsp3' (by have:=HSZ.out;omega)).mono ?_;rintro e w4 ⟨v4,rfl,hsp4,hK4⟩;have hT4:=hK4.hp HT3.out;have hT4s:=ζ hT4;obtain⟨b4,c4,hv4⟩:=hsp4.form;obtain⟨m4,hm4⟩:∃ m4:Nat,(ins ⟨key,val⟩ ps).length=m4:=⟨_,rfl⟩;rw[hm4] at hv4;subst hv4;have HSP4:Hid (SPR w4 (.slice b4 m4 c4) (ins ⟨key,val⟩ ps)∧(ins ⟨key,val⟩ ps).length=m4∧Kp [] w3 w4):=⟨hsp4,hm4,hK4⟩;clear hsp4 hm4 hK4 t1 hsp3';have t1:=ξ hT4 1;simp only[tob,zG,zH,zI] at t1;have f1:=ρ hT4 1;go_wp2_with fail;obtain⟨hspE,hl5,hKE⟩:=HSP4.out;obtain⟨w5,hw5,hT5,hN5,hKx⟩:∃ w5,w5=(w4.setCell ⟨tb,1,none⟩ (.slice b4 m4 c4)).alloc (.cells #[.slice b4 m4 c4] 126)∧w5.heap[tb]?=some (tob { f with v:=.slice b4 m4 c4 })∧w5.heap[w4.heap.size]?=some (.cells #[.slice b4 m4 c4] 126)∧Kp [tb] w4 w5:=
  ⟨_,rfl,η _ (μ hT4 1 _),by have e:=κ (w4.setCell ⟨tb,1,none⟩ (.slice b4 m4 c4)) (.cells #[.slice b4 m4 c4] 126);simpa using e,((Kp.refl _ _).sc _).alloc _⟩
 rw[←hw5];have hK5:Kp [tb] w3 w5:=(hKE.mono (by simp)).tr hKx;have hsp5:=hspE.keep hKx (Apt.one hT4 (by decide));clear hw5 t1 f1 hT4 hKx hspE hKE HSP4;have HT5:=zh hT5;have HE5:Hid (Kp [tb] w3 w5∧SPR w5 (.slice b4 m4 c4) (ins ⟨key,val⟩ ps)∧(ins ⟨key,val⟩ ps).length=m4):=⟨hK5,hsp5,hl5⟩;have hT5s:=ζ hT5;have hN5s:=ζ hN5;have t4:=ξ hT5;simp only[tob,zG,zH,zI] at t4;have f4:=ρ hT5;have n0:=ξ hN5 0;simp only[tob,zG,zH,zI] at n0;clear hT5 hK5 hN5 hsp5 hl5;have hw4:wrap64 (f.chg+1)=f.chg+1:=by have h0:=HI.out.c0;have h1:=HI.out.c1;simp only[wrap64];omega
 have hw7:wrap64 (f.stp+1)=f.stp+1:=by have h0:=HI.out.s0;have h1:=HI.out.s1;simp only[wrap64];omega
 by_cases hq:f.most<(m4:Int)
 ·have HST:Hid (f.step (.slice b4 m4 c4) (ins ⟨key,val⟩ ps).length={ f with v:=.slice b4 m4 c4,most:=((m4:Nat):Int),chg:=f.chg+1,stp:=f.stp+1 }):=by show _=_;rw[HE5.out.2.2,TF.step,if_pos hq]
  go_quiet (fail)
  go_wp2
  try rw[hw4,hw7]
  go_ret;have hKF:Kp [tb] w5 ((((w5.drewN nq).setCell ⟨tb,5,none⟩ (.int .i64 m4)).setCell ⟨tb,4,none⟩ (.int .i64 (f.chg+1))).setCell ⟨tb,7,none⟩ (.int .i64 (f.stp+1))):=((((Kp.refl _ w5).drewN nq).sc _).sc _).sc _;refine⟨rfl,w1,.slice b4 m4 c4,HR.out.1,HR.out.2,((HK3.out.mono (by simp)).tr HE5.out.1).tr hKF,?_,HE5.out.2.1.keep hKF (Apt.one HT5.out (by decide))⟩;rw[HST.out];exact μ (μ (μ (show (w5.drewN nq).heap[tb]?=_ from HT5.out) 5 _) 4 _) 7 _
 ·have HST:Hid (f.step (.slice b4 m4 c4) (ins ⟨key,val⟩ ps).length={ f with v:=.slice b4 m4 c4,chg:=f.chg+1,stp:=f.stp+1 }):=by show _=_;rw[HE5.out.2.2,TF.step,if_neg hq]
  go_quiet (fail)
  go_wp2
  try rw[hw4,hw7]
  go_ret;have hKF:Kp [tb] w5 (((w5.drewN nq).setCell ⟨tb,4,none⟩ (.int .i64 (f.chg+1))).setCell ⟨tb,7,none⟩ (.int .i64 (f.stp+1))):=(((Kp.refl _ w5).drewN nq).sc _).sc _;refine⟨rfl,w1,.slice b4 m4 c4,HR.out.1,HR.out.2,((HK3.out.mono (by simp)).tr HE5.out.1).tr hKF,?_,HE5.out.2.1.keep hKF (Apt.one HT5.out (by decide))⟩;rw[HST.out];exact μ (μ (show (w5.drewN nq).heap[tb]?=_ from HT5.out) 4 _) 7 _
theorem zK1(B tb A n C:Nat)(cache:Value)(calls writes:Int)(k:KF)(f:TF)(tbs:List Nat)(fs:List (TF × Nat))(ps:List KV)(key val:ByteArray)(ko:Option Int)(hko:ko=none)(S:List Nat)(R:World→Prop)(w:World)(hI:ChIn w B tb A n C cache calls writes k f tbs fs ps)(hP:ProgS w S)(hj:qD1 f.wr f.dn key ⟨#[]⟩=0)(hcall:Calls prog 28 #[.pointer (some ⟨f.x,0,none⟩),.string key] w fun e w'=>∃ v,e=.returned v∧ErrV w' v ko∧R w'∧Kp S w w'):
  Calls prog 132 #[.pointer (some ⟨B,0,none⟩),.pointer (some ⟨tb,0,none⟩),.string key,.string val,.bool true] w fun e w'=>e=.returned (.bool true)∧qU8 f tb R S (del key ps) w w':=by
 have hBs:=ζ hI.hB;have hTs:=ζ hI.hT;have hAs:=ζ hI.hA;have HI:=zh hI;have HP:=zh hP;have hB:=hI.hB;have hT:=hI.hT;have hkA:=hI.kA;have HCALL:=zh hcall;have b0:=ξ hB 0;simp only[kob,zG,zH,zI] at b0;have t0:=ξ hT 0;simp only[tob,zG,zH,zI] at t0;rw[hkA] at b0;clear hI hP hB hT hkA hcall;go_enter func132,ntmps132;go_wp2_with fail;refine (qE6 A n C cache calls writes w HI.out.hA).mono ?_;rintro e w0 ⟨rfl,rfl⟩;go_wp2_with fail;refine (show Calls _ _ _ _ _ from HCALL.out).mono ?_;rintro e w1 ⟨v,rfl,hv,hR,hK1⟩;have hB1:=HP.out.stay hK1 HI.out.hB (by decide);have hT1:=HP.out.stay hK1 HI.out.hT (by decide);have hsp1:=HI.out.sp.keep hK1 (HP.out.apt (by decide));have hg1:=HP.out.g0 hK1 HI.out.g0 (by omega);have HR:Hid (R w1∧Kp S w0 w1):=⟨hR,hK1⟩;clear b0 t0 hR;go_wp2_with fail;refine (qD9 v ko w1 hg1 hv).mono ?_;rintro e w2 ⟨rfl,hK2⟩;have hB2:=hK2.hp hB1;have hT2:=hK2.hp hT1;have hsp2:=hsp1.keep0 hK2;have hT2s:=ζ hT2;have hB2s:=ζ hB2;have t1:=ξ hT2 1;have t2:=ξ hT2 2;have t3:=ξ hT2 3;have t4:=ξ hT2 4;have t5:=ξ hT2 5;have t6:=ξ hT2 6;have t7:=ξ hT2 7;simp only[tob,zG,zH,zI] at t1 t2 t3 t4 t5 t6 t7;obtain⟨vb,vl,vc,hvv⟩:=hsp2.slc;rw[hvv] at t1;have HVV:=zh hvv;clear hvv
 go_wp2_with (go_at_call 127;refine (qC3 _ _).mono ?_;rintro e w2 ⟨rfl,rfl⟩)
 refine (qT7 (.slice vb vl vc) f.cs f.wr f.dn f.chg f.most f.com f.stp key ⟨#[]⟩ _ ⟨_,_,_,rfl⟩).mono ?_;rintro e w3 ⟨rfl,hK3⟩;have hB3:=hK3.hp hB2;have hT3:=hK3.hp hT2;have hsp3:=hsp2.keep0 hK3;have hB3s:=ζ hB3;have hT3s:=ζ hT3;have b10:=ξ hB3 10;simp only[kob,zG,zH,zI] at b10;rw[HI.out.po] at b10;have HK3:Hid (Kp [] w1 w3):=hK2.tr hK3;clear t1 t2 t3 t4 t5 t6 t7 hB1 hT1 hsp1 hg1 hK1 hK2 hK3 hB2 hT2 hsp2 hv;rw[hj];clear hj hko;have t1:=ξ hT3 1;simp only[tob,zG,zH,zI] at t1;rw[HVV.out] at t1;have hsp3':SPR w3 (.slice vb vl vc) ps:=by rw[←HVV.out];exact hsp3
 have HT3:=zh hT3;have HSZ:=zh HI.out.sz;have HSPV:=zh hsp3';have HB3:=zh hB3;clear hT3 hB3 hsp3;go_wp2_with fail;refine (zF0 (.slice vb vl vc) ps ⟨key,⟨#[]⟩⟩ _ hsp3' (by have:=HSZ.out;omega)).mono ?_;rintro e w4 ⟨v4,rfl,hsp4,hK4⟩;have hT4:=hK4.hp HT3.out;have hT4s:=ζ hT4;obtain⟨b4,c4,hv4⟩:=hsp4.form;obtain⟨m4,hm4⟩:∃ m4:Nat,(ins ⟨key,⟨#[]⟩⟩ ps).length=m4:=⟨_,rfl⟩;rw[hm4] at hv4;subst hv4;have HSP4:Hid (SPR w4 (.slice b4 m4 c4) (ins ⟨key,⟨#[]⟩⟩ ps)∧(ins ⟨key,⟨#[]⟩⟩ ps).length=m4∧Kp [] w3 w4):=⟨hsp4,hm4,hK4⟩;clear hsp4 hm4 hK4 t1 hsp3';have t1:=ξ hT4 1;simp only[tob,zG,zH,zI] at t1;rw[HVV.out] at t1;go_wp2_with fail;have hsp3'':SPR w3 (.slice vb vl vc) ps:=HSPV.out;obtain⟨w4a,hw4a,hT4a,hN4a,hK4a⟩:∃ w4a,w4a=w4.alloc (.cells #[.slice b4 m4 c4] 126)∧w4a.heap[tb]?=some (tob f)∧w4a.heap[w4.heap.size]?=some (.cells #[.slice b4 m4 c4] 126)∧Kp [] w3 w4a:=
  ⟨_,rfl,η _ hT4,κ _ _,HSP4.out.2.2.alloc _⟩
 rw[←hw4a];have hsp4a:=HSPV.out.keep0 hK4a;have h34:=HSP4.out.2.2.size;clear hw4a t1 hT4;refine (jD3 (.slice vb vl vc) ps key _ hsp4a (by have:=HSZ.out;omega)).mono ?_;rintro e w6 ⟨v6,rfl,hsp6,hK6⟩;have hT4:=hK6.hp hT4a;have hN6:=hK6.hp hN4a;have hT6s:=ζ hT4;have hN6s:=ζ hN6;obtain⟨b6,c6,hv6⟩:=hsp6.form;obtain⟨m6,hl5⟩:∃ m6:Nat,(del key ps).length=m6:=⟨_,rfl⟩;rw[hl5] at hv6;subst hv6;have HNE:Hid (w4.heap.size≠tb):=by show w4.heap.size≠tb;omega
 have H34:=zh h34;have HE6:Hid (SPR w6 (.slice b6 m6 c6) (del key ps)∧(del key ps).length=m6∧Kp [] w3 w6):=⟨hsp6,hl5,hK4a.tr hK6⟩;have HN6:=zh hN6;have HT6:=zh hT4;have t1:=ξ hT4 1;simp only[tob,zG,zH,zI] at t1;have f1:=ρ hT4 1;have n0:=ξ hN6 0;simp only[tob,zG,zH,zI] at n0;have g0:=ρ hN6 0;clear hsp6 hl5 hK6 hT4a hN4a hK4a hsp4a hT4 hN6 HSP4 hsp3'' h34;go_wp2_with fail;obtain⟨w5,hw5,hT5,hN5,hKx⟩:∃ w5,w5=(w6.setCell ⟨w4.heap.size,0,none⟩ (.slice b6 m6 c6)).setCell ⟨tb,1,none⟩ (.slice b6 m6 c6)∧w5.heap[tb]?=some (tob { f with v:=.slice b6 m6 c6 })∧w5.heap[w4.heap.size]?=some (.cells #[.slice b6 m6 c6] 126)∧Kp [tb,w4.heap.size] w6 w5:=
  ⟨_,rfl,μ ((qA4 (by have:=HNE.out;omega) _ _).trans HT6.out) 1 _,(qA4 (by have:=HNE.out;omega) _ _).trans (μ HN6.out 0 _),((Kp.refl _ _).sc _).sc _⟩
 rw[←hw5];obtain⟨hspE,hl5,hKE⟩:=HE6.out;have hK5:Kp [tb] w3 w5:=(hKE.mono (by simp)).trans hKx (by intro i hi hlt;have:=H34.out;simp at hi ⊢;omega);have hsp5:=hspE.keep hKx ((Apt.one HT6.out (by decide)).cons (Apt.one HN6.out (by decide)));clear hw5 t1 f1 n0 g0 hKx hspE hKE HE6 HN6 HT6;have HT5:=zh hT5;have HE5:Hid (Kp [tb] w3 w5∧SPR w5 (.slice b6 m6 c6) (del key ps)∧(del key ps).length=m6):=⟨hK5,hsp5,hl5⟩;have hT5s:=ζ hT5;have hN5s:=ζ hN5;have t4:=ξ hT5;simp only[tob,zG,zH,zI] at t4;have f4:=ρ hT5;have n0:=ξ hN5 0;simp only[tob,zG,zH,zI] at n0;clear hT5 hK5 hN5 hsp5 hl5;have hw4:wrap64 (f.chg+1)=f.chg+1:=by have h0:=HI.out.c0;have h1:=HI.out.c1;simp only[wrap64];omega
 have hw7:wrap64 (f.stp+1)=f.stp+1:=by have h0:=HI.out.s0;have h1:=HI.out.s1;simp only[wrap64];omega
 by_cases hq:f.most<(m6:Int)
 ·have HST:Hid (f.step (.slice b6 m6 c6) (del key ps).length={ f with v:=.slice b6 m6 c6,most:=((m6:Nat):Int),chg:=f.chg+1,stp:=f.stp+1 }):=by show _=_;rw[HE5.out.2.2,TF.step,if_pos hq]
  go_quiet (fail)
  go_wp2
  try rw[hw4,hw7]
  go_ret;have hKF:Kp [tb] w5 ((((w5.drewN nq).setCell ⟨tb,5,none⟩ (.int .i64 m6)).setCell ⟨tb,4,none⟩ (.int .i64 (f.chg+1))).setCell ⟨tb,7,none⟩ (.int .i64 (f.stp+1))):=((((Kp.refl _ w5).drewN nq).sc _).sc _).sc _;refine⟨rfl,w1,.slice b6 m6 c6,HR.out.1,HR.out.2,((HK3.out.mono (by simp)).tr HE5.out.1).tr hKF,?_,HE5.out.2.1.keep hKF (Apt.one HT5.out (by decide))⟩;rw[HST.out];exact μ (μ (μ (show (w5.drewN nq).heap[tb]?=_ from HT5.out) 5 _) 4 _) 7 _
 ·have HST:Hid (f.step (.slice b6 m6 c6) (del key ps).length={ f with v:=.slice b6 m6 c6,chg:=f.chg+1,stp:=f.stp+1 }):=by show _=_;rw[HE5.out.2.2,TF.step,if_neg hq]
  go_quiet (fail)
  go_wp2
  try rw[hw4,hw7]
  go_ret;have hKF:Kp [tb] w5 (((w5.drewN nq).setCell ⟨tb,4,none⟩ (.int .i64 (f.chg+1))).setCell ⟨tb,7,none⟩ (.int .i64 (f.stp+1))):=(((Kp.refl _ w5).drewN nq).sc _).sc _;refine⟨rfl,w1,.slice b6 m6 c6,HR.out.1,HR.out.2,((HK3.out.mono (by simp)).tr HE5.out.1).tr hKF,?_,HE5.out.2.1.keep hKF (Apt.one HT5.out (by decide))⟩;rw[HST.out];exact μ (μ (show (w5.drewN nq).heap[tb]?=_ from HT5.out) 4 _) 7 _
theorem zK4(B tb A n C:Nat)(cache:Value)(calls writes:Int)(k:KF)(f:TF)(tbs:List Nat)(fs:List (TF × Nat))(ps:List KV)(key val:ByteArray)(ko:Option Int)(hko:ko=some 3)(S:List Nat)(R:World→Prop)(w:World)(hI:ChIn w B tb A n C cache calls writes k f tbs fs ps)(hP:ProgS w S)(hj:qD1 f.wr f.dn key val=0)(hcall:Calls prog 34 #[.pointer (some ⟨f.x,0,none⟩),.string key,.string val] w fun e w'=>∃ v,e=.returned v∧ErrV w' v ko∧R w'∧Kp S w w')
  (hTF:TFs w k tbs fs) (hn:tbs.length≤100000) (hl:∀ x∈fs,x.2≤100000) (cb:Option Addr) (cl cc:Nat) (hc:k.c=.slice cb cl cc) (hcl:cl≤100000) (hkn:k.n≤100000) (hlen:(ins ⟨key,val⟩ ps).length≤100000) (hroom:qQ2 k cl f.most ((ins ⟨key,val⟩ ps).length:Nat) (qE3 k.com fs)=false):
  Calls prog 132 #[.pointer (some ⟨B,0,none⟩),.pointer (some ⟨tb,0,none⟩),.string key,.string val,.bool false] w fun e w'=>e=.returned (.bool true)∧∃ w1,R w1∧Kp S w w1∧Kp [] w1 w':=by
 have HTF:Hid (TFs w k tbs fs∧tbs.length≤100000∧(∀ x∈fs,x.2≤100000)∧k.c=.slice cb cl cc∧cl≤100000∧k.n≤100000):=⟨hTF,hn,hl,hc,hcl,hkn⟩;have HRO:Hid ((ins ⟨key,val⟩ ps).length≤100000∧qQ2 k cl f.most ((ins ⟨key,val⟩ ps).length:Nat) (qE3 k.com fs)=false):=⟨hlen,hroom⟩;clear hTF hn hl hc hcl hkn hlen hroom;have hBs:=ζ hI.hB;have hTs:=ζ hI.hT;have hAs:=ζ hI.hA;have HI:=zh hI;have HP:=zh hP;have hB:=hI.hB;have hT:=hI.hT;have hkA:=hI.kA;have HCALL:=zh hcall;have b0:=ξ hB 0;simp only[kob,zG,zH,zI] at b0;have t0:=ξ hT 0;simp only[tob,zG,zH,zI] at t0;rw[hkA] at b0;clear hI hP hB hT hkA hcall;go_enter func132,ntmps132;go_wp2_with fail;refine (qE6 A n C cache calls writes w HI.out.hA).mono ?_;rintro e w0 ⟨rfl,rfl⟩;go_wp2_with fail;refine (show Calls _ _ _ _ _ from HCALL.out).mono ?_;rintro e w1 ⟨v,rfl,hv,hR,hK1⟩;have hB1:=HP.out.stay hK1 HI.out.hB (by decide);have hT1:=HP.out.stay hK1 HI.out.hT (by decide);have hsp1:=HI.out.sp.keep hK1 (HP.out.apt (by decide));have hg1:=HP.out.g0 hK1 HI.out.g0 (by omega);have HR:Hid (R w1∧Kp S w0 w1):=⟨hR,hK1⟩;clear b0 t0 hR;go_wp2_with fail;refine (qD9 v ko w1 hg1 hv).mono ?_;rintro e w2 ⟨rfl,hK2⟩;have hB2:=hK2.hp hB1;have hT2:=hK2.hp hT1;have hsp2:=hsp1.keep0 hK2;have hT2s:=ζ hT2;have hB2s:=ζ hB2;have t1:=ξ hT2 1;have t2:=ξ hT2 2;have t3:=ξ hT2 3;have t4:=ξ hT2 4;have t5:=ξ hT2 5;have t6:=ξ hT2 6;have t7:=ξ hT2 7;simp only[tob,zG,zH,zI] at t1 t2 t3 t4 t5 t6 t7;obtain⟨vb,vl,vc,hvv⟩:=hsp2.slc;rw[hvv] at t1;have HVV:=zh hvv;clear hvv
 go_wp2_with (go_at_call 127;refine (qC3 _ _).mono ?_;rintro e w2 ⟨rfl,rfl⟩)
 refine (qT7 (.slice vb vl vc) f.cs f.wr f.dn f.chg f.most f.com f.stp key val _ ⟨_,_,_,rfl⟩).mono ?_;rintro e w3 ⟨rfl,hK3⟩;have hB3:=hK3.hp hB2;have hT3:=hK3.hp hT2;have hsp3:=hsp2.keep0 hK3;have hB3s:=ζ hB3;have hT3s:=ζ hT3;have b10:=ξ hB3 10;simp only[kob,zG,zH,zI] at b10;rw[HI.out.po] at b10;have HK3:Hid (Kp [] w1 w3):=hK2.tr hK3;clear t1 t2 t3 t4 t5 t6 t7 hB1 hT1 hsp1 hg1 hK1 hK2 hK3 hB2 hT2 hsp2 hv;rw[hj];clear hj hko;have t1:=ξ hT3 1;simp only[tob,zG,zH,zI] at t1;rw[HVV.out] at t1;have hsp3':SPR w3 (.slice vb vl vc) ps:=by rw[←HVV.out];exact hsp3
 have HT3:=zh hT3;have HSZ:=zh HI.out.sz;have HSPV:=zh hsp3';have HB3:=zh hB3;clear hT3 hB3 hsp3;go_wp2_with fail;refine (zF0 (.slice vb vl vc) ps ⟨key,val⟩ _ hsp3' (by have:=HSZ.out;omega)).mono ?_;rintro e w4 ⟨v4,rfl,hsp4,hK4⟩;have hT4:=hK4.hp HT3.out;have hT4s:=ζ hT4;obtain⟨b4,c4,hv4⟩:=hsp4.form;obtain⟨m4,hm4⟩:∃ m4:Nat,(ins ⟨key,val⟩ ps).length=m4:=⟨_,rfl⟩;rw[hm4] at hv4;subst hv4;have HSP4:Hid (SPR w4 (.slice b4 m4 c4) (ins ⟨key,val⟩ ps)∧(ins ⟨key,val⟩ ps).length=m4∧Kp [] w3 w4):=⟨hsp4,hm4,hK4⟩;clear hsp4 hm4 hK4 t1 hsp3';go_wp2_with fail;obtain⟨w5,hw5,hKx⟩:∃ w5,w5=w4.alloc (.cells #[.slice b4 m4 c4] 126)∧Kp [] w3 w5:=⟨_,rfl,HSP4.out.2.2.alloc _⟩;rw[←hw5];have hTF5:=((HP.out.tfs HR.out.2 HTF.out.1).keep0 HK3.out).keep0 hKx;have hB5:=hKx.hp HB3.out;have hT5:=hKx.hp HT3.out;have hm4:=HSP4.out.2.1;have hro:=HRO.out;rw[hm4] at hro;clear hw5 hT4;refine (xR1 B tb k f tbs fs (m4:Int) w5 hB5 hT5 hTF5 HTF.out.2.1 HTF.out.2.2.1 cb cl cc HTF.out.2.2.2.1 HTF.out.2.2.2.2.1 HI.out.m0 HI.out.m1 (by omega) (by omega) HTF.out.2.2.2.2.2).mono ?_;rintro e w6 ⟨rfl,hK6⟩;have HE:Hid (Kp [] w1 w6):=(HK3.out.tr hKx).tr hK6;rw[hro.2];clear hro hm4 hTF5 hB5 hT5 hKx hK6;go_wp2;go_ret;exact⟨rfl,w1,HR.out.1,HR.out.2,HE.out⟩
end Go.Proofs.YtdohpenfkdckiaaGreatDoor
