import Derived.Test.YtdohpenfkdckiaaGreatDoorO09
import Derived.Test.YtdohpenfkdckiaaGreatDoorRows
import Derived.ChangeSame
import Derived.ChangeVars
import Derived.JoinedOf
import Derived.RowKit
import Derived.LaidLaws
import Derived.LaidHandle
import Derived.Deep.Slices
import Derived.Stop.Joined
import Derived.Lay
set_option linter.all false
set_option maxRecDepth 100000
set_option maxHeartbeats 20000000
namespace Go.Proofs.YtdohpenfkdckiaaGreatDoor
open Go.Proofs.Tryz
open Go.RowKit
theorem qQ4(c:Int)(w:World)(h0:-9223372036854775808≤c)(h1:c≤9223372036854775807):
  Calls prog 183 #[.int .i64 c] w fun e w'=>∃ j:Nat,e=.returned (.int .i64 j)∧w'=w:=by
 go_enter func183,ntmps183;go_wp2_with fail;refine (qI0 c 600 w h0 h1 (by omega) (by omega)).mono ?_;rintro e w1 ⟨j,rfl,hj,rfl⟩;go_wp2;go_ret;exact⟨j,rfl,rfl⟩
theorem zO5(base Wb:Nat)(T:Int)(x y a b:Int)(s t:ByteArray)(w:World)(h:WOk base T w Wb []):
  Calls prog 124 #[.pointer (some ⟨Wb,0,none⟩),.agg #[.int .i64 5,.int .i64 x,.int .i64 y,.int .i64 a,.int .i64 b,.string s,.string t]] w fun e w'=>e=.returned (.bool true)∧(∃ ds',WOk base (T+2) w' Wb ds')∧Below base w w':=by
 have h':=h;obtain⟨pk,nk,ck,xs,pd,cd,h1,h2,h3,h4⟩:=h.hW;have HH:=zh h';have hWs:=ζ h1;have k1:=ξ h1 1;simp only[ψ,List.length_nil,zG,zH,zI] at k1;clear h h' h1 h2 h3 h4;go_enter func124,ntmps124;go_wp2;go_ret;have hK:Kp [] w (w.alloc (.cells #[.int .i64 5,.int .i64 x,.int .i64 y,.int .i64 a,.int .i64 b,.string s,.string t] 66)):=(Kp.refl _ _).alloc _;exact⟨rfl,⟨[],HH.out.same hK (by omega)⟩,hK.below HH.out.hbs (by simp)⟩
theorem qJ5{P:Program}{a:Act}{w:World}{o:Oper}{t:TypeId}{x:Operand}(ho:o.op=.box t x)(vs:Array Value)(hx:a.eval x=.agg vs):Sem.run P (execOp a.eval o) w=.ok (.value (.pointer (some ⟨w.heap.size,0,none⟩))) (w.alloc (.cells vs t)):=by
 have hrun:Sem.run P (Instr.box t (.agg vs)) w=.ok (.pointer (some ⟨w.heap.size,0,none⟩)) (w.alloc (.cells vs t)):=by
  simp[Instr.box,newVar,newRow,Value.cells]
 unfold execOp;simp only[ho,Sem.run_bind,Sem.run_pure,Result.andThen_ok,hx,hrun]
theorem zO2(base Wb:Nat)(T:Int)(ds:List DG)(x y a b:Int)(s t:ByteArray)(w:World)(h:WOk base T w Wb ds)(hT:T≤50000)(hx0:-9223372036854775808≤x)(hx1:x≤9223372036854775807)(ha0:-9223372036854775808≤a)(ha1:a≤9223372036854775807)(hb0:-9223372036854775808≤b)(hb1:b≤9223372036854775807)(hd:1≤ds.length):
  Calls prog 124 #[.pointer (some ⟨Wb,0,none⟩),.agg #[.int .i64 5,.int .i64 x,.int .i64 y,.int .i64 a,.int .i64 b,.string s,.string t]] w fun e w'=>e=.returned (.bool true)∧(∃ ds',WOk base (T+2) w' Wb ds')∧Below base w w':=by
 have h':=h;obtain⟨pk,nk,ck,xs,pd,cd,h1,h2,h3,h4⟩:=h.hW;obtain⟨gd,cur,rfl,hgd,hcur0,hcur⟩:=qL3 h4 hd;have HH:=zh h';have hWs:=ζ h1;have hgs:=ζ hcur0;have hl:=h.len;have hbs:=h.hbs;have hn0:¬((ds.length:Int)=0):=by omega
 have H1:Hid (w.heap[Wb]?=some (ψ pk nk ck (some ⟨gd,0,none⟩) ds.length cd)∧w.ownsRow base 3 1 (.slice pk nk ck) nk xs∧(nk:Int)≤T∧w.ownsRow base 119 1 (.slice (some ⟨gd,0,none⟩) ds.length cd) ds.length (qB4 ds)):=⟨h1,h2,h3,h4⟩;have k1:=ξ h1 1;simp only[ψ,zG,zH,zI] at k1;clear h h' h2 h3 h4;go_enter func124,ntmps124;go_wp2_with fail;obtain⟨W1,hW1,hO1,hWb1,hR1,hK1⟩:∃ W1,W1=w.alloc (.cells #[.int .i64 5,.int .i64 x,.int .i64 y,.int .i64 a,.int .i64 b,.string s,.string t] 66)∧W1.heap[w.heap.size]?=some (.cells #[.int .i64 5,.int .i64 x,.int .i64 y,.int .i64 a,.int .i64 b,.string s,.string t] 66)∧W1.heap[Wb]?=some (ψ pk nk ck (some ⟨gd,0,none⟩) ds.length cd)∧W1.heap[gd]?=some (.cells cur 119)∧Kp [] w W1:=⟨_,rfl,κ _ _,η _ h1,η _ hcur0,(Kp.refl _ _).alloc _⟩;rw[←hW1];clear hW1 h1 hcur0 k1;have hS0:W1.drew.heap[Wb]?=some (ψ pk nk ck (some ⟨gd,0,none⟩) ds.length cd)∧W1.drew.heap[w.heap.size]?=some (.cells #[.int .i64 5,.int .i64 x,.int .i64 y,.int .i64 a,.int .i64 b,.string s,.string t] 66)∧W1.drew.heap[gd]?=some (.cells cur 119):=⟨hWb1,hO1,hR1⟩;refine wp_region_held_drew (S:=fun W=>W.heap[Wb]?=some (ψ pk nk ck (some ⟨gd,0,none⟩) ds.length cd)∧W.heap[w.heap.size]?=some (.cells #[.int .i64 5,.int .i64 x,.int .i64 y,.int .i64 a,.int .i64 b,.string s,.string t] 66)∧W.heap[gd]?=some (.cells cur 119)) (by kernel_rfl) hS0 (fun _=>?_);refine zP 0 Wb 0 hS0 ?_;refine zP 1 Wb 0 hS0 ?_;refine zP 2 Wb 1 hS0 ?_;refine zV 3 (.slice (some ⟨gd,0,none⟩) ds.length cd) rfl (fun W hS=>by have c:=ξ hS.1 1;simp[ψ] at c;clear hS;go_simp) hS0 ?_;refine zP 4 w.heap.size 1 hS0 ?_;refine zV 5 (.int .i64 x) rfl (fun W hS=>by have c:=ξ hS.2.1 1;simp at c;clear hS;go_simp) hS0 ?_;refine zP 6 Wb 0 hS0 ?_;refine zP 7 Wb 0 hS0 ?_;refine zP 8 Wb 1 hS0 ?_;refine zV 9 (.slice (some ⟨gd,0,none⟩) ds.length cd) rfl (fun W hS=>by have c:=ξ hS.1 1;simp[ψ] at c;clear hS;go_simp) hS0 ?_;refine zU 10 (.int .i64 ds.length) hS0 ?_;refine zq 11 fun K hK=>?_;go_simp;refine (qI0 x ds.length _ hx0 hx1 (by omega) (by omega)).mono ?_;rintro e w2 ⟨j,rfl,hj,rfl⟩;refine hK.out _ _ hS0 (fun _=>?_);clear hK K
 try simp only[zZ]
 refine zU 12 (.pointer (some ⟨gd,j,none⟩)) hS0 ?_;refine zV 13 (.pointer (some ⟨ds[j].B,0,none⟩)) rfl (fun W hS=>by have c:=ξ hS.2.2 j;rw[qL5 hcur j hj] at c;clear hS;go_simp) hS0 ?_;refine zU 14 (.pointer (some ⟨ds[j].B,0,none⟩)) hS0 ?_;refine zd ?_;have hdj:=HH.out.all ds[j] (List.getElem_mem hj);generalize hgj:ds[j]=g at *;obtain⟨B,A,C,n,l,calls,writes,N,pm,m,cm,pw,k,cw,x0⟩:=g;have HD:=zh hdj;obtain⟨bB,bA,bC,hB,hA,hC,len,n1000,calls0,calls1,writes0,writes1,kT,may,were,st⟩:=hdj;simp only at *;clear hgj hS0 st may were calls0 calls1 writes0 writes1 kT hcur hR1;have hB1:=hK1.hp hB;have hA1:=hK1.hp hA;have hC1:=hK1.hp hC;have o0:=ξ hO1;have hOs1:=ζ hO1;have hBs1:=ζ hB1;have k0:=ξ hB1 0;have k1:=ξ hB1 1;simp only[ι,zG,zH,zI] at k0 k1;clear hA hB hC;go_wp2_with fail;refine (qQ4 a _ ha0 ha1).mono ?_;rintro e w2 ⟨ja,rfl,rfl⟩;go_wp2_with fail;refine (qQ4 b _ hb0 hb1).mono ?_;rintro e w2 ⟨jb,rfl,rfl⟩;go_wp2_with fail;refine (qY4 A n C calls writes l _ (show W1.drew.heap[A]?=_ from hA1) (by omega) hC1 len).mono ?_;rintro e w2 ⟨rfl,hK2⟩;have hK2':Kp [] w w2:=hK1.drew.tr hK2;have hB2:=hK2.heap (k:=B) hB1 (by simp);have hWb2:=hK2.heap (k:=Wb) hWb1 (by simp);clear hB1 hA1 hC1 hWb1 hO1 o0 k0 k1 hK1 hK2;have k1:=ξ hB2 1;simp only[ι,zG,zH,zI] at k1;have hBs2:=ζ hB2;go_wp2_with fail;refine (zH9 n l w2 n1000 len).mono ?_;rintro e w3 ⟨rfl,hC3,hA3,hK3⟩;have hK3':Kp [] w w3:=hK2'.tr hK3;have hB3:=hK3.hp hB2;have hWb3:=hK3.hp hWb2;have HS2:=zh hK2'.size;have HS3:=zh hK3'.size;have HLA:Hid (w2.heap.size+1<w3.heap.size):=ζ hA3;clear hB2 hWb2 k1 hK3 hK2';go_wp2_with fail;have h4d:w3.drew.ownsRow base 119 1 (.slice (some ⟨gd,0,none⟩) ds.length cd) ds.length (qB4 ds):=qC3 H1.out.2.2.2 hK3'.drew (Apart.nil _ _);obtain⟨v5,w5,hr5,hrow5,hgr5⟩:=qL7 ((w3.drew.alloc (ι (w2.heap.size+1) n (.slice pm m cm) (.slice pw k cw) none)).alloc (.cells #[.pointer (some ⟨w3.heap.size,0,none⟩)] 119)) base (w3.drew.alloc (ι (w2.heap.size+1) n (.slice pm m cm) (.slice pw k cw) none)).heap.size (.slice (some ⟨gd,0,none⟩) ds.length cd) ds.length (qB4 ds) (.pointer (some ⟨w3.heap.size,0,none⟩)) 68 119 68 (.pointer none) underlying68 qF5 rfl ((h4d.alloc _).alloc _) (by omega) (κ _ _) rfl (by have:=HS3.out;simp;omega);obtain⟨g5,c5,rfl⟩:=qD3 hrow5;have hr6:=hr5;rw[show (w3.drew.alloc (ι (w2.heap.size+1) n (.slice pm m cm) (.slice pw k cw) none)).heap.size=w3.heap.size+1 by simp] at hr6;have hW5:w5.heap[Wb]?=some (ψ pk nk ck (some ⟨gd,0,none⟩) ds.length cd):=by
  have hat:=qG4 h4d;refine Kp.heap (S:=(Value.slice (some ⟨gd,0,none⟩) ds.length cd).ownBlock.toList) ((((Kp.refl _ w3.drew).alloc _).alloc _).grown hgr5 (fun k hk=>Or.inl (by simp[hk]))) hWb3 (fun hm=>?_);obtain⟨_,c,hc⟩:=hat _ hm;rw[show w3.drew.heap[Wb]?=w3.heap[Wb]? from rfl,hWb3] at hc;cases hc
 have HG:=zh hgr5;have HR:=zh hrow5;have HN:Hid (w3.heap[w2.heap.size]?=some (.cells (enc l) 115)∧w3.heap[w2.heap.size+1]?=some (μ n w2.heap.size (.slice none 0 0) 0 0)∧Kp [] w w3):=⟨hC3,hA3,hK3'⟩;have HX:Hid (WOk base (T+2) (w5.setCell ⟨Wb,1,none⟩ (.slice (some ⟨g5,0,none⟩) (ds.length+1) c5)) Wb (ds++[⟨w3.heap.size,w2.heap.size+1,w2.heap.size,n,l,0,0,N,pm,m,cm,pw,k,cw,none⟩])∧Below base w (w5.setCell ⟨Wb,1,none⟩ (.slice (some ⟨g5,0,none⟩) (ds.length+1) c5))):=by
  obtain⟨h1,h2,h3,h4⟩:=H1.out;have hs2:=HS2.out;have hs3:=HS3.out;have hK4:Kp [] w (w3.drew.alloc (ι (w2.heap.size+1) n (.slice pm m cm) (.slice pw k cw) none)):=hK3'.drew.alloc _;refine HH.out.more h1 h2 h3 h4 hK4 ⟨w3.heap.size,w2.heap.size+1,w2.heap.size,n,l,0,0,N,pm,m,cm,pw,k,cw,none⟩ ?_ hs3 (by show w.heap.size≤w2.heap.size+1;omega) hs2 _ hrow5 hgr5 (Int.le_refl _);have hd':=HD.out;have hk1:=hd'.k1;refine⟨by show base≤w3.heap.size;omega,by show base≤w2.heap.size+1;omega,by show base≤w2.heap.size;omega,κ _ _,η _ hA3,η _ hC3,len,n1000,by simp,by show (0:Int)≤6*(T+2);omega,by simp,by show (0:Int)≤2*(T+2);omega,by show (k:Int)≤T+2;simp only at hk1;omega,hd'.may.keep hK4 (Apart.nil _ _),hd'.were.keep hK4 (Apart.nil _ _),?_⟩;rcases hd'.st with h|⟨h1,h2,h3⟩
  ·exact .inl h
  ·exact .inr ⟨h1,by show N≤2*(T+2);simp only at h2;omega,h3⟩
 have u1:=ξ hWb3 1;simp only[ψ,zG,zH,zI] at u1;have v1:=ξ hW5 1;simp only[ψ,zG,zH,zI] at v1;have fv1:=τ hW5 1;have hWs3:=ζ hWb3;clear hrow5 hgr5 hW5 h4d hWb3 hC3 hA3 hK3';refine wp_region_any (by kernel_rfl) ?_;change wpAny _ _ _ _ _ _ _ (World.drew _);refine zu 0 (.pointer (some ⟨Wb,0,none⟩)) ?_;refine zu 1 (.pointer (some ⟨Wb,0,none⟩)) ?_;refine zu 2 (.pointer (some ⟨Wb,0,none⟩)) ?_;refine zu 3 (.pointer (some ⟨Wb,1,none⟩)) ?_;refine zu 5 (.pointer (some ⟨w2.heap.size+1,0,none⟩)) ?_;refine zu 6 (.pointer (some ⟨B,0,none⟩)) ?_;refine zu 7 (.pointer (some ⟨B,0,none⟩)) ?_;refine zu 8 (.pointer (some ⟨B,1,none⟩)) ?_;refine wpAny_ready (rs:=[4,9]) (by kernel_rfl) (by simp) ?_;refine AllReady.cons rfl (fun K hK=>?_) (AllReady.cons rfl (fun K hK=>?_) AllReady.nil)
 ·go_simp;refine hK _ _ ?_;clear hK K
  try simp only[zZ]
  refine zQ 9 fun K hK=>?_;refine qA0 rfl (qE8 (t:=123) rfl (by kernel_rfl) 6 (by kernel_rfl) B 1 rfl (show w3.drew.heap[B]?=_ from hB3) (by simp) (show _=#[.int .i64 n,.slice pm m cm,.bool false,.slice pw k cw,.bool false,.bool false] from rfl)) ?_;refine hK _ _ ?_;clear hK K
  try simp only[zZ]
  refine zu 10 (.agg #[.pointer (some ⟨w2.heap.size+1,0,none⟩),.int .i64 n,.slice pm m cm,.bool false,.slice pw k cw,.bool false,.bool false,.pointer none,.slice none 0 0,.int .i64 0,.bool false,.slice none 0 0,.slice none 0 0,.slice none 0 0]) ?_;refine zQ 11 fun K hK=>?_;refine qA0 rfl (qJ5 rfl #[.pointer (some ⟨w2.heap.size+1,0,none⟩),.int .i64 n,.slice pm m cm,.bool false,.slice pw k cw,.bool false,.bool false,.pointer none,.slice none 0 0,.int .i64 0,.bool false,.slice none 0 0,.slice none 0 0,.slice none 0 0] rfl) ?_;refine hK _ _ ?_;clear hK K
  try simp only[zZ]
  refine zQ 12 fun K hK=>?_;refine qA0 rfl (qD2 rfl (.pointer (some ⟨w3.heap.size,0,none⟩)) _ _ _ underlying68 qF5 rfl rfl (by decide) (by decide)) ?_;refine hK _ _ ?_;clear hK K
  try simp only[zZ]
  refine zQ 13 fun K hK=>?_;refine qA0 rfl (qE7 rfl rfl rfl hr5) ?_;refine hK _ _ ?_;clear hK K
  try simp only[zZ]
  refine zu 14 (.pointer (some ⟨Wb,0,none⟩)) ?_;refine zu 15 (.pointer (some ⟨Wb,1,none⟩)) ?_;refine zQ 16 fun K hK=>?_;go_simp;refine hK _ _ ?_;clear hK K;refine wpAny_done (by kernel_rfl) ?_ _;go_wp2;go_ret;exact⟨rfl,⟨_,HX.out.1⟩,HX.out.2⟩
 ·refine qA0 rfl (qE8 (t:=123) rfl (by kernel_rfl) 6 (by kernel_rfl) B 1 rfl (show w3.drew.heap[B]?=_ from hB3) (by simp) (show _=#[.int .i64 n,.slice pm m cm,.bool false,.slice pw k cw,.bool false,.bool false] from rfl)) ?_;refine hK _ _ ?_;clear hK K
  try simp only[zZ]
  refine zu 10 (.agg #[.pointer (some ⟨w2.heap.size+1,0,none⟩),.int .i64 n,.slice pm m cm,.bool false,.slice pw k cw,.bool false,.bool false,.pointer none,.slice none 0 0,.int .i64 0,.bool false,.slice none 0 0,.slice none 0 0,.slice none 0 0]) ?_;refine wpAny_ready (rs:=[4,11]) (by kernel_rfl) (by simp) ?_;refine AllReady.cons rfl (fun K hK=>?_) (AllReady.cons rfl (fun K hK=>?_) AllReady.nil)
  ·go_simp;refine hK _ _ ?_;clear hK K
   try simp only[zZ]
   refine zQ 11 fun K hK=>?_;refine qA0 rfl (qJ5 rfl #[.pointer (some ⟨w2.heap.size+1,0,none⟩),.int .i64 n,.slice pm m cm,.bool false,.slice pw k cw,.bool false,.bool false,.pointer none,.slice none 0 0,.int .i64 0,.bool false,.slice none 0 0,.slice none 0 0,.slice none 0 0] rfl) ?_;refine hK _ _ ?_;clear hK K
   try simp only[zZ]
   refine zQ 12 fun K hK=>?_;refine qA0 rfl (qD2 rfl (.pointer (some ⟨w3.heap.size,0,none⟩)) _ _ _ underlying68 qF5 rfl rfl (by decide) (by decide)) ?_;refine hK _ _ ?_;clear hK K
   try simp only[zZ]
   refine zQ 13 fun K hK=>?_;refine qA0 rfl (qE7 rfl rfl rfl hr5) ?_;refine hK _ _ ?_;clear hK K
   try simp only[zZ]
   refine zu 14 (.pointer (some ⟨Wb,0,none⟩)) ?_;refine zu 15 (.pointer (some ⟨Wb,1,none⟩)) ?_;refine zQ 16 fun K hK=>?_;go_simp;refine hK _ _ ?_;clear hK K;refine wpAny_done (by kernel_rfl) ?_ _;go_wp2;go_ret;exact⟨rfl,⟨_,HX.out.1⟩,HX.out.2⟩
  ·refine qA0 rfl (qJ5 rfl #[.pointer (some ⟨w2.heap.size+1,0,none⟩),.int .i64 n,.slice pm m cm,.bool false,.slice pw k cw,.bool false,.bool false,.pointer none,.slice none 0 0,.int .i64 0,.bool false,.slice none 0 0,.slice none 0 0,.slice none 0 0] rfl) ?_;refine hK _ _ ?_;clear hK K
   try simp only[zZ]
   refine wpAny_ready (rs:=[4,12]) (by kernel_rfl) (by simp) ?_;refine AllReady.cons rfl (fun K hK=>?_) (AllReady.cons rfl (fun K hK=>?_) AllReady.nil)
   ·go_simp;refine hK _ _ ?_;clear hK K
    try simp only[zZ]
    refine zQ 12 fun K hK=>?_;refine qA0 rfl (qD2 rfl (.pointer (some ⟨w3.heap.size,0,none⟩)) _ _ _ underlying68 qF5 rfl rfl (by decide) (by decide)) ?_;refine hK _ _ ?_;clear hK K
    try simp only[zZ]
    refine zQ 13 fun K hK=>?_;refine qA0 rfl (qE7 rfl rfl rfl hr5) ?_;refine hK _ _ ?_;clear hK K
    try simp only[zZ]
    refine zu 14 (.pointer (some ⟨Wb,0,none⟩)) ?_;refine zu 15 (.pointer (some ⟨Wb,1,none⟩)) ?_;refine zQ 16 fun K hK=>?_;go_simp;refine hK _ _ ?_;clear hK K;refine wpAny_done (by kernel_rfl) ?_ _;go_wp2;go_ret;exact⟨rfl,⟨_,HX.out.1⟩,HX.out.2⟩
   ·refine qA0 rfl (qD2 rfl (.pointer (some ⟨w3.heap.size,0,none⟩)) _ _ _ underlying68 qF5 rfl rfl (by decide) (by decide)) ?_;refine hK _ _ ?_;clear hK K
    try simp only[zZ]
    refine zQ 4 fun K hK=>?_;go_simp;refine hK _ _ ?_;clear hK K
    try simp only[zZ]
    refine zQ 13 fun K hK=>?_;refine qA0 rfl (qE7 rfl rfl rfl hr6) ?_;refine hK _ _ ?_;clear hK K
    try simp only[zZ]
    refine zu 14 (.pointer (some ⟨Wb,0,none⟩)) ?_;refine zu 15 (.pointer (some ⟨Wb,1,none⟩)) ?_;refine zQ 16 fun K hK=>?_;go_simp;refine hK _ _ ?_;clear hK K;refine wpAny_done (by kernel_rfl) ?_ _;go_wp2;go_ret;exact⟨rfl,⟨_,HX.out.1⟩,HX.out.2⟩
theorem zO7(base Wb:Nat)(T:Int)(ds:List DG)(x y a b:Int)(s t:ByteArray)(w:World)(h:WOk base T w Wb ds)(hT:T≤50000)(hx0:-9223372036854775808≤x)(hx1:x≤9223372036854775807)(ha0:-9223372036854775808≤a)(ha1:a≤9223372036854775807)(hb0:-9223372036854775808≤b)(hb1:b≤9223372036854775807):
  Calls prog 78 #[.pointer (some ⟨Wb,0,none⟩),.agg #[.int .i64 5,.int .i64 x,.int .i64 y,.int .i64 a,.int .i64 b,.string s,.string t]] w fun e w'=>e=.returned (.bool true)∧(∃ ds',WOk base (T+2) w' Wb ds')∧Below base w w':=by
 have hK0:Kp [] w (w.alloc (.cells #[.int .i64 5,.int .i64 x,.int .i64 y,.int .i64 a,.int .i64 b,.string s,.string t] 66)):=(Kp.refl _ _).alloc _;have h0:=h.same hK0 (Int.le_refl _);have HB:Hid (Below base w (w.alloc (.cells #[.int .i64 5,.int .i64 x,.int .i64 y,.int .i64 a,.int .i64 b,.string s,.string t] 66))):=hK0.below h.hbs (by simp);have HC:Calls prog 124 #[.pointer (some ⟨Wb,0,none⟩),.agg #[.int .i64 5,.int .i64 x,.int .i64 y,.int .i64 a,.int .i64 b,.string s,.string t]] (w.alloc (.cells #[.int .i64 5,.int .i64 x,.int .i64 y,.int .i64 a,.int .i64 b,.string s,.string t] 66)) fun e w'=>e=.returned (.bool true)∧(∃ ds',WOk base (T+2) w' Wb ds')∧Below base (w.alloc (.cells #[.int .i64 5,.int .i64 x,.int .i64 y,.int .i64 a,.int .i64 b,.string s,.string t] 66)) w':=by
  cases ds with
  | nil=>exact zO5 base Wb T x y a b s t _ h0
  | cons g ds=>exact zO2 base Wb T (g::ds) x y a b s t _ h0 hT hx0 hx1 ha0 ha1 hb0 hb1 (by simp)
 clear h h0 hK0;go_enter func78,ntmps78;go_wp2_with fail;refine HC.mono ?_;rintro e w1 ⟨rfl,⟨ds',h1⟩,h2⟩;have H1:=zh h1;have H2:=zh h2;clear h1 h2 HC;go_wp2;go_ret;exact⟨rfl,⟨ds',H1.out⟩,HB.out.trans H2.out⟩
theorem zS0:qI7:=by
 intro base Wb T ds o w h hf hT0 hT;obtain⟨k,x,y,a,b,s,t⟩:=o;obtain⟨hk,x0,x1,a0,a1,b0,b1⟩:=hf;simp only at *;rcases hk with hk|rfl|rfl|rfl
 ·by_cases h1:k<1
  ·exact qM1 base Wb T ds k x y a b s t w h (fun w1=>zP0 Wb k x y a b s t w1 h1) (Or.inr h1)
  ·have h3:k=1∨k=2∨k=3:=by omega
   rcases h3 with rfl|rfl|rfl
   ·exact qI5 base Wb T ds 1 x y a b s t w h (fun w1 h1=>zO9 base Wb T ds x y a b s t w1 h1 (by omega))
   ·exact qI5 base Wb T ds 2 x y a b s t w h (fun w1 h1=>zP1 base Wb T ds x y a b s t w1 h1)
   ·exact qI5 base Wb T ds 3 x y a b s t w h (fun w1 h1=>zO8 base Wb T ds x y a b s t w1 h1 (by omega))
 ·exact qI5 base Wb T ds 5 x y a b s t w h (fun w1 h1=>zO7 base Wb T ds x y a b s t w1 h1 (by omega) x0 x1 a0 a1 b0 b1)
 ·exact zR9 base Wb T ds x y a b s t w h hT0 hT x0 x1
 ·exact zS1 base Wb T ds x y a b s t w h hT0 hT x0 x1
theorem zN9(p:Option Addr)(n cap:Nat)(f:Nat→SOp)(w:World)(hS:Script w p n f)(hf:∀ i,i<n→(f i).fits)(h0:0<w.heap.size)(hg:w.cell? ⟨0,0,none⟩=some qB2):
  Calls prog 3 #[.slice p n cap] w fun e w'=>e=.returned (.bool true)∧Kp [] w w':=zN8 zS0 p n cap f w hS hf h0 hg
end Go.Proofs.YtdohpenfkdckiaaGreatDoor
namespace Go.Proofs.YtdohpenfkdckiaaGreatDoor
open Go.Proofs.Tryz
open Go.ChangeShapes Go.WideShapes Go.RowKit Go.Deep
theorem qN5:prog.cellsOf 66=7:=by kernel_rfl
theorem qY8:prog.cellsOf 3=1:=by kernel_rfl
theorem qY9:prog.cellsOf 9=1:=by kernel_rfl
section
variable {H:Type} {enc:TypeId × Value→H}
theorem qM5{n:Int}(h:(Lit.int .i64 n).wf=true):-9223372036854775808≤n∧n≤9223372036854775807:=by
 simp[Lit.wf,IntKind.min,IntKind.max,IntKind.bits,IntKind.signed] at h;omega
theorem zN3{W:World}{sp:Nat→Bool}{held:Bool}{n:Nat}{cs:List Value}{x:DataW H × List MemPlace}(h:DataW.trod enc prog W 0 sp held n 66 cs=some x):∃ o:SOp,o.fits∧cs=o.cells:=by
 obtain⟨xs,k,hk,hxy,hlen,hxl,hf⟩:=DataW.trod_struct underlying66 h;rw[qN5] at hlen
 match xs,hxl,cs,hlen with
 | [y0,y1,y2,y3,y4,y5,y6],_,[v0,v1,v2,v3,v4,v5,v6],_=>
  have g0:=hf 0 _ rfl;have g1:=hf 1 _ rfl;have g2:=hf 2 _ rfl;have g3:=hf 3 _ rfl;have g4:=hf 4 _ rfl;have g5:=hf 5 _ rfl;have g6:=hf 6 _ rfl;simp[qY8,qY9] at g0 g1 g2 g3 g4 g5 g6;obtain⟨k0,e0,_,f0⟩:=DataW.trod_int underlying3 g0;obtain⟨k1,e1,_,f1⟩:=DataW.trod_int underlying3 g1;obtain⟨k2,e2,_,f2⟩:=DataW.trod_int underlying3 g2;obtain⟨k3,e3,_,f3⟩:=DataW.trod_int underlying3 g3;obtain⟨k4,e4,_,f4⟩:=DataW.trod_int underlying3 g4;obtain⟨s5,e5,_⟩:=DataW.trod_string underlying9 g5;obtain⟨s6,e6,_⟩:=DataW.trod_string underlying9 g6;simp only[List.cons.injEq,and_true] at e0 e1 e2 e3 e4 e5 e6;subst e0 e1 e2 e3 e4 e5 e6;exact⟨⟨k0,k1,k2,k3,k4,s5,s6⟩,⟨qM5 f1,qM5 f3,qM5 f4⟩,rfl⟩
theorem zN4{W:World}{fuel:Nat}{c0:Value}{x:DataW H × List MemPlace}(h:DataW.trod enc prog W 0 (fun _=>true) true fuel 22 [c0]=some x):
  ∃ p n cap f,c0=.slice p n cap∧Script W p n f∧∀ i,i<n→(f i).fits:=by
 rcases open_slice underlying22 h with⟨hc,_⟩|⟨a,len,cap,m,k,D,Pl,hc,_,hl,_,hmm,_,hall⟩
 ·simp only[List.cons.injEq,and_true] at hc;exact⟨none,0,0,fun _=>⟨0,0,0,0,0,⟨#[]⟩,⟨#[]⟩⟩,hc,fun h=>absurd h (by omega),fun i hi=>absurd hi (by omega)⟩
 ·simp only[List.cons.injEq,and_true] at hc;simp only[if_true] at hmm;rw[qN5] at hall
  haveI:Inhabited SOp:=⟨⟨0,0,0,0,0,⟨#[]⟩,⟨#[]⟩⟩⟩
  obtain⟨f,hfs⟩:=choose_lt (n:=len) (p:=fun i (o:SOp)=>o.fits∧∀ c,c<7→W.cell? ((a.add (i*7)).add c)=o.cells[c]?) (fun i hi=>by
   obtain⟨cs',h1,h2⟩:=hall i (by omega);obtain⟨_,hlen,hcell⟩:=World.cells?_some h1;obtain⟨o,ho,rfl⟩:=zN3 h2;exact⟨o,ho,hcell⟩)
  refine⟨some a,len,cap,f,hc,fun hn=>?_,fun i hi=>(hfs i hi).1⟩;obtain⟨b,off,spot⟩:=a;have h0:=(hfs 0 hn).2 0 (by decide);have hspot:spot=none:=by simpa [Addr.add] using World.cell?_spot (v:=.int .i64 (f 0).k) h0
  subst hspot;refine⟨b,off,rfl,?_,fun i hi c hc=>?_⟩
  ·have h1:W.cell? ⟨b,off,none⟩=some (.int .i64 (f 0).k)  :=by
    have e:(f 0).cells[0]?=some (.int .i64 (f 0).k):=rfl;rw[e] at h0;simpa [Addr.add] using h0
   unfold World.cell? at h1
   cases hb:W.heap[b]? with
   | none=>simp[hb] at h1
   | some o=>exact ζ hb
  ·have:=(hfs i hi).2 c hc;rw[qC1,qC1] at this;exact this
end
theorem qP7:laidOutB prog=true:=by kernel_rfl
theorem zQ1:ownKnob prog.godebug=none:=by kernel_rfl
theorem zP9:prog.globalNamed "errors.errorType"=some 0:=by kernel_rfl
theorem zQ2:(prog.cutTypes.find? (·.1 == "internal/reflectlite.rtype")).map (·.2)=some 220:=by kernel_rfl
theorem zQ0:((List.range 413).filter fun t=>prog.rowNamed t [101,114,114,111,114])=[38]:=by kernel_rfl
theorem zQ3:prog.types.size=413:=by kernel_rfl
theorem zF1{W:World}(h:laidMetH prog Rows.opensRow.laid W):W.cell? ⟨0,0,none⟩=some qB2:=by
 have h':laidMet prog (Rows.opensRow.laid.filter fun x=>x.2.handleName?.isNone) W∧handlesMet prog [("errors.errorType",Rows.laid_errors_errorType)] W:=h;obtain⟨name,u,ty,e1,e2,e3,e4,e5⟩:=h'.2 _ (List.mem_singleton.2 rfl);have en:name=[101,114,114,111,114]:=(Option.some.inj e1).symm;subst en;obtain rfl:=Option.some.inj (zQ2.symm.trans e2);have hm:ty∈(List.range 413).filter fun t=>prog.rowNamed t [101,114,114,111,114]:=List.mem_filter.2 ⟨List.mem_range.2 (by rw[←zQ3];exact e3),e4⟩;rw[zQ0] at hm;obtain rfl:=List.mem_singleton.1 hm;have hh:typeHandle prog 38=.pointer (some ⟨5,38,none⟩):=by kernel_rfl
 rw[hh] at e5;simpa [qB2] using World.var?_cell zP9 e5 0
theorem zQ4(os:Os)(H:Type)(enc:TypeId × Value→H):
  ∃ (w:World) (tape:Tape) (i:Input),w.os=os∧(w.forCall tape i).Shaped prog∧i.vars=[]∧Input.okWide prog (w.forCall tape i) .any w.heap.size 3 i∧
   ((Rows.opensSpec.pre enc prog f3 [] false (w.forCall tape i).memory i.args∧laidMetH prog Rows.opensRow.laid (w.forCall tape i).memory)∧sizedMet enc prog f3 (OpenSpec.ofChange Rows.opensSpec) false (w.forCall tape i).memory i.args)∧({}:Assume).holds prog (lone (Frame.enter prog 3 i.args .normal) [] (w.forCall tape i)):=
 ChangeSpec.witness_at (enc:=enc) (C:=checked) (os:=os) (X:=fun w _=>laidMetH prog Rows.opensRow.laid w) false ({ World.laidAll prog os (Rows.opensRow.laid.filter fun x=>x.2.handleName?.isNone) with heap:=(World.laidAll prog os (Rows.opensRow.laid.filter fun x=>x.2.handleName?.isNone)).heap.modify 0 fun o=>match o with | .cells _ t frozen=>.cells #[qB2] t frozen | o=>o }) #[.slice none 0 0] 8 rfl (by kernel_rfl) (by kernel_rfl) (by kernel_rfl) (by kernel_rfl) (by kernel_rfl) (laidMetH_of_parts (laidMet_of_run' 8 (by kernel_rfl) (by kernel_rfl)) (by kernel_rfl))
end Go.Proofs.YtdohpenfkdckiaaGreatDoor
namespace Go.Proofs.YtdohpenfkdckiaaGreatDoor
open Go.Proofs.Tryz
open Go Go.ChangeShapes Go.WideShapes Go.RowKit Go.Deep
theorem zN7(os:Os)(started:os.Started)(H:Type)(enc:TypeId × Value→H):
  ReturnsInHanded {} checked os 3 .any (fun w args=>(Rows.opensSpec.pre enc prog f3 [] false w args∧laidMetH prog Rows.opensRow.laid w)∧sizedMet enc prog f3 (OpenSpec.ofChange Rows.opensSpec) false w args)
   (Rows.opensSpec.post enc prog f3 false true false false):=by
 refine returnsInHanded_of_change_and (C:=checked) (X:=fun w _=>laidMetH prog Rows.opensRow.laid w) (fun _ _ _ hh h=>h.of_heap hh) zQ1 started (by kernel_rfl) func3 (zQ4 os H enc) ?_;intro W base args ds gs before hval0 hW _ _ hL _;have hval:∀ (j:Nat) t v,f3.params[j]?=some t→args[j]?=some v→Value.okWide prog W .any base t v:=hval0;have hW':=hW;obtain⟨p,q,hA0,hV,rfl,_,_⟩:=hW;have hA:DataW.TrodAll enc prog W 0 (fun _=>true) true f3.params.toList args.toList ds p:=hA0;rw[params3] at hA hval;obtain⟨v0,d0,rfl,rfl,h0⟩:=trodAll_one hA;obtain⟨rfl,rfl⟩:=trodVars_none hV;have h0k:=h0;obtain⟨fuel,hf⟩:=h0;clear hA0 hval0;simp only[List.append_nil] at hW';have hlt:∀ x∈p,x.block<W.heap.size:=fun x hx=>by simpa using hW'.lt x hx
 obtain⟨a0,len,cap,rfl⟩:=okWide_slice underlying22 (hval 0 22 v0 rfl rfl);have hg:=zF1 hL;have h0s:0<W.heap.size:=by
  unfold World.cell? at hg
  cases hb:W.heap[0]? with
  | none=>simp[hb] at hg
  | some o=>exact ζ hb
 obtain⟨p',n',cap',f,hc,hS,hfit⟩:=zN4 (c0:=.slice a0 len cap) (by simpa [Value.cells] using hf);cases hc;have e1:Rows.opensSpec.fn H ([d0]++[])={ results:=[.lit (.bool true)],args:=[d0] }:=by simp[Rows.opensSpec]
 refine (zN9 a0 len cap f W hS hfit h0s hg).mono fun e W' ⟨he,hK⟩=>?_;subst he;have hb:Below W.heap.size W W':=hK.below (Nat.le_refl _) (by simp);refine⟨_,rfl,_,_,_,[],p,[],hW',?_,?_,?_,hb.frame _,fun h=>by cases h⟩
 ·rw[e1];exact trodAll_mk1 (shut_bool underlying4 true)
 ·rw[e1];exact trodAll_mk1 (Below.trod qP7 (by kernel_rfl) (of_decide_eq_true (by kernel_rfl)) h0k hb hlt)
 ·rw[e1];rfl
end Go.Proofs.YtdohpenfkdckiaaGreatDoor
