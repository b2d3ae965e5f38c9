import Derived.Test.YtdohpenfkdckiabGreatDoorB09
set_option linter.all false
set_option maxRecDepth 100000
set_option maxHeartbeats 20000000
namespace Go.Proofs.YtdohpenfkdckiabGreatDoor
open Go.Proofs.Tryz
open Go.RowKit
variable {κ:Nat}
def nx(c:Int):Int:=wrap64 (c+1)
theorem zB1(A n C:Nat)(cache:Value)(calls writes:Int)(w:World)(h:w.heap[A]?=some (χ κ n C cache calls writes)):
  Calls prog 252 #[.pointer (some ⟨A,0,none⟩)] w fun e w'=>e=.returned (.bool false)∧w'=w.setCell ⟨A,2,none⟩ (.int .i64 (nx calls)):=by
 have c2:=ξ h 2;have c5:=ξ h 5;have c6:=ξ h 6;have c7:=ξ h 7;simp at c2 c5 c6 c7;have f2:=ρ h 2;clear h;have hn1:wrap64 (calls+1)=nx calls:=rfl;by_cases hd0:calls<0
 ·have hd:decide (calls<0)=true:=by simp[hd0]
  have he:decide (0≤calls)=false:=by simp;omega
  go_enter func252,ntmps252;go_wp2;go_ret;exact⟨rfl,rfl⟩
 have hd:decide (calls<0)=false:=by simp;omega
 go_enter func252,ntmps252;go_wp2;go_ret;exact⟨rfl,rfl⟩
theorem jO1(A n C:Nat)(calls writes:Int)(i:Nat)(cs:Array Value)(w:World)(h:w.heap[A]?=some (χ κ n C (.slice none 0 0) calls writes))
  (hi:i<n) (hn:n≤1000) (hC:w.heap[C]?=some (.cells cs 87)) (hs:n*128≤cs.size) (hby:allBytes cs) (hAC:C≠A):
  Calls prog 250 #[.pointer (some ⟨A,0,none⟩),.int .i64 i] w fun e w'=>∃ g,e=.returned (.tuple #[.slice (some ⟨g,0,none⟩) 128 128,.nilIface])∧w.heap.size≤g∧
   w'.heap[g]?=some (.cells (qA2 cs (i*128) 128) 5)∧w'.heap[A]?=some (χ κ n C (.slice none 0 0) (nx calls) writes)∧Kp [A] w w':=by
 have c0:=ξ h 0;have c1:=ξ h 1;simp at c0 c1;have hA:=ζ h;have hCs:=ζ hC;go_enter func250,ntmps250;go_wp2_with fail;refine (zB1 A n C _ calls writes _ h).mono ?_;rintro e w1 ⟨rfl,rfl⟩;go_wp2_with fail;refine (zD5 A n C (.slice none 0 0) (nx calls) writes i _ (ω h 2 _) (by omega) (by omega)).mono ?_;rintro e w1 ⟨rfl,rfl⟩
 go_wp2_with (refine xJ1 (.int .u8 0) (.int .u8 0) 1 1 underlying90 Tryz.info5 (by simp[Value.cells]) (by simp[Value.cells]) .i64 .i64 128 rfl rfl (by decide) (by decide) ?_;intro Z hZ hZ0)
 have hN:((w.setCell ⟨A,2,none⟩ (.int .i64 (nx calls))).alloc (.cells Z 5)).heap[w.heap.size]?=some (.cells Z 5):=by
  simpa using μ (w.setCell ⟨A,2,none⟩ (.int .i64 (nx calls))) (.cells Z 5)
 have hC':=θ (.cells Z 5) ((qA7 hAC 2 (.int .i64 (nx calls))).trans hC);rw[qR3 (n:=128) 3 underlying90 Tryz.size5 rfl hN hC' (by omega) (by omega) (qQ4 hby _ _).one];obtain⟨W1,hW1,hK1,hA1,hG1⟩:∃ W1,W1=((w.setCell ⟨A,2,none⟩ (.int .i64 (nx calls))).alloc (.cells Z 5)).setRow w.heap.size (qD3 Z 0 (qA2 cs (i*128) 128))∧Kp [A] w W1∧
   W1.heap[A]?=some (χ κ n C (.slice none 0 0) (nx calls) writes)∧W1.heap[w.heap.size]?=some (.cells (qA2 cs (i*128) 128) 5):=
  ⟨_,rfl,(((Kp.refl _ _).sc _).alloc _).setRow (by simp) _,(setRow_other _ _ _ _ (by omega)).trans (θ _ (ω h 2 _)),by
   rw[setRow_heap _ _ _ _ _ _ hN,qJ6 (by rw[qO3 (by omega)];omega)]⟩
 rw[←hW1];clear hW1 hN hC' c0 c1 h;have c1:=ξ hA1 1;simp at c1;go_wp2;refine wp_loop_rounds 1 ?_;rw[rounds_succ];go_wp2
 go_ret2
 exact⟨_,rfl,Nat.le_refl _,hG1,hA1,hK1⟩
theorem zJ6(V A n C:Nat)(calls writes:Int)(i:Nat)(l:List UInt8)(w:World)(hV:w.heap[V]?=some (qB8 A n))(h:w.heap[A]?=some (χ κ n C (.slice none 0 0) calls writes))
  (hi:i<n) (hn:n≤1000) (hC:w.heap[C]?=some (.cells (enc l) 87)) (hs:n*128≤l.length) (hAC:C≠A) (hVA:V≠A):
  Calls prog 151 #[.pointer (some ⟨V,0,none⟩),.int .i64 i] w fun e w'=>e=.returned (.agg (enc (ι l i)))∧
   w'.heap[A]?=some (χ κ n C (.slice none 0 0) (nx calls) writes)∧Kp [A] w w':=by
 have c0:=ξ hV 0;simp at c0;have hVs:=ζ hV;have hA:=ζ h;have hCs:=ζ hC;go_enter func151,ntmps151;go_wp2_with fail;refine (jO1 A n C calls writes i (enc l) _ (θ _ h) hi hn (θ _ hC) (by rw[qF2];exact hs) (qH3 l) hAC).mono ?_;rintro e w1 ⟨g,rfl,hg,hG,hA1,hK1⟩;rw[qL6] at hG;have hb:ι l i=(l.drop (i*128)).take 128:=rfl;rw[←hb] at hG;have hbl:(ι l i).length=128:=by simp[ι];omega
 clear hb;obtain⟨bl,hb0⟩:∃ bl,ι l i=bl:=⟨_,rfl⟩;rw[hb0] at hG hbl;have HB:=zh hb0;clear hb0;have hR:w1.heap[w.heap.size]?=some (.cells zeroCells223 223):=hK1.heap (μ _ _) (by simp;omega);have hK2:Kp [A] w w1:=((Kp.refl _ _).alloc _).tr hK1;have hgs:w.heap.size+1≤g:=by simpa using hg
 have hg1:=ζ hG;have hA1s:=ζ hA1;clear hK1 hg c0;go_wp2_with fail;have hN:=μ w1 (.cells zeroCells223 223);rw[qR3 (n:=128) 3 underlying90 Tryz.size5 rfl hN (θ _ hG) (by simp[qH9]) (by rw[qF2];omega) (qQ4 (qH3 _) _ _).one];rw[qL6,List.drop_zero,List.take_of_length_le (by omega),qJ6 (by rw[qH9,qF2,hbl])];obtain⟨W2,hW2,hK3,hA3,hR3,hB3⟩:∃ W2,W2=(w1.alloc (.cells zeroCells223 223)).setRow w1.heap.size (enc bl)∧Kp [A] w W2∧W2.heap[A]?=some (χ κ n C (.slice none 0 0) (nx calls) writes)∧
   W2.heap[w.heap.size]?=some (.cells zeroCells223 223)∧W2.heap[w1.heap.size]?=some (.cells (enc bl) 223):=
  ⟨_,rfl,(hK2.alloc _).setRow (Or.inr hK2.size) _,(setRow_other _ _ _ _ (by omega)).trans (θ _ hA1),(setRow_other _ _ _ _ (by omega)).trans (θ _ hR),setRow_heap _ _ _ _ _ _ hN⟩
 rw[←hW2];clear hW2 hN;have hpp:qA2 (enc bl) 0 128=enc bl:=by rw[qL6,List.drop_zero,List.take_of_length_le (by omega)]
 have hes:(enc bl).size=128:=by rw[qF2,hbl]
 go_wp2_with (
  with_reducible refine qQ1 (t:=223) ?_ 128 ?_ w1.heap.size 0 ?_ (enc bl) 223 (0,0) ?_ ?_ ?_
  ·kernel_rfl
  ·kernel_rfl
  ·rfl
  ·exact hB3
  ·rw[qF2];omega)
 rw[qM0 hR3 (by simp[qH9,hes]) (qH3 bl).one];rw[show (enc bl).toList.toArray=enc bl from by simp,qJ6 (by rw[qH9,hes])];obtain⟨W3,hW3,hK4,hA4,hR4⟩:∃ W3,W3=W2.setRow w.heap.size (enc bl)∧Kp [A] w W3∧W3.heap[A]?=some (χ κ n C (.slice none 0 0) (nx calls) writes)∧W3.heap[w.heap.size]?=some (.cells (enc bl) 223):=
  ⟨_,rfl,hK3.setRow (by simp) _,(setRow_other _ _ _ _ (by omega)).trans hA3,setRow_heap _ _ _ _ _ _ hR3⟩
 rw[←hW3];clear hW3;go_wp2_with fail;exact bodyPost_ret (results_cell_row results151 _ _ w.heap.size _ _ _ _ rfl hR4 underlying223 rfl (by rw[hes];kernel_rfl)) rfl ⟨by rw[HB.out],hA4,hK4⟩
theorem xX8(A n C:Nat)(calls writes:Int)(w:World)(h:w.heap[A]?=some (χ κ n C (.slice none 0 0) calls writes)):
  Calls prog 249 #[.pointer (some ⟨A,0,none⟩)] w fun e w'=>e=.returned .nilIface∧w'.heap[A]?=some (χ κ n C (.slice none 0 0) (nx calls) writes)∧Kp [A] w w':=by
 have c1:=ξ h 1;simp at c1;have f1:=ρ h 1;go_enter func249,ntmps249;go_wp2_with fail;refine (zB1 A n C _ calls writes _ h).mono ?_;rintro e w1 ⟨rfl,rfl⟩;go_wp2;refine wp_loop_rounds 1 ?_;rw[rounds_succ];go_wp2;go_ret;refine⟨rfl,?_,((Kp.refl _ _).sc _).sc _⟩;exact ω (ω h 2 _) 1 _
variable {κ:Nat}
theorem qF8{w w':World}{S:List Nat}{base:Nat}{e:TypeId}{sz:Nat}{v:Value}{n:Nat}{xs:List Value}(h:w.ownsRow base e sz v n xs)(hK:Kp S w w')(hS:Apt w S [e]):w'.ownsRow base e sz v n xs:=by
 refine⟨h.1,?_⟩;rcases h.2 with h1|⟨g,cap,cur,h1,h2,h3,h4⟩
 ·exact Or.inl h1
 ·exact Or.inr ⟨g,cap,cur,h1,h2,hK.heap h3 (fun hm=>hS g hm _ _ _ h3 (by simp)),h4⟩
variable {κ:Nat}
def wcs(x:Nat × List UInt8):List Value:=.int .i64 (x.1:Int)::qC6 x.2
def laidAll(l:List UInt8)(ws:List (Nat × List UInt8)):List UInt8:=ws.foldl (fun l x=>qC8 l x.1 x.2) l
theorem jG7(l:List UInt8)(ws:List (Nat × List UInt8))(j:Nat)(h:j<ws.length):laidAll l (ws.take (j+1))=qC8 (laidAll l (ws.take j)) ws[j].1 ws[j].2:=by
 unfold laidAll;rw[List.take_succ_eq_append_getElem h,List.foldl_append];rfl
theorem qV4(l b:List UInt8)(i n:Nat)(hb:b.length=128)(hl:n*128≤l.length)(hi:i<n):n*128≤(qC8 l i b).length:=by
 unfold qC8;simp only[List.length_append,List.length_take,List.length_drop];omega
theorem zI2(n:Nat)(ws:List (Nat × List UInt8)):∀ (l:List UInt8),n*128≤l.length→(∀ x∈ws,x.1<n∧x.2.length=128)→n*128≤(laidAll l ws).length:=by
 induction ws with
 | nil=>intro l h _;exact h
 | cons a ws ih=>
  intro l h hw;have h1:=hw a (by simp);exact ih _ (qV4 l a.2 a.1 n h1.2 h h1.1) (fun x hx=>hw x (by simp[hx]))
theorem zT9{α β:Type}(f:α→List β)(m:Nat)(l:List α):(∀ x∈l,(f x).length=m)→∀ j (h:j<l.length),((l.flatMap f).drop (j*m)).take m=f l[j]:=by
 induction l with
 | nil=>intro _ j h;cases h
 | cons a l ih=>
  intro hm j h;have ha:=hm a (by simp)
  cases j with
  | zero=>
   simp only[Nat.zero_mul,List.drop_zero,List.flatMap_cons,zF];rw[List.take_append_of_le_length (by omega),List.take_of_length_le (by omega)]
  | succ j=>
   simp only[List.flatMap_cons,zE];rw[show (j+1)*m=(f a).length+j*m from by rw[ha,Nat.succ_mul];omega,←List.drop_drop,List.drop_left];exact ih (fun x hx=>hm x (by simp[hx])) j (by simpa using h)
theorem xX6(A n C base:Nat)(v:Value)(ws:List (Nat × List UInt8))(calls writes:Int)(l:List UInt8)(w:World)(h:w.heap[A]?=some (χ κ n C v calls writes))
  (hv:w.ownsRow base 89 129 v ws.length (ws.flatMap wcs)) (hws:∀ x∈ws,x.1<n∧x.2.length=128) (hwl:ws.length≤100000) (hn:n≤1000) (hC:w.heap[C]?=some (.cells (enc l) 87)) (hs:n*128≤l.length) (hAC:C≠A):
  Calls prog 249 #[.pointer (some ⟨A,0,none⟩)] w fun e w'=>e=.returned .nilIface∧w'.heap[A]?=some (χ κ n C (.slice none 0 0) (nx calls) writes)∧
   w'.heap[C]?=some (.cells (enc (laidAll l ws)) 87)∧Kp [A,C] w w':=by
 rcases hv.2 with⟨rfl,hl0⟩|⟨g,cap,cur,rfl,hgb,hg,hle,_,hcs,hcur⟩
 ·have e:=List.eq_nil_of_length_eq_zero hl0;subst e;refine (xX8 A n C calls writes w h).mono ?_;rintro e w1 ⟨rfl,hA,hK⟩;exact⟨rfl,hA,hK.heap hC (by simpa using hAC),hK.mono (by simp)⟩
 have HWS:=zh hws;have HCUR:=zh hcur;have HS:=zh hs;have hgA:g≠A:=by intro e;subst e;rw[h] at hg;simp[χ] at hg
 have hgC:g≠C:=by intro e;subst e;rw[hC] at hg;simp at hg
 have hAlt:=ζ h;have hClt:=ζ hC;have hglt:=ζ hg;have HCS:Hid (ws.length*129≤cur.size):=by show _≤_;rw[hcs];exact Nat.mul_le_mul_right _ hle
 have c1:=ξ h 1;simp at c1;have f1:=ρ h 1;have HN:=zh hn;clear hv hws hcur hs hcs hle;go_enter func249,ntmps249;go_wp2_with fail;refine (zB1 A n C _ calls writes _ h).mono ?_;rintro e w1 ⟨rfl,rfl⟩;have hA0:=ω h 2 (.int .i64 (nx calls));have hC0:=(qA7 hAC 2 (.int .i64 (nx calls))).trans hC;have hg0:=(qA7 hgA 2 (.int .i64 (nx calls))).trans hg;have hK0:Kp [A,C] w (w.setCell ⟨A,2,none⟩ (.int .i64 (nx calls))):=(Kp.refl _ _).sc _;go_wp2
 go_loopw [13] (fun i wr=>∃ (j:Nat),j≤ws.length∧i=.int .i64 j∧Hid (wr.heap[A]?=some (χ κ n C (.slice (some ⟨g,0,none⟩) ws.length cap) (nx calls) writes))∧Hid (wr.heap[C]?=some (.cells (enc (laidAll l (ws.take j))) 87))∧Hid (wr.heap[g]?=some (.cells cur 89))∧Hid (Kp [A,C] w wr)) (fun i _=>ws.length-(intOf i).toNat)
 case atStart=>exact⟨0,Nat.zero_le _,rfl,hA0,hC0,hg0,hK0⟩
 case round=>
  obtain⟨j,hj,rfl,HA,HC,HG,HK⟩:=hrel;clear hA0 hC0 hg0 hK0 h hC hg c1 f1;by_cases hlt:j<ws.length
  ·have hjb:(j:Int)<(ws.length:Int):=by omega
   obtain⟨hi,hbl⟩:=HWS.out ws[j] (List.getElem_mem hlt);obtain⟨X,hX⟩:∃ X,X=(wcs ws[j]).toArray:=⟨_,rfl⟩;obtain⟨i,hie⟩:∃ i,i=ws[j].1:=⟨_,rfl⟩;obtain⟨bs,hbs⟩:∃ bs,bs=enc ws[j].2:=⟨_,rfl⟩;have hsz:bs.size=128:=by rw[hbs,qF2];exact hbl
   have hby:allBytes bs:=by rw[hbs];exact qH3 _
   have hXl:X=(.int .i64 (i:Int)::bs.toList).toArray:=by rw[hX,hie,hbs];simp[wcs,enc]
   have hXs:X.size=129:=by rw[hXl];simp[hsz]
   have hX0:X[0]?=some (.int .i64 i):=by rw[hXl];rfl
   have hXp:qA2 X 1 128=bs:=by rw[hXl];simp[qA2,List.take_of_length_le,hsz]
   have hX1:∀ v∈X.toList,v.oneCell'=true:=by
    rw[hXl];intro v hv;simp at hv;rcases hv with rfl|hv
    ·rfl
    ·exact hby.one v (by simpa using hv)
   have hjm:j*129+129≤ws.length*129:=by omega
   have hcp:qA2 cur (j*129) 129=X:=by
    have hf:=zT9 wcs 129 ws (fun x hx=>by simp[wcs,xJ9,(HWS.out x hx).2]) j hlt;rw[hX];unfold qA2
    congr 1
    rw[←hf,←HCUR.out,List.drop_take,List.take_take]
    congr 1
    omega
   have HSN:Hid (qD3 (enc (laidAll l (ws.take j))) (i*128) bs=enc (laidAll l (ws.take (j+1)))):=by
    show _=_;rw[hbs,hie,zC6,jG7 l ws j hlt];rfl
   have hls:n*128≤(enc (laidAll l (ws.take j))).size:=by rw[qF2];exact zI2 n _ l HS.out (fun x hx=>HWS.out x (List.mem_of_mem_take hx))
   rw[←hie] at hi;have hcsz:=HCS.out;clear hX hie hbs hXl hbl
   go_wp2_with (
    with_reducible refine qQ1 (t:=89) ?_ 129 ?_ g (j*129) ?_ cur 89 (0,0) ?_ ?_ ?_
    ·kernel_rfl
    ·kernel_rfl
    ·rfl
    ·exact HG.out
    ·omega)
   have hN:=μ wr (.cells zeroCells89 89);rw[qM0 hN (by simp[qK1,hXs]) hX1];obtain⟨W1,hW1,hK1,hA1,hC1,hG1,hT1,hs1⟩:∃ W1,W1=(wr.alloc (.cells zeroCells89 89)).setRow wr.heap.size (qD3 zeroCells89 0 X.toList.toArray)∧Kp [A,C] w W1∧
     W1.heap[A]?=some (χ κ n C (.slice (some ⟨g,0,none⟩) ws.length cap) (nx calls) writes)∧W1.heap[C]?=some (.cells (enc (laidAll l (ws.take j))) 87)∧W1.heap[g]?=some (.cells cur 89)∧W1.heap[wr.heap.size]?=some (.cells X 89)∧W1.heap.size=wr.heap.size+1:=
    ⟨_,rfl,(HK.out.alloc _).setRow (Or.inr HK.out.size) _,(setRow_other _ _ _ _ (Nat.ne_of_lt (ζ HA.out))).trans (θ _ HA.out),(setRow_other _ _ _ _ (Nat.ne_of_lt (ζ HC.out))).trans (θ _ HC.out),(setRow_other _ _ _ _ (Nat.ne_of_lt (ζ HG.out))).trans (θ _ HG.out),by
     rw[setRow_heap _ _ _ _ _ _ hN,qJ6 (by simp[qK1,hXs])],by simp⟩
   have hA1s:=ζ HA.out;have hC1s:=ζ HC.out;rw[←hW1];clear hW1 hN;go_wp2_with fail;refine wp_region_held_drew (S:=fun W=>W.heap[A]?=some (χ κ n C (.slice (some ⟨g,0,none⟩) ws.length cap) (nx calls) writes)∧W.heap[wr.heap.size]?=some (.cells X 89)) (by kernel_rfl) ⟨hA1,hT1⟩ (fun _=>?_);have hSd:W1.drew.heap[A]?=some (χ κ n C (.slice (some ⟨g,0,none⟩) ws.length cap) (nx calls) writes)∧W1.drew.heap[wr.heap.size]?=some (.cells X 89):=⟨hA1,hT1⟩;refine zP 0 A 0 hSd ?_;refine zV 1 (.pointer (some ⟨A,0,none⟩)) rfl (fun W hS=>by have c:=ζ hS.1;clear hS;go_simp) hSd ?_;refine zP 2 A 0 hSd ?_;refine zV 3 (.slice (some ⟨C,0,none⟩) n κ) rfl (fun W hS=>by have c:=ξ hS.1 0;simp at c;clear hS;go_simp) hSd ?_;refine zP 4 wr.heap.size 0 hSd ?_;refine zV 5 (.int .i64 i) rfl (fun W hS=>by have c:=ξ hS.2 0;rw[hX0] at c;clear hS;go_simp) hSd ?_;refine zP 6 wr.heap.size 1 hSd ?_;refine zV 7 (.agg bs) rfl (fun W hS=>zT2 (t:=87) rfl (by kernel_rfl) 128 (by kernel_rfl) wr.heap.size 1 rfl hS.2 (by omega) hXp) hSd ?_;refine zU 8 (.pointer (some ⟨C,i*128,none⟩)) hSd ?_;refine zq 9 fun K hK=>?_;refine zN9 rfl (zT3 (t:=87) rfl bs (by rw[hsz];kernel_rfl) C (i*128) rfl rfl (cur:=enc (laidAll l (ws.take j))) (tb:=87) hC1 (by omega) hby.one) ?_;rw[HSN.out];obtain⟨W2,hW2,hA2,hT2,hC2,hG2,hK2,hs2⟩:∃ W2,W2=W1.drew.setRow C (enc (laidAll l (ws.take (j+1))))∧W2.heap[A]?=some (χ κ n C (.slice (some ⟨g,0,none⟩) ws.length cap) (nx calls) writes)∧W2.heap[wr.heap.size]?=some (.cells X 89)∧W2.heap[C]?=some (.cells (enc (laidAll l (ws.take (j+1)))) 87)∧W2.heap[g]?=some (.cells cur 89)∧Kp [A,C] w W2∧W2.heap.size=wr.heap.size+1:=
    ⟨_,rfl,(setRow_other W1.drew C A _ hAC.symm).trans hA1,(setRow_other W1.drew C wr.heap.size _ (by omega)).trans hT1,setRow_heap W1.drew C _ _ _ _ hC1,(setRow_other W1.drew C g _ hgC).trans hG1,(hK1.drew).setRow (g:=C) (by simp) _,by simp[hs1]⟩
   rw[←hW2];clear hW2;refine hK.out _ _ ⟨hA2,hT2⟩ (fun _=>?_);clear hK K;refine zd ?_;simp only[zZ];have HA2:=zh hA2;have HC2:=zh hC2;have HG2:=zh hG2;have HK2:=zh hK2;clear hA1 hT1 hC1 hG1 hK1 hA2 hT2 hC2 hG2 hK2 hSd;go_wp2;exact⟨⟨j+1,by omega,by go_num,HA2,HC2,HG2,HK2⟩,by simp[intOf];omega⟩
  ·have hjb:¬(j:Int)<(ws.length:Int):=by omega
   have hje:ws.take j=ws:=List.take_of_length_le (by omega);have hCe:=HC.out;rw[hje] at hCe;have hAe:=HA.out;have hAs:=ζ hAe;have c1:=ξ hAe 1;simp at c1;have f1:=ρ hAe 1;have HAE:=zh hAe;have HCE:=zh hCe;clear hje hCe hAe;go_wp2;go_ret;exact⟨rfl,ω HAE.out 1 _,(qA7 hAC _ _).trans HCE.out,HK.out.sc _⟩
variable {κ:Nat}
theorem zF7(V A n C base:Nat)(v:Value)(ws:List (Nat × List UInt8))(calls writes:Int)(l:List UInt8)(w:World)(hV:w.heap[V]?=some (qB8 A n))(h:w.heap[A]?=some (χ κ n C v calls writes))
  (hv:w.ownsRow base 89 129 v ws.length (ws.flatMap wcs)) (hws:∀ x∈ws,x.1<n∧x.2.length=128) (hwl:ws.length≤100000) (hn:n≤1000) (hC:w.heap[C]?=some (.cells (enc l) 87)) (hs:n*128≤l.length) (hAC:C≠A):
  Calls prog 76 #[.pointer (some ⟨V,0,none⟩)] w fun e w'=>e=.returned (.tuple #[])∧w'.heap[A]?=some (χ κ n C (.slice none 0 0) (nx calls) writes)∧
   w'.heap[C]?=some (.cells (enc (laidAll l ws)) 87)∧Kp [A,C] w w':=by
 have c0:=ξ hV 0;simp at c0;go_enter func76,ntmps76;go_wp2_with fail;refine (xX6 A n C base v ws calls writes l _ h hv hws hwl hn hC hs hAC).mono ?_;rintro e w1 ⟨rfl,hA1,hC1,hK1⟩;go_wp2
 go_end0
 exact⟨rfl,hA1,hC1,hK1⟩
variable {κ:Nat}
theorem jM5(p:KV)(h:qC3 p):∀ x∈qD6 p,0≤x∧x<256:=by
 obtain⟨h1,h2,h3⟩:=h;intro x hx;simp only[qD6,List.mem_append,List.mem_singleton] at hx;rcases hx with (rfl|hx)|hx
 ·omega
 ·exact zL7 _ x hx
 ·exact zL7 _ x hx
theorem jI5(h:HL)(hk:h.key.size≤8):∀ x∈qD9 h,0≤x∧x<256:=by
 intro x hx;simp only[qD9,List.mem_append,List.mem_singleton] at hx;rcases hx with ((hx|hx)|rfl)|hx
 ·exact qJ1 _ _ x hx
 ·exact qJ1 _ _ x hx
 ·omega
 ·exact zL7 _ x hx
theorem qH0(lv:Int)(ps:List KV)(hs:List HL)(hl0:0≤lv)(hl1:lv<256)(hc:ps.length+hs.length≤255)(hzp:∀ p∈ps,qC3 p)(hzl:∀ p∈hs,p.key.size≤8):∀ x∈qA1 lv ps hs,0≤x∧x<256:=by
 intro x hx;simp only[qA1,qK7,List.mem_append,List.mem_cons,List.not_mem_nil,or_false,List.mem_flatMap] at hx;rcases hx with (((rfl|rfl)|⟨p,hp,hx⟩)|⟨p,hp,hx⟩)|hx
 ·omega
 ·omega
 ·exact jM5 p (hzp p hp) x hx
 ·exact jI5 p (hzl p hp) x hx
 ·rw[List.eq_of_mem_replicate hx];omega
theorem zS5(xs:List Int)(h:∀ x∈xs,0≤x∧x<256):qC6 (toB xs)=u8s xs:=by
 unfold qC6 toB u8s;rw[List.map_map];refine List.map_congr_left fun x hx=>?_;have hb:=h x hx;simp only[Function.comp]
 congr 1
 have e:(UInt8.ofNat x.toNat).toNat=x.toNat:=by
  rw[UInt8.toNat_ofNat'];omega
 rw[e];omega
theorem qH1(xs:List Int):(toB xs).length=xs.length:=by simp[toB]
def StT(T:TypeId)(w w':World):Prop:=∀ (k:Nat) (c:Array Value) (t:TypeId) (fr:Nat × Nat),w.heap[k]?=some (.cells c t fr)→t≠T→w'.heap[k]?=some (.cells c t fr)
theorem StT.refl(T:TypeId)(w:World):StT T w w:=fun _ _ _ _ h _=>h
theorem StT.kp{T:TypeId}{a b c:World}(h:StT T a b)(k:Kp [] b c):StT T a c:=fun q x t fr e ht=>k.heap (h q x t fr e ht) (by simp)
theorem StT.grown{T:TypeId}{a w w':World}{base:Nat}{sz:Nat}{v:Value}{n:Nat}{xs:List Value}(s:StT T a w)(h:w.ownsRow base T sz v n xs)(hg:w.grownBy w' v.ownBlock):StT T a w':=fun q x t fr e ht=>qP5 h hg (s q x t fr e ht) ht
theorem jO8{w:World}{g off k cap:Nat}{cur:Array Value}{t:TypeId}{fr:Nat × Nat}{l:List UInt8}(hg:w.heap[g]?=some (.cells cur t fr))(hin:off+k≤cur.size)(hp:qA2 cur off k=(qC6 l).toArray):
  Sem.run prog (convert 90 9 (.slice (some ⟨g,off,none⟩) k cap)) w=.ok (.string ⟨l.toArray⟩) w:=by
 rw[run_convert_bytes_string w _ _ _ _ _ _ underlying90 underlying5 underlying9];have e:(l.map (fun b=>(b.toNat:Int))).map (Value.int .u8)=qC6 l:=by simp[qC6]
 have hload:=qZ4 (P:=prog) (o:=off) (n:=k) hg hin;rw[hp,←e] at hload;rw[run_bytesToString w _ _ _ _ hload,zM9];simp
theorem zL4{w:World}{g off k cap:Nat}{cur:Array Value}{t:TypeId}{fr:Nat × Nat}{s:ByteArray}(hg:w.heap[g]?=some (.cells cur t fr))(hin:off+k≤cur.size)(hp:qA2 cur off k=(qC6 s.data.toList).toArray):
  Sem.run prog (convert 90 9 (.slice (some ⟨g,off,none⟩) k cap)) w=.ok (.string s) w:=by
 rw[jO8 hg hin hp,Array.toArray_toList]
theorem qR7(s:ByteArray):toB (qM3 s)=s.data.toList:=by
 unfold toB qM3;rw[List.map_map];refine Eq.trans (List.map_congr_left (g:=id) fun b _=>?_) (List.map_id _);simp only[Function.comp,Int.toNat_natCast,id];exact UInt8.ofNat_toNat
theorem xR6(bl:List UInt8)(off:Nat)(p:KV)(hp:qC3 p)(hpc:(bl.drop off).take (ν p)=toB (qD6 p)):
  (enc bl)[off]?=some (.int .u8 ((p.k.size:Int)*16+p.v.size))∧qA2 (enc bl) (off+1) p.k.size=(qC6 p.k.data.toList).toArray∧qA2 (enc bl) (off+1+p.k.size) p.v.size=(qC6 p.v.data.toList).toArray:=by
 obtain⟨h1,h2,h3⟩:=hp;have hps:ν p=1+p.k.size+p.v.size:=rfl;have hkl:p.k.data.toList.length=p.k.size:=Array.length_toList;have hvl:p.v.data.toList.length=p.v.size:=Array.length_toList;have e:(bl.drop off).take (ν p)=[UInt8.ofNat ((p.k.size:Int)*16+p.v.size).toNat]++p.k.data.toList++p.v.data.toList:=by
  rw[hpc,qD6,qH4,qH4,qR7,qR7];rfl
 obtain⟨l,hl⟩:∃ l,l=bl.drop off:=⟨_,rfl⟩;rw[←hl] at e;refine⟨?_,?_,?_⟩
 ·have e0:l[0]?=some (UInt8.ofNat ((p.k.size:Int)*16+p.v.size).toNat):=by
   have:=congrArg (fun z=>z[0]?) e;simp only[List.getElem?_take,List.append_assoc,List.cons_append,List.nil_append,zH] at this;rw[if_pos (by omega)] at this;exact this
  rw[hl,List.getElem?_drop,Nat.add_zero] at e0;unfold enc qC6;rw[zG,List.getElem?_map,e0];simp only[Option.map_some,Option.some.injEq,Value.int.injEq,true_and];rw[UInt8.toNat_ofNat'];omega
 ·rw[qL6];have e1:(bl.drop (off+1)).take p.k.size=p.k.data.toList:=by
   rw[←List.drop_drop,←hl];have h:=congrArg (fun z=>(z.drop 1).take p.k.size) e;simp only[List.drop_take,List.take_take,List.append_assoc,List.cons_append,List.nil_append,List.drop_succ_cons,List.drop_zero] at h;rw[Nat.min_eq_left (by omega),List.take_left' hkl] at h;exact h
  rw[e1];rfl
 ·rw[qL6];have e2:(bl.drop (off+1+p.k.size)).take p.v.size=p.v.data.toList:=by
   rw[Nat.add_assoc,←List.drop_drop,←hl];have h:=congrArg (fun z=>(z.drop (1+p.k.size)).take p.v.size) e;simp only[List.drop_take,List.take_take] at h;rw[Nat.min_eq_left (by omega)] at h;rw[h,List.drop_left' (by simp[hkl];omega),List.take_of_length_le (by omega)]
  rw[e2];rfl
theorem xF0(B base off:Nat)(bl:List UInt8)(p:KV)(ps:List KV)(v:Value)(w:World)(hB:w.heap[B]?=some (.cells (enc bl) 223))(hbl:bl.length=128)(hp:qC3 p)(hoff:off+ν p≤128)
  (hpc:(bl.drop off).take (ν p)=toB (qD6 p)) (hv:w.ownsRow base 158 2 v ps.length (qA9 ps)) (hb:base≤w.heap.size) (hl:ps.length≤1000):
  Calls prog 190 #[v,.slice (some ⟨B,off,none⟩) (128-off) (128-off)] w fun e w'=>∃ v' r,e=.returned (.tuple #[v',r,.bool true])∧(off+ν p<128→r=.slice (some ⟨B,off+ν p,none⟩) (128-(off+ν p)) (128-(off+ν p)))∧(∃ o,r=.slice (some ⟨B,o,none⟩) (128-(off+ν p)) (128-(off+ν p)))∧
   w'.ownsRow base 158 2 v' (ps.length+1) (qA9 (ps++[p]))∧Below base w w'∧StT 158 w w':=by
 obtain⟨hp1,hp2,hp3⟩:=hp;have hps:ν p=1+p.k.size+p.v.size:=rfl;obtain⟨m,hm⟩:∃ m,m=128-off:=⟨_,rfl⟩;obtain⟨x,hx⟩:∃ x:Int,x=(p.k.size:Int)*16+p.v.size:=⟨_,rfl⟩;obtain⟨kn,hkn⟩:∃ kn:Nat,kn=p.k.size:=⟨_,rfl⟩;obtain⟨vn,hvn⟩:∃ vn:Nat,vn=p.v.size:=⟨_,rfl⟩;have hk16:x / 16=(kn:Int):=by omega
 have hv16:x % 16=(vn:Int):=by omega
 have hm1:(0:Int)<(m:Int):=by omega
 have hm0:((m:Int) == 0)=false:=by simp;omega
 have hc1:¬(kn:Int)<1:=by omega
 have hc2:¬(8:Int)<(kn:Int):=by omega
 have hc3:¬(12:Int)<(vn:Int):=by omega
 have hc4:¬(m:Int)<1+(kn:Int)+(vn:Int):=by omega
 have hsh:=xR6 bl off p ⟨hp1,hp2,hp3⟩ hpc;obtain⟨hq0,hqk,hqv⟩:=hsh;have b0:w.cell? ⟨B,off,none⟩=some (.int .u8 x):=by rw[ξ hB,hx];exact hq0
 rw[←hkn] at hqk hqv;rw[←hvn] at hqv;have HQK:=zh hqk;have HQV:=zh hqv;have HOF:Hid (m=128-off∧off+(1+kn+vn)≤128):=⟨hm,by omega⟩;have HPS:Hid (ν p=1+kn+vn):=by show _=_;omega
 have HB:=zh hB;have HV:=zh hv;have HBL:=zh hbl;have hBs:=ζ hB;rw[←hm,HPS.out];clear hpc hv hB hx hkn hvn hm hq0 hqk hqv hps hoff hbl hp1 hp2 hp3;go_enter func190,ntmps190;go_wp2_with fail
 go_quiet (fail)
 go_wp2_with fail;obtain⟨w0,hw0,hB0,hKw0,hs0⟩:∃ w0,w0=w.drewN nq∧w0.heap[B]?=some (.cells (enc bl) 223)∧Kp [] w w0∧w0.heap.size=w.heap.size:=⟨_,rfl,HB.out,(Kp.refl _ _).drewN _,rfl⟩;rw[←hw0];clear hw0 b0 hk16 hv16 hm1 hm0 hc1 hc2 hc3 hc4;have hkm:kn≤m-1:=by have:=HOF.out;omega
 have hkv:kn+vn≤m-1:=by have:=HOF.out;omega
 have hkmi:(kn:Int)≤((m-1:Nat):Int):=by omega
 have hkvi:(kn:Int)+(vn:Int)≤((m-1:Nat):Int):=by omega
 have hkk:(kn:Int)≤(kn:Int)+(vn:Int):=by omega
 have hwkv:IntKind.i64.wrap ((kn:Int)+(vn:Int))=(kn:Int)+(vn:Int):=by rw[IntKind.wrap_i64];have:=HOF.out;omega
 obtain⟨o9,ho9⟩:∃ o9,o9=if m-1=kn then off+1 else off+1+kn:=⟨_,rfl⟩
 have HO9:=zh ho9;clear ho9;have hsub:((kn:Int)+(vn:Int)).toNat-kn=vn:=by omega
 have hin1:off+1+kn≤(enc bl).size:=by rw[qF2,HBL.out];have:=HOF.out;omega
 have hin2:off+1+kn+vn≤(enc bl).size:=by rw[qF2,HBL.out];have:=HOF.out;omega
 have hin9:o9+vn≤(enc bl).size:=by
  rw[HO9.out];split
  ·omega
  ·exact hin2
 have HQ9:Hid (qA2 (enc bl) o9 vn=(qC6 p.v.data.toList).toArray):=by
  show _=_;rw[HO9.out];split
  ·rename_i he;have hv0:vn=0:=by omega
   have h:=HQV.out;rw[hv0] at h ⊢;rw[←h];simp[qA2]
  ·exact HQV.out
 have hSd:w0.drew.heap[B]?=some (.cells (enc bl) 223):=hB0;refine wp_region_held_drew (S:=fun W=>W.heap[B]?=some (.cells (enc bl) 223)) (by kernel_rfl) hSd (fun _=>?_);refine zU 0 (.slice (some ⟨B,off+1,none⟩) (m-1) (m-1)) hSd ?_;refine zU 1 (.int .i64 kn) hSd ?_;refine zU 2 (.slice (some ⟨B,off+1,none⟩) kn (m-1)) hSd ?_;refine zV 3 (.string p.k) rfl (fun W hS=>by have h:=zL4 (cap:=m-1) hS hin1 HQK.out;clear hS;go_simp) hSd ?_;refine zU 4 (.slice (some ⟨B,off+1,none⟩) (m-1) (m-1)) hSd ?_;refine zU 5 (.int .i64 kn) hSd ?_;refine zU 6 (.int .i64 kn) hSd ?_;refine zU 7 (.int .i64 vn) hSd ?_;refine zU 8 (.int .i64 ((kn:Int)+(vn:Int))) hSd ?_;refine zV 9 (.slice (some ⟨B,o9,none⟩) vn (m-1-kn)) rfl (fun W hS=>by clear hS;go_simp;rw[HO9.out];split<;>rfl) hSd ?_;refine zV 10 (.string p.v) rfl (fun W hS=>by have h:=zL4 (cap:=m-1-kn) hS hin9 HQ9.out;clear hS;go_simp) hSd ?_;refine zU 11 (.agg #[.string p.k,.string p.v]) hSd ?_;refine zU 12 (.agg #[.string p.k,.string p.v]) hSd ?_;refine zq 13 fun K hK=>?_;go_simp;obtain⟨w1,hw1,hP1,hB1,hKw1,hs1⟩:∃ w1,w1=(w0.alloc (.cells #[.string ⟨#[]⟩,.string ⟨#[]⟩] 158)).drew∧w1.heap[w.heap.size]?=some (.cells #[.string ⟨#[]⟩,.string ⟨#[]⟩] 158)∧w1.heap[B]?=some (.cells (enc bl) 223)∧Kp [] w w1∧w1.heap.size=w.heap.size+1:=
  ⟨_,rfl,by rw[←hs0];exact μ w0 _,θ _ hB0,(hKw0.alloc _).drew,by simp[hs0]⟩
 rw[←hw1];clear hw1;refine hK.out _ _ hB1 (fun _=>?_);clear hK K hSd
 try simp only[zZ]
 refine zq 14 fun K hK=>?_;have z0:=ξ hP1;have f0:=ρ hP1;have hP1s:=ζ hP1;have HP1:=zh hP1;have HB1:=zh hB1;clear hP1 hB1;go_simp;obtain⟨w2,hw2,hP2,hB2,hKw2,hs2⟩:∃ w2,w2=(w1.setCell ⟨w.heap.size,0,none⟩ (.string p.k)).setCell ⟨w.heap.size,1,none⟩ (.string p.v)∧w2.heap[w.heap.size]?=some (.cells #[.string p.k,.string p.v] 158)∧w2.heap[B]?=some (.cells (enc bl) 223)∧Kp [] w w2∧w2.heap.size=w.heap.size+1:=
  ⟨_,rfl,ω (ω HP1.out 0 _) 1 _,(qA7 (by omega) _ _).trans ((qA7 (by omega) _ _).trans HB1.out),(hKw1.setCell (Or.inr (Nat.le_refl _)) _).setCell (Or.inr (Nat.le_refl _)) _,by simp[hs1]⟩
 rw[←hw2];clear hw2 z0 f0;refine hK.out _ _ hB2 (fun _=>?_);clear hK K;refine zd ?_
 try simp only[zZ]
 go_wp2_with fail;obtain⟨o8,ho8⟩:∃ o8,o8=if m-1=kn+vn then off+1 else off+1+(kn+vn):=⟨_,rfl⟩
 have HO8:=zh ho8;clear ho8;have h0kv:(0:Int)≤(kn:Int)+(vn:Int):=by omega
 have hkvt:((kn:Int)+(vn:Int)).toNat=kn+vn:=by omega
 have hS2:w2.drew.heap[w.heap.size]?=some (.cells #[.string p.k,.string p.v] 158):=hP2;refine wp_region_held_drew (S:=fun W=>W.heap[w.heap.size]?=some (.cells #[.string p.k,.string p.v] 158)) (by kernel_rfl) hS2 (fun _=>?_);refine zU 0 v hS2 ?_;refine zW 1 (.agg #[.string p.k,.string p.v]) hS2 id ?_;refine zU 4 (.slice (some ⟨B,off+1,none⟩) (m-1) (m-1)) hS2 ?_;refine zU 5 (.int .i64 kn) hS2 ?_;refine zU 6 (.int .i64 vn) hS2 ?_;refine zU 7 (.int .i64 ((kn:Int)+(vn:Int))) hS2 ?_;refine zV 8 (.slice (some ⟨B,o8,none⟩) (m-1-(kn+vn)) (m-1-(kn+vn))) rfl (fun W hS=>by clear hS;go_simp;rw[HO8.out];split<;>rfl) hS2 ?_;refine zq 2 fun K hK=>?_;go_simp;obtain⟨w3,hw3,hN3,hP3,hKw3,hs3⟩:∃ w3,w3=(w2.alloc (.cells #[.string p.k,.string p.v] 158)).drew∧w3.heap[w2.heap.size]?=some (.cells #[.string p.k,.string p.v] 158)∧w3.heap[w.heap.size]?=some (.cells #[.string p.k,.string p.v] 158)∧Kp [] w w3∧w3.heap.size=w2.heap.size+1:=
  ⟨_,rfl,μ w2 _,θ _ hP2,(hKw2.alloc _).drew,by simp⟩
 rw[←hw3];clear hw3;refine hK.out _ _ hP3 (fun _=>?_);clear hK K hS2
 try simp only[zZ]
 have hown3:w3.ownsRow base 158 2 v ps.length (qA9 ps):=qF8 HV.out hKw3 (Apt.nil _ _);refine zq 3 fun K hK=>?_;refine qM4 rfl rfl (.agg #[.string ⟨#[]⟩,.string ⟨#[]⟩]) 2 32 underlying149 zH9 rfl (by decide) base v ps.length (qA9 ps) (by simp[Act.eval]) hown3 w2.heap.size 0 1 1 #[.string p.k,.string p.v] 158 (0,0) (by simp[Act.eval]) hN3 (by simp) (by simp[qA2,Value.oneCell']) (by omega) (by omega) (by omega) ?_;intro v4 w4 hown4 hgr4 _;have hP4:w4.heap[w.heap.size]?=some (.cells #[.string p.k,.string p.v] 158):=by
  refine (hgr4.block _ (by omega) ?_).trans hP3;rcases HV.out.2 with⟨rfl,_⟩|⟨g,cap,cur,rfl,_,hh,_⟩
  ·simp[Value.ownBlock]
  ·intro e;simp only[Value.ownBlock,Option.some.injEq] at e;have:=ζ hh;omega
 have HO4:Hid (w4.ownsRow base 158 2 v4 (ps.length+1) (qA9 (ps++[p]))):=by
  have e:qA9 (ps++[p])=qA9 ps++(qA2 #[.string p.k,.string p.v] 0 (1*2)).toList:=by simp[qA9,pcs,qA2]
  show World.ownsRow _ _ _ _ _ _ _;rw[e];exact hown4
 have HL4:Hid (Below base w w4):=(hKw3.below hb (by simp)).grown hgr4 (by omega) (qI3 hown3);have HS4:Hid (StT 158 w w4):=((StT.refl _ w).kp hKw3).grown hown3 hgr4;refine hK.out _ _ hP4 (fun _=>?_);clear hK K hown4 hgr4 hown3
 try simp only[zZ]
 refine zq 9 fun K hK=>?_;go_simp;refine hK.out _ _ hP4 (fun _=>?_);clear hK K
 try simp only[zZ]
 refine zq 10 fun K hK=>?_;go_simp;refine hK.out _ _ hP4 (fun _=>?_);clear hK K
 try simp only[zZ]
 refine zq 11 fun K hK=>?_;go_simp;refine hK.out _ _ hP4 (fun _=>?_);clear hK K
 try simp only[zZ]
 refine zd ?_;have HEND:Hid (off+(1+kn+vn)<128→(Value.slice (some ⟨B,o8,none⟩) (m-1-(kn+vn)) (m-1-(kn+vn)))=.slice (some ⟨B,off+(1+kn+vn),none⟩) (128-(off+(1+kn+vn))) (128-(off+(1+kn+vn)))):=by
  intro hlt;have h1:=HOF.out;rw[HO8.out,if_neg (by omega),show off+1+(kn+vn)=off+(1+kn+vn) from by omega,show m-1-(kn+vn)=128-(off+(1+kn+vn)) from by omega]
 clear hP4 hN3 hP3 hP2 hB2;go_wp2
 go_ret3
 refine⟨v4,_,rfl,HEND.out,⟨o8,?_⟩,HO4.out,HL4.out,HS4.out⟩;show Value.slice (some ⟨B,o8,none⟩) (m-1-(kn+vn)) (m-1-(kn+vn))=_;rw[show m-1-(kn+vn)=128-(off+(1+kn+vn)) from by have:=HOF.out;omega]
end Go.Proofs.YtdohpenfkdckiabGreatDoor
