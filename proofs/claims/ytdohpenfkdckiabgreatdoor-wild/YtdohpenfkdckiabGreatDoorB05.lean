import Derived.Test.YtdohpenfkdckiabGreatDoorB04
import Derived.Lib.AppendZerosOnto
import Derived.Lib.SliceRun
import Derived.Laws.AppendOwnNone
set_option linter.all false
set_option maxRecDepth 100000
set_option maxHeartbeats 20000000
namespace Go.Proofs.YtdohpenfkdckiabGreatDoor
open Go.Proofs.Tryz
open Go.RowKit
theorem jN4(ps:List KV):∀ u∈qA9 ps,u.oneCell'=true:=by
 intro u hu;simp only[qA9,pcs,List.mem_flatMap,List.mem_cons,List.not_mem_nil,or_false] at hu;obtain⟨p,_,rfl|rfl⟩:=hu<;>rfl
theorem jH7(ps:List HL):∀ u∈qA5 ps,u.oneCell'=true:=by
 intro u hu;simp only[qA5,lcs,List.mem_flatMap,List.mem_cons,List.not_mem_nil,or_false] at hu;obtain⟨p,_,rfl|rfl|rfl|rfl⟩:=hu<;>rfl
theorem jN3(a b:List KV):qA9 (a++b)=qA9 a++qA9 b:=by simp[qA9]
theorem jH6(a b:List HL):qA5 (a++b)=qA5 a++qA5 b:=by simp[qA5]
theorem xX1{α:Type}(l:List (List α))(j:Nat)(h:j<l.length):(l.take (j+1)).flatten=(l.take j).flatten++l[j]:=by
 rw[List.take_succ_eq_append_getElem h,List.flatten_append];simp only[List.flatten_cons,List.flatten_nil,List.append_nil]
theorem xX2{α:Type}(l:List (List α))(j:Nat):(l.take j).flatten.length≤l.flatten.length:=by
 have h:=congrArg (fun l=>l.flatten.length) (List.take_append_drop j l);simp only[List.flatten_append,List.length_append] at h;omega
def qM2{α:Type}(l:List (List α))(j:Nat):List α:=(l.take j).flatten
def tot{α:Type}(l:List (List α))(j:Nat):Nat:=(qM2 l j).length
theorem zG6{α:Type}(l:List (List α))(j:Nat)(h:j<l.length):qM2 l (j+1)=qM2 l j++l[j]:=xX1 l j h
theorem zE6{α:Type}(l:List (List α))(j:Nat)(h:j<l.length):tot l (j+1)=tot l j+l[j].length:=by unfold tot;rw[zG6 l j h,List.length_append]
theorem xI0{α:Type}(l:List (List α))(j:Nat):tot l j≤l.flatten.length:=xX2 l j
theorem zA5{α:Type}(l:List (List α)):qM2 l l.length=l.flatten:=by unfold qM2;rw[List.take_length]
theorem zF0(z:Array Value)(n:Nat):(Builtin.zeroCells z n).size=z.size*n:=by
 simp[Builtin.zeroCells,Nat.mul_comm]
theorem jA3(n:Nat)(w:World)(hn:n≤1000000):
  Calls prog 195 #[.slice none 0 0,.int .i64 n] w fun e w'=>∃ v',e=.returned v'∧w'.ownsRow w.heap.size 158 2 v' 0 []∧Kp [] w w':=by
 obtain⟨i0,hi,hz0,hz1,hz2⟩:=info_parts zH9;by_cases h0:n=0
 ·subst h0;go_enter func195,ntmps195;go_wp2;go_ret;exact⟨_,rfl,World.ownsRow_nil _ _ _ _,Kp.refl _ _⟩
 ·have h1:¬((n:Int)<0):=by omega
  have h4:(0:Int)<(n:Int):=by omega
  have hrz:∀ ty,(Builtin.append_ #[149,3] ty #[.slice none 0 0,.int .i64 (n:Int)]).run prog w =
    .ok (.slice (some ⟨w.heap.size,0,none⟩) n (grownCap w n 0 158)) (w.drew.alloc (.cells (Builtin.zeroCells (Value.agg _).cells n++Builtin.zeroCells (Value.agg _).cells (grownCap w n 0 158-n)) 158)):=fun ty=>by
   have h:=Lib.run_append_grow_zeros (P:=prog) w 149 3 ty 158 i0 _ .i64 .i64 underlying149 underlying3 hi hz0 none 0 0 [] (run_firstCells_none w.drew i0.size 0 0 0) n (by omega) (by rw[hz1];decide) (by omega) (by omega) (by rw[hz2];omega) (by rw[hz2];exact growslice_fits (by omega) (by omega));simpa using h
  have hGn:n≤grownCap w n 0 158:=grownCap_ge w _ _ _;have hGm:=grownCap_le_maxLen w n 0 158 (by unfold maxLen;omega);obtain⟨G,hG⟩:∃ G,G=grownCap w n 0 158:=⟨_,rfl⟩;rw[←hG] at hrz hGn hGm;have hG63:G≤9223372036854775807:=by unfold maxLen at hGm;omega
  clear hG;go_enter func195,ntmps195
  go_wp2_with (at_builtin;refine Lib.wpList_append_run _ rfl _ _ _ _ rfl _ _ rfl rfl _ _ (hrz _) ?_)
  go_ret;refine⟨_,rfl,⟨rfl,.inr ⟨w.heap.size,G,_,rfl,Nat.le_refl _,μ _ _,Nat.zero_le _,hGm,?_,?_⟩⟩,((Kp.refl _ _).drew).alloc _⟩
  ·rw[Array.size_append,zF0,zF0];show 2*n+2*(G-n)=G*2;omega
  ·simp
theorem zA8(gs:Nat)(vs:List Value)(pss:List (List KV))(w:World)(hG:w.heap[gs]?=some (.cells vs.toArray 149))(hs:qV9 w 158 2 vs (pss.map fun l=>(l.length,qA9 l)))(ps:List KV)(hps:pss.flatten=ps)(hn:ps.length≤1000000)(hl:pss.length≤1000):
  Calls prog 174 #[.slice (some ⟨gs,0,none⟩) pss.length pss.length] w fun e w'=>∃ v',e=.returned v'∧w'.ownsRow w.heap.size 158 2 v' ps.length (qA9 ps)∧Kp [] w w':=by
 obtain⟨i0,hi,hz0,hz1,hz2⟩:=info_parts zH9;have hvl:vs.length=pss.length:=by have:=hs.1;rw[List.length_map] at this;exact this
 have HVS:Hid (∀ i (h:i<pss.length) (h':i<vs.length),Slc w 158 2 vs[i] pss[i].length (qA9 pss[i])):=fun i h h'=>by
  have:=hs.2 i (by simpa using h) h';simpa using this
 have HG:=zh hG;clear hs hG;have hall:ps.length=tot pss pss.length:=by unfold tot;rw[zA5,hps]
 rw[hall] at hn;have HALL:=zh hall;have HPS:Hid (qM2 pss pss.length=ps):=by show _=_;rw[zA5,hps]
 have hto:∀ j,tot pss j≤tot pss pss.length:=fun j=>by rw[←hall,←hps];exact xI0 pss j
 clear hall hps;go_enter func174,ntmps174;go_wp2
 go_loop [3,11] (fun s i=>∃ (j:Nat),j≤pss.length∧i=.int .i64 j∧s=.int .i64 (tot pss j:Nat)) (fun _ i=>pss.length-(intOf i).toNat)
 case atStart=>exact⟨0,Nat.zero_le _,rfl,rfl⟩
 case round=>
  obtain⟨j,hj,rfl,rfl⟩:=hrel;have hfl:=hto j;by_cases hlt:j<pss.length
  ·have hjb:(j:Int)<(pss.length:Int):=by omega
   have hvj:=HVS.out j hlt (by omega);have h0:=ξ HG.out j;rw[zG,List.getElem?_eq_getElem (show j<vs.length by omega)] at h0;have hgs:=ζ HG.out;obtain⟨bs,cp,hv⟩:∃ bs cp,vs[j]=.slice bs pss[j].length cp:=by
    rcases hvj.val with⟨h0,b,c,h1,_⟩|⟨g,off,cap,cur,fr,h1,_⟩
    ·rw[h0];exact⟨b,c,h1⟩
    ·exact⟨_,cap,h1⟩
   rw[hv] at h0;have HF:Hid (tot pss (j+1)=tot pss j+pss[j].length):=zE6 pss j hlt;have hf1:=hto (j+1);rw[HF.out] at hf1;have hnn:¬((tot pss j:Nat):Int)+(pss[j].length:Int)<0:=by omega
   clear hvj hv;go_wp2;refine⟨⟨j+1,by omega,by go_num,by rw[HF.out];go_num⟩,by simp[intOf];omega⟩
  ·have hjb:¬(j:Int)<(pss.length:Int):=by omega
   have e:j=pss.length:=by omega
   subst e;go_wp2_with fail;refine (jA3 _ w hn).mono ?_;rintro e w1 ⟨v1,rfl,hown1,hK1⟩;have HK1:=zh hK1;have HO1:=zh hown1;clear hK1 hown1;go_wp2
   go_loopw [6,27] (fun s i wr=>∃ (j:Nat),j≤pss.length∧i=.int .i64 j∧wr.ownsRow w.heap.size 158 2 s (tot pss j) (qA9 (qM2 pss j))∧Kp [] w wr) (fun _ i _=>pss.length-(intOf i).toNat)
   case atStart=>exact⟨0,Nat.zero_le _,rfl,HO1.out,HK1.out⟩
   case round=>
    obtain⟨j,hj,rfl,hown,hK⟩:=hrel;by_cases hlt:j<pss.length
    ·have hjb:(j:Int)<(pss.length:Int):=by omega
     have hvj:=(HVS.out j hlt (by omega)).keep0 hK;have hGr:=hK.hp HG.out;have h0:=ξ hGr j;rw[zG,List.getElem?_eq_getElem (show j<vs.length by omega)] at h0;have hgs:=ζ hGr;have HT:Hid (tot pss (j+1)=tot pss j+pss[j].length):=zE6 pss j hlt;have HF:Hid (qA9 (qM2 pss (j+1))=qA9 (qM2 pss j)++qA9 pss[j]):=by show _=_;rw[zG6 pss j hlt,jN3]
     have hf1:=hto (j+1);rw[HT.out] at hf1;have hsz:=hK.size;obtain⟨vj,hvj0⟩:∃ vj,vs[j]=vj:=⟨_,rfl⟩;rw[hvj0] at hvj h0;obtain⟨hln,hval⟩:=hvj;by_cases hnone:vj=.slice none 0 0
     ·have hl0:pss[j].length=0:=by
       rcases hval with⟨h0,_⟩|⟨g,off,cap,cur,fr,h1,_⟩
       ·exact h0
       ·rw[hnone] at h1;cases h1
      subst hnone;have HL0:=zh hl0;clear hval hln hvj0 hl0
      go_wp2_with (at_builtin;refine wpList_append_own_none rfl _ _ 149 rfl w.heap.size 158 i0 2 underlying149 hi _ _ _ rfl hown rfl ?_)
      refine⟨⟨j+1,by omega,by go_num,?_,hK⟩,by simp[intOf];omega⟩;rw[HT.out,HF.out,HL0.out,List.length_eq_zero_iff.1 HL0.out];simpa [qA9] using hown
     ·obtain⟨ad,cp,hv⟩:∃ ad cp,vj=.slice (some ad) pss[j].length cp:=by
       rcases hval with⟨h0,b,c,h1,h2⟩|⟨g,off,cap,cur,fr,h1,_⟩
       ·rw[h0]
        cases b with
        | none=>rw[h2 rfl] at h1;exact absurd h1 hnone
        | some a=>exact⟨a,c,h1⟩
       ·exact⟨_,cap,h1⟩
      have hcell:∀ k u,(qA9 pss[j])[k]?=some u→wr.cell? (ad.add k)=some u:=by
       intro k u hu;rcases hval with⟨h0,_⟩|⟨g,off,cap,cur,fr,h1,_,_,h4,h5⟩
       ·rw[List.length_eq_zero_iff.1 h0] at hu;simp[qA9] at hu
       ·rw[hv] at h1;simp only[Value.slice.injEq,Option.some.injEq] at h1;rw[h1.1,qM1,ξ h4];exact h5 k u hu
      subst hv;have HC:=zh hcell;clear hval hnone hvj0 hcell
      go_wp2_with (at_builtin;refine wpList_append_own _ rfl _ _ 149 rfl w.heap.size 158 i0 _ 2 32 underlying149 hi hz0 hz1 hz2 rfl (by decide) _ _ _ rfl hown ad pss[j].length cp (qA9 pss[j]) rfl hln HC.out (jN4 _) (by unfold maxLen;omega) (by omega) hsz ?_;intro v2 w2 hown2 hgrow2 _)
      refine⟨⟨j+1,by omega,by go_num,?_,hK.grown hgrow2 (fun k hk=>Or.inr (qI3 hown k hk))⟩,by simp[intOf];omega⟩;rw[HT.out,HF.out];exact hown2
    ·have hjb:¬(j:Int)<(pss.length:Int):=by omega
     have e:j=pss.length:=by omega
     go_wp2;go_ret;subst e;rw[HPS.out] at hown;exact⟨_,rfl,by rw[HALL.out];exact hown,hK⟩
theorem jA2(n:Nat)(w:World)(hn:n≤1000000):
  Calls prog 196 #[.slice none 0 0,.int .i64 n] w fun e w'=>∃ v',e=.returned v'∧w'.ownsRow w.heap.size 81 4 v' 0 []∧Kp [] w w':=by
 obtain⟨i0,hi,hz0,hz1,hz2⟩:=info_parts qQ6;by_cases h0:n=0
 ·subst h0;go_enter func196,ntmps196;go_wp2;go_ret;exact⟨_,rfl,World.ownsRow_nil _ _ _ _,Kp.refl _ _⟩
 ·have h1:¬((n:Int)<0):=by omega
  have h4:(0:Int)<(n:Int):=by omega
  have hrz:∀ ty,(Builtin.append_ #[150,3] ty #[.slice none 0 0,.int .i64 (n:Int)]).run prog w =
    .ok (.slice (some ⟨w.heap.size,0,none⟩) n (grownCap w n 0 81)) (w.drew.alloc (.cells (Builtin.zeroCells (Value.agg _).cells n++Builtin.zeroCells (Value.agg _).cells (grownCap w n 0 81-n)) 81)):=fun ty=>by
   have h:=Lib.run_append_grow_zeros (P:=prog) w 150 3 ty 81 i0 _ .i64 .i64 underlying150 underlying3 hi hz0 none 0 0 [] (run_firstCells_none w.drew i0.size 0 0 0) n (by omega) (by rw[hz1];decide) (by omega) (by omega) (by rw[hz2];omega) (by rw[hz2];exact growslice_fits (by omega) (by omega));simpa using h
  have hGn:n≤grownCap w n 0 81:=grownCap_ge w _ _ _;have hGm:=grownCap_le_maxLen w n 0 81 (by unfold maxLen;omega);obtain⟨G,hG⟩:∃ G,G=grownCap w n 0 81:=⟨_,rfl⟩;rw[←hG] at hrz hGn hGm;have hG63:G≤9223372036854775807:=by unfold maxLen at hGm;omega
  clear hG;go_enter func196,ntmps196
  go_wp2_with (at_builtin;refine Lib.wpList_append_run _ rfl _ _ _ _ rfl _ _ rfl rfl _ _ (hrz _) ?_)
  go_ret;refine⟨_,rfl,⟨rfl,.inr ⟨w.heap.size,G,_,rfl,Nat.le_refl _,μ _ _,Nat.zero_le _,hGm,?_,?_⟩⟩,((Kp.refl _ _).drew).alloc _⟩
  ·rw[Array.size_append,zF0,zF0];show 4*n+4*(G-n)=G*4;omega
  ·simp
theorem zA7(gs:Nat)(vs:List Value)(pss:List (List HL))(w:World)(hG:w.heap[gs]?=some (.cells vs.toArray 150))(hs:qV9 w 81 4 vs (pss.map fun l=>(l.length,qA5 l)))(ps:List HL)(hps:pss.flatten=ps)(hn:ps.length≤1000000)(hl:pss.length≤1000):
  Calls prog 175 #[.slice (some ⟨gs,0,none⟩) pss.length pss.length] w fun e w'=>∃ v',e=.returned v'∧w'.ownsRow w.heap.size 81 4 v' ps.length (qA5 ps)∧Kp [] w w':=by
 obtain⟨i0,hi,hz0,hz1,hz2⟩:=info_parts qQ6;have hvl:vs.length=pss.length:=by have:=hs.1;rw[List.length_map] at this;exact this
 have HVS:Hid (∀ i (h:i<pss.length) (h':i<vs.length),Slc w 81 4 vs[i] pss[i].length (qA5 pss[i])):=fun i h h'=>by
  have:=hs.2 i (by simpa using h) h';simpa using this
 have HG:=zh hG;clear hs hG;have hall:ps.length=tot pss pss.length:=by unfold tot;rw[zA5,hps]
 rw[hall] at hn;have HALL:=zh hall;have HPS:Hid (qM2 pss pss.length=ps):=by show _=_;rw[zA5,hps]
 have hto:∀ j,tot pss j≤tot pss pss.length:=fun j=>by rw[←hall,←hps];exact xI0 pss j
 clear hall hps;go_enter func175,ntmps175;go_wp2
 go_loop [3,11] (fun s i=>∃ (j:Nat),j≤pss.length∧i=.int .i64 j∧s=.int .i64 (tot pss j:Nat)) (fun _ i=>pss.length-(intOf i).toNat)
 case atStart=>exact⟨0,Nat.zero_le _,rfl,rfl⟩
 case round=>
  obtain⟨j,hj,rfl,rfl⟩:=hrel;have hfl:=hto j;by_cases hlt:j<pss.length
  ·have hjb:(j:Int)<(pss.length:Int):=by omega
   have hvj:=HVS.out j hlt (by omega);have h0:=ξ HG.out j;rw[zG,List.getElem?_eq_getElem (show j<vs.length by omega)] at h0;have hgs:=ζ HG.out;obtain⟨bs,cp,hv⟩:∃ bs cp,vs[j]=.slice bs pss[j].length cp:=by
    rcases hvj.val with⟨h0,b,c,h1,_⟩|⟨g,off,cap,cur,fr,h1,_⟩
    ·rw[h0];exact⟨b,c,h1⟩
    ·exact⟨_,cap,h1⟩
   rw[hv] at h0;have HF:Hid (tot pss (j+1)=tot pss j+pss[j].length):=zE6 pss j hlt;have hf1:=hto (j+1);rw[HF.out] at hf1;have hnn:¬((tot pss j:Nat):Int)+(pss[j].length:Int)<0:=by omega
   clear hvj hv;go_wp2;refine⟨⟨j+1,by omega,by go_num,by rw[HF.out];go_num⟩,by simp[intOf];omega⟩
  ·have hjb:¬(j:Int)<(pss.length:Int):=by omega
   have e:j=pss.length:=by omega
   subst e;go_wp2_with fail;refine (jA2 _ w hn).mono ?_;rintro e w1 ⟨v1,rfl,hown1,hK1⟩;have HK1:=zh hK1;have HO1:=zh hown1;clear hK1 hown1;go_wp2
   go_loopw [6,27] (fun s i wr=>∃ (j:Nat),j≤pss.length∧i=.int .i64 j∧wr.ownsRow w.heap.size 81 4 s (tot pss j) (qA5 (qM2 pss j))∧Kp [] w wr) (fun _ i _=>pss.length-(intOf i).toNat)
   case atStart=>exact⟨0,Nat.zero_le _,rfl,HO1.out,HK1.out⟩
   case round=>
    obtain⟨j,hj,rfl,hown,hK⟩:=hrel;by_cases hlt:j<pss.length
    ·have hjb:(j:Int)<(pss.length:Int):=by omega
     have hvj:=(HVS.out j hlt (by omega)).keep0 hK;have hGr:=hK.hp HG.out;have h0:=ξ hGr j;rw[zG,List.getElem?_eq_getElem (show j<vs.length by omega)] at h0;have hgs:=ζ hGr;have HT:Hid (tot pss (j+1)=tot pss j+pss[j].length):=zE6 pss j hlt;have HF:Hid (qA5 (qM2 pss (j+1))=qA5 (qM2 pss j)++qA5 pss[j]):=by show _=_;rw[zG6 pss j hlt,jH6]
     have hf1:=hto (j+1);rw[HT.out] at hf1;have hsz:=hK.size;obtain⟨vj,hvj0⟩:∃ vj,vs[j]=vj:=⟨_,rfl⟩;rw[hvj0] at hvj h0;obtain⟨hln,hval⟩:=hvj;by_cases hnone:vj=.slice none 0 0
     ·have hl0:pss[j].length=0:=by
       rcases hval with⟨h0,_⟩|⟨g,off,cap,cur,fr,h1,_⟩
       ·exact h0
       ·rw[hnone] at h1;cases h1
      subst hnone;have HL0:=zh hl0;clear hval hln hvj0 hl0
      go_wp2_with (at_builtin;refine wpList_append_own_none rfl _ _ 150 rfl w.heap.size 81 i0 4 underlying150 hi _ _ _ rfl hown rfl ?_)
      refine⟨⟨j+1,by omega,by go_num,?_,hK⟩,by simp[intOf];omega⟩;rw[HT.out,HF.out,HL0.out,List.length_eq_zero_iff.1 HL0.out];simpa [qA5] using hown
     ·obtain⟨ad,cp,hv⟩:∃ ad cp,vj=.slice (some ad) pss[j].length cp:=by
       rcases hval with⟨h0,b,c,h1,h2⟩|⟨g,off,cap,cur,fr,h1,_⟩
       ·rw[h0]
        cases b with
        | none=>rw[h2 rfl] at h1;exact absurd h1 hnone
        | some a=>exact⟨a,c,h1⟩
       ·exact⟨_,cap,h1⟩
      have hcell:∀ k u,(qA5 pss[j])[k]?=some u→wr.cell? (ad.add k)=some u:=by
       intro k u hu;rcases hval with⟨h0,_⟩|⟨g,off,cap,cur,fr,h1,_,_,h4,h5⟩
       ·rw[List.length_eq_zero_iff.1 h0] at hu;simp[qA5] at hu
       ·rw[hv] at h1;simp only[Value.slice.injEq,Option.some.injEq] at h1;rw[h1.1,qM1,ξ h4];exact h5 k u hu
      subst hv;have HC:=zh hcell;clear hval hnone hvj0 hcell
      go_wp2_with (at_builtin;refine wpList_append_own _ rfl _ _ 150 rfl w.heap.size 81 i0 _ 4 40 underlying150 hi hz0 hz1 hz2 rfl (by decide) _ _ _ rfl hown ad pss[j].length cp (qA5 pss[j]) rfl hln HC.out (jH7 _) (by unfold maxLen;omega) (by omega) hsz ?_;intro v2 w2 hown2 hgrow2 _)
      refine⟨⟨j+1,by omega,by go_num,?_,hK.grown hgrow2 (fun k hk=>Or.inr (qI3 hown k hk))⟩,by simp[intOf];omega⟩;rw[HT.out,HF.out];exact hown2
    ·have hjb:¬(j:Int)<(pss.length:Int):=by omega
     have e:j=pss.length:=by omega
     go_wp2;go_ret;subst e;rw[HPS.out] at hown;exact⟨_,rfl,by rw[HALL.out];exact hown,hK⟩
theorem zL1(v vb:Value)(ps bs:List KV)(i j:Nat)(w:World)(hs:Slc w 158 2 v ps.length (qA9 ps))(hb:Slc w 158 2 vb bs.length (qA9 bs))(hij:i≤j)(hj:j≤ps.length)(h1:1≤ps.length)(hn:ps.length≤10000)(hnb:bs.length≤10000):
  Calls prog 130 #[v,.int .i64 i,.int .i64 j,vb] w fun e w'=>∃ v',e=.returned v'∧Slc w' 158 2 v' (ps.take i++bs++ps.drop j).length (qA9 (ps.take i++bs++ps.drop j))∧Kp [] w w':=by
 obtain⟨gb,off,cp,cur,fr,rfl,hcp,hrow,_⟩:=hs.pair h1;have hcs:∀ k u,(qA9 ps)[k]?=some u→cur[off+k]?=some u:=by
  rcases hs.val with⟨h0,_⟩|⟨g',off',cap',cur',fr',h1,_,_,h4,h5⟩
  ·omega
  ·simp only[Value.slice.injEq,Option.some.injEq,Addr.mk.injEq] at h1;obtain⟨⟨rfl,rfl,_⟩,_,_⟩:=h1;rw[hrow] at h4;cases h4;exact h5
 obtain⟨bb,bc,hvb⟩:∃ bb bc,vb=.slice bb bs.length bc:=by
  rcases hb.val with⟨h0,b,c,h1,_⟩|⟨g,off,cap,cur,fr,h1,_⟩
  ·rw[h0];exact⟨b,c,h1⟩
  ·exact⟨_,cap,h1⟩
 subst hvb;obtain⟨s3,hs3,hS3,hsl3⟩:∃ s3,(∃ q m c,s3=.slice (some q) m c)∧Slc w 158 2 s3 (ps.drop j).length (qA9 (ps.drop j))∧((j=cp∧s3=.slice (some ⟨gb,off,none⟩) 0 0)∨(j≠cp∧s3=.slice (some ⟨gb,off+j*2,none⟩) (ps.length-j) (cp-j))):=by
  by_cases hjc:j=cp
  ·refine⟨_,⟨_,_,_,rfl⟩,⟨?_,.inl ⟨?_,_,_,rfl,by simp⟩⟩,.inl ⟨hjc,rfl⟩⟩
   ·rw[zF6]
   ·simp;omega
  ·refine⟨_,⟨_,_,_,rfl⟩,?_,.inr ⟨hjc,rfl⟩⟩;have:=qR6 (T:=158) (sz:=2) hrow hcs hs.len j (ps.length-j) (cp-j) (by omega) (by omega);rw[←xE7,List.take_of_length_le (by rw[zF6];simp)] at this;simpa using this
 have hS1:Slc w 158 2 (.slice (some ⟨gb,off,none⟩) i cp) (ps.take i).length (qA9 (ps.take i)):=by
  have:=qR6 (T:=158) (sz:=2) hrow hcs hs.len 0 i cp (by omega) (by omega);simp only[Nat.zero_mul,Nat.add_zero,List.drop_zero] at this;rw[←xE8] at this;simpa [Nat.min_eq_left (show i≤ps.length by omega)] using this
 obtain⟨q3,m3,c3,rfl⟩:=hs3;have HS1:=zh hS1;have HS3:=zh hS3;have HB:=zh hb;have hi':(i:Int)≤(cp:Int):=by omega
 have hj':(j:Int)≤(ps.length:Int):=by omega
 have hjc:(j:Int)≤(cp:Int):=by omega
 have HSL:=zh hsl3;clear hS1 hS3 hb hs hsl3;go_enter func130,ntmps130;go_wp2_with fail;refine wp_region_any (by kernel_rfl) ?_;change wpAny _ _ _ _ _ _ _ (World.drew _);refine zu 0 (.slice (some ⟨gb,off,none⟩) ps.length cp) ?_;refine zu 1 (.int .i64 i) ?_;refine zu 2 (.slice (some ⟨gb,off,none⟩) i cp) ?_;refine zu 3 (.slice bb bs.length bc) ?_;refine zu 4 (.slice (some ⟨gb,off,none⟩) ps.length cp) ?_;refine zu 5 (.int .i64 j) ?_;refine wpAny_take (i:=6) (v:=.slice (some q3) m3 c3) rfl (by kernel_rfl) (by kernel_rfl) (by kernel_rfl) (fun _ _ _ h=>h) (Or.inl ⟨by rfl,fun w=>by
  rcases HSL.out with⟨e1,e2⟩|⟨e1,e2⟩
  ·have e3:ps.length=cp:=by omega
   rw[e2];subst e1;go_simp
  ·rw[e2];have hjn:¬cp=j:=fun e=>e1 e.symm;go_simp⟩) ?_
 try simp only[zZ]
 refine zQ 7 fun K hK=>?_;go_simp;obtain⟨w2,hw2,hG2,hK2⟩:∃ w2,w2=(w.alloc (.cells #[.slice (some ⟨gb,off,none⟩) i cp,.slice bb bs.length bc,.slice (some q3) m3 c3] 149)).drew∧w2.heap[w.heap.size]?=some (.cells #[.slice (some ⟨gb,off,none⟩) i cp,.slice bb bs.length bc,.slice (some q3) m3 c3] 149)∧Kp [] w w2:=⟨_,rfl,μ _ _,((Kp.refl _ _).alloc _).drew⟩;rw[←hw2];clear hw2;refine hK _ _ ?_;clear hK K
 try simp only[zZ]
 refine zQ 8 fun K hK=>?_;go_simp;refine (zA8 w.heap.size [.slice (some ⟨gb,off,none⟩) i cp,.slice bb bs.length bc,.slice (some q3) m3 c3] [ps.take i,bs,ps.drop j] w2 hG2 ⟨rfl,fun k h1 h2=>?_⟩ (ps.take i++bs++ps.drop j) (by simp) (by simp;omega) (by simp)).mono ?_
 ·have hk:k=0∨k=1∨k=2:=by simp at h1;omega
  rcases hk with rfl|rfl|rfl
  ·exact HS1.out.keep0 hK2
  ·exact HB.out.keep0 hK2
  ·exact HS3.out.keep0 hK2
 rintro e w3 ⟨v3,rfl,hown3,hK3⟩;have hK3':Kp [] w w3:=hK2.tr hK3;refine hK _ _ ?_;clear hK K
 try simp only[zZ]
 refine zQ 9 fun K hK=>?_;go_simp;refine hK _ _ ?_;clear hK K;refine wpAny_done (by kernel_rfl) ?_ _;have HO:Hid (Slc w3 158 2 v3 (ps.take i++bs++ps.drop j).length (qA9 (ps.take i++bs++ps.drop j))):=qG3 hown3;clear hown3;go_wp2;go_ret;have hO:=HO.out;exact⟨v3,rfl,by simpa using hO,hK3'⟩
theorem qR0(v vb:Value)(ps bs:List HL)(i j:Nat)(w:World)(hs:Slc w 81 4 v ps.length (qA5 ps))(hb:Slc w 81 4 vb bs.length (qA5 bs))(hij:i≤j)(hj:j≤ps.length)(h1:1≤ps.length)(hn:ps.length≤10000)(hnb:bs.length≤10000):
  Calls prog 131 #[v,.int .i64 i,.int .i64 j,vb] w fun e w'=>∃ v',e=.returned v'∧Slc w' 81 4 v' (ps.take i++bs++ps.drop j).length (qA5 (ps.take i++bs++ps.drop j))∧Kp [] w w':=by
 obtain⟨gb,off,cp,cur,fr,rfl,hcp,hrow,_⟩:=hs.link h1;have hcs:∀ k u,(qA5 ps)[k]?=some u→cur[off+k]?=some u:=by
  rcases hs.val with⟨h0,_⟩|⟨g',off',cap',cur',fr',h1,_,_,h4,h5⟩
  ·omega
  ·simp only[Value.slice.injEq,Option.some.injEq,Addr.mk.injEq] at h1;obtain⟨⟨rfl,rfl,_⟩,_,_⟩:=h1;rw[hrow] at h4;cases h4;exact h5
 obtain⟨bb,bc,hvb⟩:∃ bb bc,vb=.slice bb bs.length bc:=by
  rcases hb.val with⟨h0,b,c,h1,_⟩|⟨g,off,cap,cur,fr,h1,_⟩
  ·rw[h0];exact⟨b,c,h1⟩
  ·exact⟨_,cap,h1⟩
 subst hvb;obtain⟨s3,hs3,hS3,hsl3⟩:∃ s3,(∃ q m c,s3=.slice (some q) m c)∧Slc w 81 4 s3 (ps.drop j).length (qA5 (ps.drop j))∧((j=cp∧s3=.slice (some ⟨gb,off,none⟩) 0 0)∨(j≠cp∧s3=.slice (some ⟨gb,off+j*4,none⟩) (ps.length-j) (cp-j))):=by
  by_cases hjc:j=cp
  ·refine⟨_,⟨_,_,_,rfl⟩,⟨?_,.inl ⟨?_,_,_,rfl,by simp⟩⟩,.inl ⟨hjc,rfl⟩⟩
   ·rw[zJ2]
   ·simp;omega
  ·refine⟨_,⟨_,_,_,rfl⟩,?_,.inr ⟨hjc,rfl⟩⟩;have:=qR6 (T:=81) (sz:=4) hrow hcs hs.len j (ps.length-j) (cp-j) (by omega) (by omega);rw[←zX4,List.take_of_length_le (by rw[zJ2];simp)] at this;simpa using this
 have hS1:Slc w 81 4 (.slice (some ⟨gb,off,none⟩) i cp) (ps.take i).length (qA5 (ps.take i)):=by
  have:=qR6 (T:=81) (sz:=4) hrow hcs hs.len 0 i cp (by omega) (by omega);simp only[Nat.zero_mul,Nat.add_zero,List.drop_zero] at this;rw[←zX6] at this;simpa [Nat.min_eq_left (show i≤ps.length by omega)] using this
 obtain⟨q3,m3,c3,rfl⟩:=hs3;have HS1:=zh hS1;have HS3:=zh hS3;have HB:=zh hb;have hi':(i:Int)≤(cp:Int):=by omega
 have hj':(j:Int)≤(ps.length:Int):=by omega
 have hjc:(j:Int)≤(cp:Int):=by omega
 have HSL:=zh hsl3;clear hS1 hS3 hb hs hsl3;go_enter func131,ntmps131;go_wp2_with fail;refine wp_region_any (by kernel_rfl) ?_;change wpAny _ _ _ _ _ _ _ (World.drew _);refine zu 0 (.slice (some ⟨gb,off,none⟩) ps.length cp) ?_;refine zu 1 (.int .i64 i) ?_;refine zu 2 (.slice (some ⟨gb,off,none⟩) i cp) ?_;refine zu 3 (.slice bb bs.length bc) ?_;refine zu 4 (.slice (some ⟨gb,off,none⟩) ps.length cp) ?_;refine zu 5 (.int .i64 j) ?_;refine wpAny_take (i:=6) (v:=.slice (some q3) m3 c3) rfl (by kernel_rfl) (by kernel_rfl) (by kernel_rfl) (fun _ _ _ h=>h) (Or.inl ⟨by rfl,fun w=>by
  rcases HSL.out with⟨e1,e2⟩|⟨e1,e2⟩
  ·have e3:ps.length=cp:=by omega
   rw[e2];subst e1;go_simp
  ·rw[e2];have hjn:¬cp=j:=fun e=>e1 e.symm;go_simp⟩) ?_
 try simp only[zZ]
 refine zQ 7 fun K hK=>?_;go_simp;obtain⟨w2,hw2,hG2,hK2⟩:∃ w2,w2=(w.alloc (.cells #[.slice (some ⟨gb,off,none⟩) i cp,.slice bb bs.length bc,.slice (some q3) m3 c3] 150)).drew∧w2.heap[w.heap.size]?=some (.cells #[.slice (some ⟨gb,off,none⟩) i cp,.slice bb bs.length bc,.slice (some q3) m3 c3] 150)∧Kp [] w w2:=⟨_,rfl,μ _ _,((Kp.refl _ _).alloc _).drew⟩;rw[←hw2];clear hw2;refine hK _ _ ?_;clear hK K
 try simp only[zZ]
 refine zQ 8 fun K hK=>?_;go_simp;refine (zA7 w.heap.size [.slice (some ⟨gb,off,none⟩) i cp,.slice bb bs.length bc,.slice (some q3) m3 c3] [ps.take i,bs,ps.drop j] w2 hG2 ⟨rfl,fun k h1 h2=>?_⟩ (ps.take i++bs++ps.drop j) (by simp) (by simp;omega) (by simp)).mono ?_
 ·have hk:k=0∨k=1∨k=2:=by simp at h1;omega
  rcases hk with rfl|rfl|rfl
  ·exact HS1.out.keep0 hK2
  ·exact HB.out.keep0 hK2
  ·exact HS3.out.keep0 hK2
 rintro e w3 ⟨v3,rfl,hown3,hK3⟩;have hK3':Kp [] w w3:=hK2.tr hK3;refine hK _ _ ?_;clear hK K
 try simp only[zZ]
 refine zQ 9 fun K hK=>?_;go_simp;refine hK _ _ ?_;clear hK K;refine wpAny_done (by kernel_rfl) ?_ _;have HO:Hid (Slc w3 81 4 v3 (ps.take i++bs++ps.drop j).length (qA5 (ps.take i++bs++ps.drop j))):=qG3 hown3;clear hown3;go_wp2;go_ret;have hO:=HO.out;exact⟨v3,rfl,by simpa using hO,hK3'⟩
def φ(V:Nat)(h:HL):Value:=.agg #[.pointer (some ⟨V,0,none⟩),.string h.key,.int .i64 h.b,.int .u64 h.s,.pointer h.ptr]
def qC5(h:HL):Value:=.agg #[.string h.key,.int .i64 h.b,.int .u64 h.s,.pointer h.ptr]
def zD2:List TypeId:=[81,83,64]
structure Env where
 O:qF0
 V:Nat
 S:List Nat
 Dev:World→Prop
 keep:∀ w w' L,Dev w→Kp L w w'→(∀ k∈L,∃ c t fr,w.heap[k]?=some (.cells c t fr)∧t∈zD2)→Dev w'
 apt:∀ w,Dev w→Apt w S qF9
 low:∀ w,Dev w→∀ k∈S,k<w.heap.size
 pos:∀ (n b:Nat) (s:Int) (t:Tn n),O n b s t→1≤b
 lvl:∀ (n b:Nat) (s:Int) (t:Tn n),O n b s t→n<6
 read:∀ (n:Nat) (h r:HL) (l:Lnk (Tn n)) (a:Int) (w:World),Dev w→RL O n w h l→h.p=none→(n:Int)<a→Calls prog 87 #[φ V r,qC5 h,.int .i64 a] w fun e w'=>∃ q,e=.returned (.pointer (some ⟨q,0,none⟩))∧RN O n w' q l.sub∧Dev w'∧Kp S w w'
structure Env.To(E:Env)(w w':World):Prop where
 dev:E.Dev w'
 kp:Kp E.S w w'
theorem Env.To.of0{E:Env}{w w':World}(h:E.Dev w)(hK:Kp [] w w'):E.To w w':=⟨E.keep _ _ [] h hK (by simp),hK.mono (by simp)⟩
theorem Env.To.trans{E:Env}{a b c:World}(h:E.To a b)(k:E.To b c):E.To a c:=⟨k.dev,h.kp.trans k.kp (fun i hi _=>hi)⟩
theorem Env.To.tail{E:Env}{a b c:World}(h:E.To a b)(k:Kp [] b c):E.To a c:=h.trans (Env.To.of0 h.dev k)
theorem Env.RN{E:Env}{n:Nat}{w w':World}{q:Nat}{t:Tn n}(h:RN E.O n w q t)(hd:E.Dev w)(hT:E.To w w'):YtdohpenfkdckiabGreatDoor.RN E.O n w' q t:=RN.keep hT.kp (E.apt w hd) n q t h
theorem Env.RL{E:Env}{n:Nat}{w w':World}{h:HL}{l:Lnk (Tn n)}(hr:RL E.O n w h l)(hd:E.Dev w)(hT:E.To w w'):YtdohpenfkdckiabGreatDoor.RL E.O n w' h l:=RL.keep hr hT.kp (E.apt w hd)
theorem Env.RLs{E:Env}{n:Nat}{w w':World}{v:Value}{ls:List (Lnk (Tn n))}(hr:RLs E.O n w v ls)(hd:E.Dev w)(hT:E.To w w'):YtdohpenfkdckiabGreatDoor.RLs E.O n w' v ls:=RLs.keep hr hT.kp (E.apt w hd)
theorem Env.To.new{E:Env}{w0 w w':World}{k:Nat}{o:Obj}(hT:E.To w w')(hd:E.Dev w0)(hk:w0.heap.size≤k)(h:w.heap[k]?=some o):w'.heap[k]?=some o:=
 hT.kp.heap h (fun hm=>by have:=E.low w0 hd k hm;omega)
theorem xA0(E:Env)(n:Nat)(h r:HL)(l:Lnk (Tn n))(a:Int)(w:World)(hd:E.Dev w)(hr:RL E.O n w h l)(ha:h.p=none→(n:Int)<a):
  Calls prog 87 #[φ E.V r,qC5 h,.int .i64 a] w fun e w'=>∃ q,e=.returned (.pointer (some ⟨q,0,none⟩))∧RN E.O n w' q l.sub∧E.To w w':=by
 cases hp:h.p with
 | none=>
  refine (E.read n h r l a w hd hr hp (ha hp)).mono ?_;rintro e w' ⟨q,h1,h2,h3,h4⟩;exact⟨q,h1,h2,h3,h4⟩
 | some q=>
  have hN:RN E.O n w q l.sub:=by
   have h2:=hr.2
   cases hl:l.ref with
   | none=>
    rw[hl] at h2;obtain⟨_,_,q',h3,h4⟩:=h2;rw[hp] at h3;cases h3;exact h4
   | some x=>
    rw[hl] at h2;rw[hp] at h2;cases h2.2.2.1
  have hptr:h.ptr=some ⟨q,0,none⟩:=by simp[HL.ptr,hp]
  have e1:qC5 h=.agg #[.string h.key,.int .i64 h.b,.int .u64 h.s,.pointer (some ⟨q,0,none⟩)]:=by rw[qC5,hptr]
  rw[e1,φ];have HN:=zh hN;have HD:=zh hd;clear hN hr hd e1 hptr ha;go_enter func87,ntmps87;go_wp2;go_ret;exact⟨q,rfl,Env.RN HN.out HD.out (Env.To.of0 HD.out (((Kp.refl _ _).alloc _).alloc _)),Env.To.of0 HD.out (((Kp.refl _ _).alloc _).alloc _)⟩
theorem qJ7(E:Env)(n:Nat)(h r:HL)(l:Lnk (Tn n))(a:Int)(w:World)(hd:E.Dev w)(hr:RL E.O n w h l)(ha:(n:Int)<a):
  Calls prog 87 #[φ E.V r,qC5 h,.int .i64 a] w fun e w'=>∃ q,e=.returned (.pointer (some ⟨q,0,none⟩))∧RN E.O n w' q l.sub∧E.To w w':=
 xA0 E n h r l a w hd hr fun _=>ha
theorem Env.low6{E:Env}{n:Nat}{w:World}{h:HL}{l:Lnk (Tn n)}(hr:YtdohpenfkdckiabGreatDoor.RL E.O n w h l)(hp:h.p=none):(n:Int)<6:=by
 have h2:=hr.2
 cases hl:l.ref with
 | none=>
  rw[hl] at h2;obtain⟨_,_,q,h3,h4⟩:=h2;rw[hp] at h3;cases h3
 | some x=>
  rw[hl] at h2;have:=E.lvl _ _ _ _ h2.2.2.2;omega
theorem qY6(E:Env)(n:Nat)(h:HL)(l:Lnk (Tn n))(w:World)(hd:E.Dev w)(hr:RL E.O n w h l):
  Calls prog 86 #[φ E.V h] w fun e w'=>∃ q,e=.returned (.pointer (some ⟨q,0,none⟩))∧RN E.O n w' q l.sub∧E.To w w':=by
 have HD:=zh hd;have HR:=zh hr;have HN:Hid (∀ W:World,E.To w W→Calls prog 87 #[.agg #[.pointer (some ⟨E.V,0,none⟩),.string h.key,.int .i64 h.b,.int .u64 h.s,.pointer h.ptr],.agg #[.string h.key,.int .i64 h.b,.int .u64 h.s,.pointer h.ptr],.int .i64 6] W fun e w'=>∃ q,e=.returned (.pointer (some ⟨q,0,none⟩))∧RN E.O n w' q l.sub∧E.To W w'):=
  fun W hT=>xA0 E n h h l 6 W hT.dev (Env.RL hr hd hT) (Env.low6 hr)
 clear hd hr;rw[φ];go_enter func86,ntmps86;go_wp2_with fail;refine (HN.out _ (Env.To.of0 HD.out ((Kp.refl _ _).alloc _))).mono ?_;rintro e w1 ⟨q,rfl,hN1,hT1⟩;have HN1:=zh hN1;have HT1:Hid (E.To w w1):=(Env.To.of0 HD.out ((Kp.refl _ _).alloc _)).trans hT1;clear hN1 hT1 HN;go_wp2;go_ret;exact⟨q,rfl,HN1.out,HT1.out⟩
theorem RLof.new{O:qF0}{n:Nat}{w:World}{h:HL}{l:Lnk (Tn n)}(hr:RL O n w h l):(l.ref=none∧∃ q,h.p=some q∧RN O n w q l.sub)∨(l.ref.isSome=true∧h.p=none):=by
 have h2:=hr.2
 cases hl:l.ref with
 | none=>
  rw[hl] at h2;obtain⟨_,_,q,h3,h4⟩:=h2;exact .inl ⟨rfl,q,h3,h4⟩
 | some x=>
  rw[hl] at h2;exact .inr ⟨rfl,h2.2.2.1⟩
def qW0:(n:Nat)→Tn n→Prop
 | 0,t=>(prs t).length≤10000
 | n+1,t=>(η t).length≤10000∧∀ l∈η t,qW0 n l.sub
theorem qG9{α:Type}(f:α→Nat):∀ (l:List α),(∀ x∈l,1≤f x)→l.length≤meas f l
 | [],_=>by simp[meas]
 | x::l,h=>by
  have h1:=h x (by simp);have h2:=qG9 f l fun y hy=>h y (by simp[hy]);rw[qE0,List.length_cons];omega
theorem qK5:∀ (n:Nat) (lo:ByteArray) (t:Tn n),Good n lo t→qW0 n t
 | 0,lo,ps,h=>by
  have h1:meas ν (prs ps)≤126:=h.fits;have h2:=qG9 ν (prs ps) fun x _=>by unfold ν;omega
  show (prs ps).length≤10000;omega
 | n+1,lo,ls,h=>by
  have h1:meas qA3 (η ls)≤126:=h.fits;have h2:=qG9 qA3 (η ls) fun x _=>by unfold qA3;omega
  exact⟨by omega,fun l hl=>qK5 n l.key l.sub (h.all l hl).1⟩
theorem xT8(O:qF0):∀ (n:Nat) (h:HL) (l:Lnk (Tn n)) (w:World),RL O n w h l→qW0 n l.sub→qB1 n l.sub≤1000000→
  Calls prog 96 #[qC5 h] w fun e w'=>e=.returned (.int .i64 (news n l))∧Kp [] w w':=by
 intro n
 induction n with
 | zero=>
  intro h l w hr hsl hno;rcases hr.new with⟨h1,q,h2,vp,h3,h4⟩|⟨h1,h2⟩
  ·have hptr:h.ptr=some ⟨q,0,none⟩:=by simp[HL.ptr,h2]
   rw[qC5,hptr];have hqs:=ζ h3;have q2:=ξ h3 2;simp only[υ,zG,zH,zI] at q2;clear hr h4;go_enter func96,ntmps96;go_wp2_with fail;refine wp_loop_rounds 1 ?_;rw[rounds_succ];go_wp2;go_ret;exact⟨qL1 (by simp[news,h1]),(Kp.refl _ _).alloc _⟩
  ·have hptr:h.ptr=none:=by simp[HL.ptr,h2]
   rw[qC5,hptr];clear hr;go_enter func96,ntmps96;go_wp2;go_ret;exact⟨qL1 (by simp[news,h1]),(Kp.refl _ _).alloc _⟩
 | succ n ih=>
  intro h l w hr hsl hno;rcases hr.new with⟨h1,q,h2,vl,h3,hs,h4,h5⟩|⟨h1,h2⟩
  ·have hptr:h.ptr=some ⟨q,0,none⟩:=by simp[HL.ptr,h2]
   rw[qC5,hptr];obtain⟨hsl1,hsl2⟩:=hsl;have hnews:news (n+1) l=1+meas (fun m:Lnk (Tn n)=>news n m) (η l.sub):=by simp[news,h1]
   have hnod:qB1 (n+1) l.sub=1+meas (fun m:Lnk (Tn n)=>qB1 n m.sub) (η l.sub):=rfl;have hnn:=zK0 (f:=fun m:Lnk (Tn n)=>news n m) (g:=fun m=>qB1 n m.sub) (η l.sub) fun m _=>zK2 n m;rw[hnod] at hno;have hbl:=h5.1;obtain⟨ls,hls⟩:∃ ls,ls=η l.sub:=⟨_,rfl⟩;rw[←hls] at h5 hsl1 hsl2 hnews hnn hno hbl;clear hls hnod;have hqs:=ζ h3;obtain⟨bs,cp,hv⟩:∃ bs cp,vl=.slice bs hs.length cp:=by
    rcases h4.val with⟨h0,b,c,h1,_⟩|⟨g,off,cap,cur,fr,h1,_⟩
    ·rw[h0];exact⟨b,c,h1⟩
    ·exact⟨_,cap,h1⟩
   subst hv;have q2:=ξ h3 2;simp only[υ,zG,zH,zI] at q2;have HS:=zh h4;have HB:=zh h5;have HN:=zh hnews;have HSL:=zh hsl2;have HNO:=zh hno;have HNN:=zh hnn;have HIH:=ih;clear hr h4 h5 hnews hsl2 h1 h2 ih hno hnn;go_enter func96,ntmps96;go_wp2
   go_loopw [3,15] (fun s i wr=>∃ (j:Nat),j≤hs.length∧i=.int .i64 j∧s=.int .i64 (1+meas (fun m:Lnk (Tn n)=>news n m) (ls.take j):Nat)∧Kp [] w wr) (fun _ i _=>hs.length-(intOf i).toNat)
   case atStart=>exact⟨0,Nat.zero_le _,rfl,rfl,(Kp.refl _ _).alloc _⟩
   case round=>
    obtain⟨j,hj,rfl,rfl,hK⟩:=hrel;have hmt:=qN2 (fun m:Lnk (Tn n)=>news n m) ls j;have hnb:=HNN.out;have hnc:=HNO.out;by_cases hlt:j<hs.length
    ·have hjb:(j:Int)<(hs.length:Int):=by omega
     obtain⟨gb,off,cp',cur,fr,hv,hcp,hrow,hcur⟩:=HS.out.link (by omega);obtain⟨c0,c1,c2,c3⟩:=hcur j hlt;simp only[Value.slice.injEq,true_and] at hv;obtain⟨rfl,rfl⟩:=hv;have hR:=hK.hp hrow;have a0:=ξ hR (off+j*4);rw[c0] at a0;have a1:=ξ hR (off+j*4+1);rw[c1] at a1;have a2:=ξ hR (off+j*4+2);rw[c2] at a2;have a3:=ξ hR (off+j*4+3);rw[c3] at a3;have hgs:=ζ hR;have hjl:j<ls.length:=by omega
     have hrl:=HB.out.2 j hlt hjl;have HMS:Hid (meas (fun m:Lnk (Tn n)=>news n m) (ls.take (j+1))=meas (fun m:Lnk (Tn n)=>news n m) (ls.take j)+news n ls[j]):=qL9 _ ls j hjl;have hmt1:=qN2 (fun m:Lnk (Tn n)=>news n m) ls (j+1);rw[HMS.out] at hmt1;have hnj:qB1 n ls[j].sub≤meas (fun m:Lnk (Tn n)=>qB1 n m.sub) ls:=by
      have h1:=qL9 (fun m:Lnk (Tn n)=>qB1 n m.sub) ls j hjl;have h2:=qN2 (fun m:Lnk (Tn n)=>qB1 n m.sub) ls (j+1);omega
     have HRL:=zh hrl;have HNJ:Hid (qB1 n ls[j].sub≤1000000):=by show _≤_;omega
     clear hcur hrl hnj;generalize meas (fun m:Lnk (Tn n)=>news n m) (ls.take j)=M at *;go_wp2_with fail;refine (HIH hs[j] ls[j] _ (RL.keep HRL.out (hK.alloc _) (Apt.nil _ _)) (HSL.out _ (List.getElem_mem hjl)) HNJ.out).mono ?_;rintro e w1 ⟨rfl,hK1⟩;have hK1':Kp [] w w1:=(hK.alloc _).tr hK1;go_wp2;refine⟨⟨j+1,by omega,by go_num,by rw[HMS.out];go_num,hK1'⟩,by simp[intOf];omega⟩
    ·have hjb:¬(j:Int)<(hs.length:Int):=by omega
     go_wp2;go_ret;refine⟨qL1 ?_,hK⟩;rw[HN.out,List.take_of_length_le (by omega)];omega
  ·have hptr:h.ptr=none:=by simp[HL.ptr,h2]
   rw[qC5,hptr];clear hr;go_enter func96,ntmps96;go_wp2;go_ret;exact⟨qL1 (by simp[news,h1]),(Kp.refl _ _).alloc _⟩
theorem RN.obj{O:qF0}{n:Nat}{w:World}{q:Nat}{t:Tn n}(h:RN O n w q t):∃ pb pl pc lb ll lc,w.heap[q]?=some (υ (n:Int) (.slice pb pl pc) (.slice lb ll lc))∧pl+ll=cnt n t:=by
 cases n with
 | zero=>
  obtain⟨vp,h1,h2⟩:=h;obtain⟨bs,cp,hv⟩:∃ bs cp,vp=.slice bs (prs t).length cp:=by
   rcases h2.val with⟨h0,b,c,h1,_⟩|⟨g,off,cap,cur,fr,h1,_⟩
   ·rw[h0];exact⟨b,c,h1⟩
   ·exact⟨_,cap,h1⟩
  rw[hv] at h1;exact⟨_,_,_,_,_,_,h1,rfl⟩
 | succ n=>
  obtain⟨vl,h1,hs,h2,h3⟩:=h;obtain⟨bs,cp,hv⟩:∃ bs cp,vl=.slice bs hs.length cp:=by
   rcases h2.val with⟨h0,b,c,h1,_⟩|⟨g,off,cap,cur,fr,h1,_⟩
   ·rw[h0];exact⟨b,c,h1⟩
   ·exact⟨_,cap,h1⟩
  rw[hv] at h1;refine⟨_,_,_,_,_,_,h1,?_⟩;rw[Nat.zero_add,h3.1];rfl
theorem qT1(O:qF0)(n:Nat)(q:Nat)(t:Tn n)(w:World)(h:RN O n w q t)(hc:cnt n t≤1000000):
  Calls prog 129 #[.pointer (some ⟨q,0,none⟩)] w fun e w'=>e=.returned (.int .i64 (cnt n t))∧Kp [] w w':=by
 obtain⟨pb,pl,pc,lb,ll,lc,h1,h2⟩:=h.obj;have HC:=zh h2;rw[←h2] at hc;have hqs:=ζ h1;have q1:=ξ h1;simp only[υ,zG,zH,zI] at q1;clear h h1 h2;go_enter func129,ntmps129;go_wp2_with fail
 go_quiet (fail)
 go_wp2;go_ret;exact⟨qL1 (by rw[←HC.out];omega),(Kp.refl _ _).drewN _⟩
theorem jR2(O:qF0)(V n:Nat)(h:HL)(l:Lnk (Tn n))(w:World)(hr:RL O n w h l)(hs:qW0 n l.sub)(hn:qB1 n l.sub≤1000000):
  Calls prog 58 #[φ V h] w fun e w'=>e=.returned (.int .i64 (news n l))∧Kp [] w w':=by
 rw[φ];go_enter func58,ntmps58;go_wp2_with fail;refine (xT8 O n h l _ (RL.keep hr ((Kp.refl _ _).alloc _) (Apt.nil _ _)) hs hn).mono ?_;rintro e w1 ⟨rfl,hK1⟩;have hK1':Kp [] w w1:=((Kp.refl _ _).alloc _).tr hK1;go_wp2;go_ret;exact⟨rfl,hK1'⟩
def RR(E:Env)(w:World)(h:HL):Root→Prop
 | .none=>h=⟨⟨#[]⟩,0,0,none⟩
 | .at n l=>RL E.O n w h l
theorem RR.to{E:Env}{w w':World}{h:HL}{r:Root}(hr:RR E w h r)(hd:E.Dev w)(hT:E.To w w'):RR E w' h r:=by
 cases r with
 | none=>exact hr
 | «at» n l=>exact Env.RL hr hd hT
theorem qX0(d:Nat)(W:World):Sem.run prog (Op.equalIn (d+1) 79 (.pointer none) (.pointer none)) W=.ok true W:=by
 simp[Op.equalIn,run_underlying underlying79]
theorem zS8(d:Nat)(a:Addr)(W:World):Sem.run prog (Op.equalIn (d+1) 79 (.pointer (some a)) (.pointer none)) W=.ok false W:=by
 simp[Op.equalIn,run_underlying underlying79]
theorem zB0(V:Nat)(w:World):
  Calls prog 85 #[φ V ⟨⟨#[]⟩,0,0,none⟩] w fun e w'=>e=.returned (.bool true)∧Kp [] w w':=by
 have heq:∀ W:World,Sem.run prog (Op.equalIn 9999 79 (.pointer none) (.pointer none)) W=.ok true W:=fun W=>qX0 9998 W;rw[φ,show HL.ptr ⟨⟨#[]⟩,0,0,none⟩=none from rfl];go_enter func85,ntmps85;go_wp2;go_ret;exact⟨rfl,(Kp.refl _ _).alloc _⟩
theorem xU8(V q:Nat)(w:World):
  Calls prog 85 #[.agg #[.pointer (some ⟨V,0,none⟩),.string ⟨#[]⟩,.int .i64 0,.int .u64 0,.pointer (some ⟨q,0,none⟩)]] w fun e w'=>e=.returned (.bool false)∧Kp [] w w':=by
 have heq:∀ W:World,Sem.run prog (Op.equalIn 9999 79 (.pointer (some ⟨q,0,none⟩)) (.pointer none)) W=.ok false W:=fun W=>zS8 9998 _ W;go_enter func85,ntmps85;go_wp2;go_ret;exact⟨rfl,(Kp.refl _ _).alloc _⟩
theorem zS4(V:Nat)(b s:Int)(hb:1≤b)(w:World):
  Calls prog 85 #[.agg #[.pointer (some ⟨V,0,none⟩),.string ⟨#[]⟩,.int .i64 b,.int .u64 s,.pointer none]] w fun e w'=>e=.returned (.bool false)∧Kp [] w w':=by
 have heq:∀ W:World,Sem.run prog (Op.equalIn 9999 79 (.pointer none) (.pointer none)) W=.ok true W:=fun W=>qX0 9998 W;have hb0:¬b=0:=by omega
 go_enter func85,ntmps85;go_wp2;go_ret;exact⟨rfl,(Kp.refl _ _).alloc _⟩
theorem qZ3(E:Env)(n:Nat)(h:HL)(l:Lnk (Tn n))(w:World)(hr:RL E.O n w h l)(hl:l.key=⟨#[]⟩):
  Calls prog 85 #[φ E.V h] w fun e w'=>e=.returned (.bool false)∧Kp [] w w':=by
 have hk:h.key=⟨#[]⟩:=by rw[hr.1,hl]
 have h2:=hr.2
 cases hx:l.ref with
 | none=>
  rw[hx] at h2;obtain⟨h3,h4,q,h5,_⟩:=h2;have e:φ E.V h=.agg #[.pointer (some ⟨E.V,0,none⟩),.string ⟨#[]⟩,.int .i64 0,.int .u64 0,.pointer (some ⟨q,0,none⟩)]:=by rw[φ,hk,h3,h4,HL.ptr,h5];rfl
  rw[e];exact xU8 E.V q w
 | some x=>
  rw[hx] at h2;obtain⟨h3,h4,h5,h6⟩:=h2;have hp:=E.pos n _ _ _ h6;have e:φ E.V h=.agg #[.pointer (some ⟨E.V,0,none⟩),.string ⟨#[]⟩,.int .i64 h.b,.int .u64 h.s,.pointer none]:=by rw[φ,hk,HL.ptr,h5];rfl
  rw[e];exact zS4 E.V h.b h.s (by rw[h3];omega) w
def qG4(l:List KV)(k:ByteArray):Option KV:=l.find? fun q=>decide (q.k=k)
def qS0(l:List KV)(k:ByteArray):ByteArray:=((qG4 l k).map KV.v).getD ⟨#[]⟩
theorem xZ8{k:ByteArray}{a b c:List KV}(ha:∀ q∈a,q.k≠k)(hc:∀ q∈c,q.k≠k):qG4 (a++b++c) k=qG4 b k:=by
 unfold qG4;rw[List.find?_append,List.find?_append];have h1:a.find? (fun q=>decide (q.k=k))=none:=by rw[List.find?_eq_none];intro q hq;simp[ha q hq]
 have h2:c.find? (fun q=>decide (q.k=k))=none:=by rw[List.find?_eq_none];intro q hq;simp[hc q hq]
 rw[h1,h2];simp
theorem xZ9{l:List KV}(hs:Sorted l)(k:ByteArray):qG4 l k=if qG0 l (qC1 l k) k then l[qC1 l k]? else none:=by
 by_cases h:qG0 l (qC1 l k) k=true
 ·rw[if_pos h];unfold qG0 at h;split at h
  ·next q hq=>
   have hqk:q.k=k:=by simpa using h
   have hlt:=(List.getElem?_eq_some_iff.1 hq).1;rw[hq];unfold qG4;rw[←List.take_append_drop (qC1 l k) l,List.find?_append,List.find?_eq_none.2 (fun x hx=>?_),List.drop_eq_getElem_cons hlt,(List.getElem?_eq_some_iff.1 hq).2]
   ·simp[hqk]
   ·have:kl x.k k=true:=zE5 x (by rw[←xH5 hs k];exact hx);simp[qJ3 this]
  ·cases h
 ·rw[if_neg h];have hn:¬∃ q∈l,q.k=k:=fun hq=>h ((zH6 hs k).2 hq);unfold qG4;rw[List.find?_eq_none];intro q hq;simp only[decide_eq_true_eq];exact fun e=>hn ⟨q,hq,e⟩
theorem Good.row{n:Nat}{lo:ByteArray}{t:Tn (n+1)}(h:Good (n+1) lo t):Row0 n lo (η t):=⟨h.head,fun m hm=>⟨(h.all m hm).1,(h.all m hm).2.2⟩,h.pair⟩
theorem zE0{O:qF0}{n:Nat}{w:World}{hs:List HL}{ls:List (Lnk (Tn n))}(hb:Both (RL O n w) hs ls)(hp:ls.Pairwise (qR8 n)):Rise hs:=by
 unfold Rise;rw[List.pairwise_iff_getElem];intro i j hi hj hij;have h1:=hb.1;have:=List.pairwise_iff_getElem.1 hp i j (by omega) (by omega) hij;rw[(hb.2 i hi (by omega)).1,(hb.2 j hj (by omega)).1];exact this.1
theorem zM4{O:qF0}{n:Nat}{w:World}{hs:List HL}{ls:List (Lnk (Tn n))}(hb:Both (RL O n w) hs ls)(k:ByteArray):hs.findIdx (fun l=>kl k l.key)=ls.findIdx (fun l=>kl k l.key):=by
 have e:hs.map HL.key=ls.map Lnk.key:=hb.map_eq fun x y hr=>hr.1;have h1:∀ (l:List HL),l.findIdx (fun l=>kl k l.key)=(l.map HL.key).findIdx (fun x=>kl k x):=fun l=>by rw[List.findIdx_map];rfl
 have h2:∀ (l:List (Lnk (Tn n))),l.findIdx (fun l=>kl k l.key)=(l.map Lnk.key).findIdx (fun x=>kl k x):=fun l=>by rw[List.findIdx_map];rfl
 rw[h1,h2,e]
def qT7(w:World)(s:Value):Nat:=match s with
 | .pointer (some a)=>match w.cell? ⟨a.block,0,none⟩ with
  | some (.int _ i)=>i.toNat
  | _=>0
 | _=>0
theorem zJ8{O:qF0}{n:Nat}{w:World}{q:Nat}{t:Tn n}(h:RN O n w q t):qT7 w (.pointer (some ⟨q,0,none⟩))=n:=by
 obtain⟨pb,pl,pc,lb,ll,lc,h1,h2⟩:=h.obj;have:=ξ h1 0;simp only[υ,zG,zH] at this;simp[qT7,this]
theorem xI9{n:Nat}{lo k:ByteArray}{t:Tn (n+1)}(hg:Good (n+1) lo t)(hk:kl k lo=false)(hc:1≤cnt (n+1) t):
  ∃ (h:qB2 (η t) k<(η t).length),Good n (η t)[qB2 (η t) k].key (η t)[qB2 (η t) k].sub∧3≤cnt n (η t)[qB2 (η t) k].sub∧kl k (η t)[qB2 (η t) k].key=false∧qG4 (cont (n+1) t) k=qG4 (cont n (η t)[qB2 (η t) k].sub) k:=by
 have hne:η t≠[]:=fun e=>by
  have h4:1≤(η t).length:=hc;rw[e] at h4;simp at h4
 obtain⟨A,m,B,e,hA,hkm,hqA,hqB⟩:=qZ7 hg.row hne hk;have hlt:qB2 (η t) k<(η t).length:=by rw[←hA,e];simp
 have hm:(η t)[qB2 (η t) k]=m:=by
  have:(η t)[qB2 (η t) k]?=some m:=by rw[←hA,e];simp
  rw[List.getElem?_eq_getElem hlt] at this;exact Option.some.inj this
 have hall:=hg.all m (by show m∈η t;rw[e];simp);refine⟨hlt,?_⟩;rw[hm];refine⟨hall.1,hall.2.1,hkm,?_⟩;show qG4 ((η t).flatMap fun l=>cont n l.sub) k=_;rw[e,List.flatMap_append,List.flatMap_cons,←List.append_assoc];refine xZ8 (fun q hq=>?_) (fun q hq=>?_)
 ·obtain⟨a,ha,hq⟩:=List.mem_flatMap.1 hq;exact qJ3 (hqA a ha q hq)
 ·obtain⟨b,hb,hq⟩:=List.mem_flatMap.1 hq;have gb:=hg.all b (by show b∈η t;rw[e];simp[hb]);exact (qJ3 (qN7 (hqB b hb) ((qK4 n b.key b.sub gb.1).2 q hq).2)).symm
def zO3(E:Env)(w0 w:World)(k:ByteArray)(all:List KV)(s:Value):Prop:=
 ∃ (m:Nat) (t:Tn m) (lo:ByteArray) (q:Nat),s=.pointer (some ⟨q,0,none⟩)∧RN E.O m w q t∧Good m lo t∧kl k lo=false∧1≤cnt m t∧qG4 all k=qG4 (cont m t) k∧m≤1000000
theorem zN0(E:Env)(r:Root)(h:HL)(k:ByteArray)(w:World)(hd:E.Dev w)(hR:RR E w h r)(hg:RGood r)(hsz:r.cont.length≤1000000):
  Calls prog 50 #[φ E.V h,.string k] w fun e w'=>e=.returned (.tuple #[.string (qS0 r.cont k),.bool (qG4 r.cont k).isSome])∧E.To w w':=by
 cases r with
 | none=>
  have hR:h=⟨⟨#[]⟩,0,0,none⟩:=hR;subst hR;have HD:=zh hd;clear hd;rw[φ];go_enter func50,ntmps50;go_wp2_with fail;refine (zB0 E.V _).mono ?_;rintro e w1 ⟨rfl,hK1⟩;have hK1':Kp [] w w1:=((Kp.refl _ _).alloc _).tr hK1;go_wp2
  go_ret2
  exact⟨rfl,Env.To.of0 HD.out hK1'⟩
 | «at» n l=>
  have hR:RL E.O n w h l:=hR;obtain⟨g1,g2,g3⟩:=hg;have hlv:=zL3 ⟨g1,g2,g3⟩;have hsz:(cont n l.sub).length≤1000000:=hsz;obtain⟨all,hall⟩:∃ all,all=cont n l.sub:=⟨_,rfl⟩;have HA:Hid (Root.cont (.at n l)=all):=hall.symm;have HD:=zh hd;have HG:=zh g2;clear hd;obtain⟨tc,htc,htv⟩:∃ tc:Array Value,tc=#[.pointer (some ⟨E.V,0,none⟩),.string h.key,.int .i64 h.b,.int .u64 h.s,.pointer h.ptr]∧φ E.V h=.agg tc:=⟨_,rfl,rfl⟩;rw[φ];go_enter func50,ntmps50;go_wp2_with fail;obtain⟨w0,hw0,hB0,hK0⟩:∃ w0,w0=w.alloc (.cells #[.pointer (some ⟨E.V,0,none⟩),.string h.key,.int .i64 h.b,.int .u64 h.s,.pointer h.ptr] 83)∧w0.heap[w.heap.size]?=some (.cells #[.pointer (some ⟨E.V,0,none⟩),.string h.key,.int .i64 h.b,.int .u64 h.s,.pointer h.ptr] 83)∧Kp [] w w0:=⟨_,rfl,μ _ _,(Kp.refl _ _).alloc _⟩;rw[←hw0];clear hw0;have hT0:=Env.To.of0 HD.out hK0;refine (qZ3 E n h l w0 (Env.RL hR HD.out hT0) g1).mono ?_;rintro e w1 ⟨rfl,hK1⟩;have hT1:=hT0.tail hK1;have hB1:=hK1.hp hB0;have hBs:=ζ hB1;have b0:=ξ hB1;go_wp2_with fail;refine (qY6 E n h l w1 hT1.dev (Env.RL hR HD.out hT1)).mono ?_;rintro e w2 ⟨q,rfl,hN2,hT2⟩;have hT2':=hT1.trans hT2;have hB2:=hT2.new HD.out (Nat.le_refl _) hB1;have HT2:=zh hT2';have HB2:=zh hB2;have HN2:=zh hN2;clear hT2 hT2' hB2 hN2 hK1 hT1 hB1 hK0 hT0 hB0 b0 hBs;go_wp2
  go_loopw [6] (fun s wr=>zO3 E w wr k all s∧E.To w wr∧wr.heap[w.heap.size]?=some (.cells #[.pointer (some ⟨E.V,0,none⟩),.string h.key,.int .i64 h.b,.int .u64 h.s,.pointer h.ptr] 83)) (fun s wr=>qT7 wr s)
  case atStart=>exact⟨⟨n,l.sub,l.key,q,rfl,HN2.out,HG.out,by rw[g1];exact qN6 _,by omega,by rw[hall],by omega⟩,HT2.out,HB2.out⟩
  case round=>
   obtain⟨⟨m,t,lo,q',rfl,hN,hgd,hklo,hc1,hget,hm⟩,hT,hB⟩:=hrel
   cases m with
   | zero=>
    have hlv0:qT7 wr (.pointer (some ⟨q',0,none⟩))=0:=zJ8 hN;obtain⟨vp,hq,hsl⟩:=hN;have hqs:=ζ hq;have q0:=ξ hq 0;simp only[υ,zG,zH,zI] at q0;have hcl:(prs t).length≤10000:=qK5 0 lo t hgd;clear hlv0;go_wp2_with fail;refine (zE4 q' 0 vp _ (prs t) k wr hq hsl (by omega) hgd.sorted).mono ?_;rintro e w3 ⟨rfl,hK3⟩;have hT3:=hT.tail hK3;have hq3:=hK3.hp hq;have hs3:=hsl.keep0 hK3;have HE:Hid (qG4 all k=if qG0 (prs t) (qC1 (prs t) k) k then (prs t)[qC1 (prs t) k]? else none):=by
     show _=_;rw[hget];exact xZ9 (l:=prs t) hgd.sorted k
    have HT3:=zh hT3;have hqs3:=ζ hq3;have r1:=ξ hq3 1;simp only[υ,zG,zH,zI] at r1;obtain⟨i,hi0⟩:∃ i,qC1 (prs t) k=i:=⟨_,rfl⟩;rw[hi0] at HE ⊢;by_cases hat:qG0 (prs t) i k=true
    ·have hit:i<(prs t).length:=by
      unfold qG0 at hat;by_cases h:i<(prs t).length
      ·exact h
      ·rw[List.getElem?_eq_none (by omega)] at hat;cases hat
     have he:=HE.out;rw[if_pos hat,List.getElem?_eq_getElem hit] at he;have HE2:=zh he;obtain⟨gb,off,cp,cur,fr,rfl,hcp,hrow,hcur⟩:=hs3.pair (by omega);obtain⟨_,c1⟩:=hcur i hit;have a1:=ξ hrow (off+i*2+1);rw[c1] at a1;have hgs:=ζ hrow;have hib:(i:Int)<((prs t).length:Int):=by omega
     rw[hat];clear hcur hs3 hsl he HE hget hgd hq hT hK3 hT3 hi0 q0 hqs;go_wp2
     go_ret2
     refine⟨?_,HT3.out⟩;rw[HA.out,qS0,HE2.out];rfl
    ·have hat0:qG0 (prs t) i k=false:=by simpa using hat
     have he:=HE.out;rw[hat0] at he;have he2:qG4 all k=none:=by simpa using he
     have HE2:=zh he2;rw[hat0];clear hs3 hsl he he2 HE hget hgd hq hT hK3 hT3 hi0 q0 hqs;go_wp2
     go_ret2
     refine⟨?_,HT3.out⟩;rw[HA.out,qS0,HE2.out];rfl
   | succ m=>
    have hlv1:qT7 wr (.pointer (some ⟨q',0,none⟩))=m+1:=zJ8 hN;have HLV:=zh hlv1;obtain⟨vl,hq,hs,hsl,hb⟩:=hN;obtain⟨hwlt,hw1,hw2,hw3,hw4⟩:=xI9 hgd hklo hc1;have hcl:(η t).length≤10000:=(qK5 (m+1) lo t hgd).1;have hbl:=hb.1;have hwb:hs.findIdx (fun l=>kl k l.key)-1=qB2 (η t) k:=by unfold qB2;rw[zM4 hb]
    have hrise:Rise hs:=zE0 hb hgd.pair;obtain⟨gb,off,cp,cur,fr,rfl,hcp,hrow,hcur⟩:=hsl.link (by omega);obtain⟨i,hi0⟩:∃ i,qB2 (η t) k=i:=⟨_,rfl⟩;simp only[hi0] at hwlt hw1 hw2 hw3 hw4 hwb;have hil:i<hs.length:=by omega
    obtain⟨c0,c1,c2,c3⟩:=hcur i hil;have HRL:Hid (RL E.O m wr hs[i] (η t)[i]):=hb.2 i hil hwlt;have hqs:=ζ hq;have q0:=ξ hq 0;simp only[υ,zG,zH,zI] at q0;have hlp:(0:Int)<((m+1:Nat):Int):=by omega
    have HEND:Hid (∀ (W:World) (q2:Nat),RN E.O m W q2 (η t)[i].sub→E.To w W→W.heap[w.heap.size]?=some (.cells #[.pointer (some ⟨E.V,0,none⟩),.string h.key,.int .i64 h.b,.int .u64 h.s,.pointer h.ptr] 83)→(zO3 E w W k all (.pointer (some ⟨q2,0,none⟩))∧E.To w W∧W.heap[w.heap.size]?=some (.cells #[.pointer (some ⟨E.V,0,none⟩),.string h.key,.int .i64 h.b,.int .u64 h.s,.pointer h.ptr] 83))∧qT7 W (.pointer (some ⟨q2,0,none⟩))<m+1):=by
     show ∀ (W:World) (q2:Nat),_;intro W q2 h1 h2 h3;refine⟨⟨⟨m,_,_,q2,rfl,h1,hw1,hw3,by omega,by rw[hget,hw4],by omega⟩,h2,h3⟩,?_⟩;rw[zJ8 h1];omega
    have HWAY:Hid (∀ W:World,Kp [] wr W→Calls prog 88 #[.pointer (some ⟨q',0,none⟩),.string k] W fun e w'=>e=.returned (.int .i64 (i:Nat))∧Kp [] W w'):=by
     show ∀ W:World,_;intro W hKW;have:=zM5 q' _ _ _ hs k W (hKW.hp hq) (hsl.keep0 hKW) (by omega) hrise;rw[hwb] at this;exact this
    clear hget hw1 hw2 hw3 hw4 hwb hrise hcur hb hgd hi0;go_wp2_with fail;have hS0:wr.heap[q']?=some (υ ((m+1:Nat):Int) (.slice none 0 0) (.slice (some ⟨gb,off,none⟩) hs.length cp))∧wr.heap[gb]?=some (.cells cur 81 fr)∧wr.heap[w.heap.size]?=some (.cells #[.pointer (some ⟨E.V,0,none⟩),.string h.key,.int .i64 h.b,.int .u64 h.s,.pointer h.ptr] 83):=⟨hq,hrow,hB⟩;refine wp_region_held_drew (S:=fun W=>W.heap[q']?=some (υ ((m+1:Nat):Int) (.slice none 0 0) (.slice (some ⟨gb,off,none⟩) hs.length cp))∧W.heap[gb]?=some (.cells cur 81 fr)∧W.heap[w.heap.size]?=some (.cells #[.pointer (some ⟨E.V,0,none⟩),.string h.key,.int .i64 h.b,.int .u64 h.s,.pointer h.ptr] 83)) (by kernel_rfl) hS0 (fun _=>?_);refine zW 0 (.agg #[.pointer (some ⟨E.V,0,none⟩),.string h.key,.int .i64 h.b,.int .u64 h.s,.pointer h.ptr]) hS0 (·.2.2) ?_;refine zP 1 q' 0 hS0 ?_;refine zP 2 q' 0 hS0 ?_;refine zP 3 q' 2 hS0 ?_;refine zV 4 (.slice (some ⟨gb,off,none⟩) hs.length cp) rfl (fun W hS=>by have a0:=ξ hS.1 2;simp only[υ,zG,zH,zI] at a0;clear hS;go_simp) hS0 ?_;refine zP 5 q' 0 hS0 ?_;refine zU 6 (.string k) hS0 ?_;refine zP 10 q' 0 hS0 ?_;refine zP 11 q' 0 hS0 ?_;refine zP 12 q' 0 hS0 ?_;refine zV 13 (.int .i64 ((m+1:Nat):Int)) rfl (fun W hS=>by have a0:=ξ hS.1 0;simp only[υ,zG,zH,zI] at a0;clear hS;go_simp) hS0 ?_;refine zq 7 fun K hK=>?_;go_simp;refine (HWAY.out wr.drew ((Kp.refl _ _).drew)).mono ?_;rintro e w3 ⟨rfl,hK3⟩;have hK3':Kp [] wr w3:=((Kp.refl _ wr).drew).tr hK3;have hS1:=And.intro (hK3'.hp hq) (And.intro (hK3'.hp hrow) (hK3'.hp hB));have hT3:=hT.tail hK3';refine hK.out _ _ hS1 (fun _=>?_);clear hK K hK3 hS0
    try simp only[zZ]
    refine zU 8 (.pointer (some ⟨gb,off+i*4,none⟩)) hS1 ?_;refine zV 9 (.agg #[.string hs[i].key,.int .i64 hs[i].b,.int .u64 hs[i].s,.pointer hs[i].ptr]) rfl (fun W hS=>by have a0:=ξ hS.2.1 (off+i*4);have a1:=ξ hS.2.1 (off+i*4+1);have a2:=ξ hS.2.1 (off+i*4+2);have a3:=ξ hS.2.1 (off+i*4+3);rw[c0] at a0;rw[c1] at a1;rw[c2] at a2;rw[c3] at a3;clear hS;go_simp) hS1 ?_;refine zq 14 fun K hK=>?_;go_simp;refine (qJ7 E m hs[i] h (η t)[i] ((m+1:Nat):Int) w3 hT3.dev (RL.keep HRL.out hK3' (Apt.nil _ _)) (by omega)).mono ?_;rintro e w4 ⟨q2,rfl,hN4,hT4⟩;have hT4':=hT3.trans hT4;have hB4:=hT4.new HD.out (Nat.le_refl _) hS1.2.2;have hS2:w4.heap[q']?=some (υ ((m+1:Nat):Int) (.slice none 0 0) (.slice (some ⟨gb,off,none⟩) hs.length cp))∧w4.heap[gb]?=some (.cells cur 81 fr)∧w4.heap[w.heap.size]?=some (.cells #[.pointer (some ⟨E.V,0,none⟩),.string h.key,.int .i64 h.b,.int .u64 h.s,.pointer h.ptr] 83):=
     ⟨hT4.kp.heap hS1.1 (fun hm=>E.apt w3 hT3.dev _ hm _ _ _ hS1.1 (by decide)),hT4.kp.heap hS1.2.1 (fun hm=>E.apt w3 hT3.dev _ hm _ _ _ hS1.2.1 (by decide)),hB4⟩
    refine hK.out _ _ hS2 (fun _=>?_);clear hK K
    try simp only[zZ]
    refine zq 15 fun K hK=>?_;go_simp;refine hK.out _ _ hS2 (fun _=>?_);clear hK K;refine zd ?_;have HR:=HEND.out w4 q2 hN4 hT4' hB4;clear hS1 hS2 hN4 hT4 hT4' hB4 HEND HWAY;go_wp2;rw[HLV.out];exact HR
theorem jP9{n:Nat}{lo k:ByteArray}{t:Tn (n+1)}(hg:Good (n+1) lo t)(hk:kl k lo=false)(hc:1≤cnt (n+1) t){W:List (Lnk (Tn n))}{d:Nat}(h:qB2 (η t) k<(η t).length)(hM:Made n (η t)[qB2 (η t) k] d W)(hW:∀ x∈W,x.key.size≤8):
  (∀ x∈(η t).take (qB2 (η t) k)++W++(η t).drop (qB2 (η t) k+1),x.key.size≤8)∧meas qA3 ((η t).take (qB2 (η t) k)++W++(η t).drop (qB2 (η t) k+1))≤145:=by
 constructor
 ·intro x hx;simp only[List.mem_append] at hx;rcases hx with (hx|hx)|hx
  ·exact (hg.all x (List.mem_of_mem_take hx)).2.2
  ·exact hW x hx
  ·exact (hg.all x (List.mem_of_mem_drop hx)).2.2
 ·have h1:=hM.meas hW;have h2:meas qA3 (η t)≤126:=hg.fits;have h3:=qP1 qA3 (η t) (qB2 (η t) k);rw[List.drop_eq_getElem_cons h,qE0] at h3;rw[qF4,qF4];omega
theorem jS9(E:Env)(r h:HL)(l:Lnk (Tn 0))(q:Nat)(p:KV)(w:World)(hd:E.Dev w)(hkey:h.key=l.key)(hN:RN E.O 0 w q l.sub)(hg:Good 0 l.key l.sub)(hp:qC3 p)(hc:1≤cnt 0 l.sub)(hat:qG0 (prs l.sub) (qC1 (prs l.sub) p.k) p.k=true):
  Calls prog 94 #[φ E.V r,qC5 h,.pointer (some ⟨q,0,none⟩),.agg #[.string p.k,.string p.v]] w fun e w'=>∃ v',e=.returned v'∧RLs E.O 0 w' v' (qE3 0 l p)∧E.To w w':=by
 have hcl:(prs l.sub).length≤10000:=qK5 0 l.key l.sub hg;have hc1:1≤(prs l.sub).length:=hc;have hso:Sorted (prs l.sub):=hg.sorted;have hps:ν p≤21:=by obtain⟨h1,h2,h3⟩:=hp;unfold ν;omega
 have hfit:meas ν (qG6 p (prs l.sub))≤210:=by
  have e:qG6 p (prs l.sub)=ins p (prs l.sub):=(qS7 hso p).symm;rw[e];have h1:=zJ9 p hso;have h2:meas ν (prs l.sub)≤126:=hg.fits;omega
 have hsz:∀ q∈qG6 p (prs l.sub),ν q≤21:=by
  have e:qG6 p (prs l.sub)=ins p (prs l.sub):=(qS7 hso p).symm;rw[e];intro q hq;rcases zD3 hq with rfl|hq
  ·exact hps
  ·obtain⟨⟨h1,h2,h3⟩,_⟩:=hg.all q hq;unfold ν;omega
 have HKEY:=zh hkey;have HAT:=zh hat;clear hat;have HD:=zh hd;have HFIT:Hid (meas ν (qG6 p (prs l.sub))≤210∧∀ q∈qG6 p (prs l.sub),ν q≤21):=⟨hfit,hsz⟩;obtain⟨vp,hq,hsl⟩:=hN;have hqs:=ζ hq;have hqs1:q<w.heap.size+1:=by omega
 have hqs2:q<w.heap.size+1+1:=by omega
 have q0:=ξ hq 0;simp only[υ,zG,zH,zI] at q0;clear hd hkey hfit hsz;rw[φ,qC5];go_enter func94,ntmps94;go_wp2_with fail;obtain⟨w1,hw1,hT1b,hL1,hP1,hK1,hs1⟩:∃ w1,w1=((w.alloc (.cells #[.pointer (some ⟨E.V,0,none⟩),.string r.key,.int .i64 r.b,.int .u64 r.s,.pointer r.ptr] 83)).alloc (.cells #[.string h.key,.int .i64 h.b,.int .u64 h.s,.pointer h.ptr] 81)).alloc (.cells #[.string p.k,.string p.v] 158)∧w1.heap[w.heap.size]?=some (.cells #[.pointer (some ⟨E.V,0,none⟩),.string r.key,.int .i64 r.b,.int .u64 r.s,.pointer r.ptr] 83)∧w1.heap[w.heap.size+1]?=some (.cells #[.string h.key,.int .i64 h.b,.int .u64 h.s,.pointer h.ptr] 81)∧w1.heap[w.heap.size+1+1]?=some (.cells #[.string p.k,.string p.v] 158)∧Kp [] w w1∧w1.heap.size=w.heap.size+3:=by
  refine⟨_,rfl,θ _ (θ _ (μ _ _)),θ _ ?_,?_,(((Kp.refl _ _).alloc _).alloc _).alloc _,by simp⟩
  ·have e:=μ (w.alloc (.cells #[.pointer (some ⟨E.V,0,none⟩),.string r.key,.int .i64 r.b,.int .u64 r.s,.pointer r.ptr] 83)) (.cells #[.string h.key,.int .i64 h.b,.int .u64 h.s,.pointer h.ptr] 81);simpa using e
  ·have e:=μ ((w.alloc (.cells #[.pointer (some ⟨E.V,0,none⟩),.string r.key,.int .i64 r.b,.int .u64 r.s,.pointer r.ptr] 83)).alloc (.cells #[.string h.key,.int .i64 h.b,.int .u64 h.s,.pointer h.ptr] 81)) (.cells #[.string p.k,.string p.v] 158);simpa using e
 rw[←hw1];clear hw1 hT1b hs1 q0 hqs hqs1 hqs2;have hT1':=Env.To.of0 HD.out hK1;have hq1:=hK1.hp hq;have hsl1:=hsl.keep0 hK1;clear hq hsl;refine (zE4 q 0 vp _ (prs l.sub) p.k w1 hq1 hsl1 (by omega) hso).mono ?_;rintro e w2 ⟨rfl,hK2⟩;have hT2:=hT1'.tail hK2;have hq2:=hK2.hp hq1;have hs2:=hsl1.keep0 hK2;have hL2:=hK2.hp hL1;have hP2:=hK2.hp hP1;clear hK2 hq1 hsl1 hL1 hP1 hT1' hK1;obtain⟨bs,cp,hv⟩:∃ bs cp,vp=.slice bs (prs l.sub).length cp:=by
  rcases hs2.val with⟨h0,b,c,h1,_⟩|⟨g,off,cap,cur,fr,h1,_⟩
  ·rw[h0];exact⟨b,c,h1⟩
  ·exact⟨_,cap,h1⟩
 subst hv;obtain⟨i,hi0⟩:∃ i,qC1 (prs l.sub) p.k=i:=⟨_,rfl⟩;have hile:i≤(prs l.sub).length:=by rw[←hi0];exact zE3 _ _
 rw[hi0];have hat:=HAT.out;rw[hi0] at hat;have hjl:i+1≤(prs l.sub).length:=by
  by_cases h:i<(prs l.sub).length
  ·omega
  ·unfold qG0 at hat;rw[List.getElem?_eq_none (by omega)] at hat
   first | (cases hat;done) | omega
 have hins:(prs l.sub).take i++[p]++(prs l.sub).drop (i+1)=qG6 p (prs l.sub):=by unfold qG6;rw[hi0,hat];rfl
 have HINS:=zh hins;clear hins;rw[hat];clear hat hi0;go_wp2_with fail;have hS0:w2.heap[q]?=some (υ 0 (.slice bs (prs l.sub).length cp) (.slice none 0 0))∧w2.heap[w.heap.size+1]?=some (.cells #[.string h.key,.int .i64 h.b,.int .u64 h.s,.pointer h.ptr] 81)∧w2.heap[w.heap.size+1+1]?=some (.cells #[.string p.k,.string p.v] 158):=⟨hq2,hL2,hP2⟩;refine wp_region_held_drew (S:=fun W=>W.heap[q]?=some (υ 0 (.slice bs (prs l.sub).length cp) (.slice none 0 0))∧W.heap[w.heap.size+1]?=some (.cells #[.string h.key,.int .i64 h.b,.int .u64 h.s,.pointer h.ptr] 81)∧W.heap[w.heap.size+1+1]?=some (.cells #[.string p.k,.string p.v] 158)) (by kernel_rfl) hS0 (fun _=>?_);refine zU 0 (.pointer (some ⟨w.heap.size+1,0,none⟩)) hS0 ?_;refine zV 1 (.string h.key) rfl (fun W hS=>by have c:=ξ hS.2.1 0;simp at c;clear hS;go_simp) hS0 ?_;refine zP 2 q 0 hS0 ?_;refine zP 3 q 0 hS0 ?_;refine zP 4 q 1 hS0 ?_;refine zV 5 (.slice bs (prs l.sub).length cp) rfl (fun W hS=>by have c:=ξ hS.1 1;simp[υ] at c;clear hS;go_simp) hS0 ?_;refine zU 6 (.int .i64 i) hS0 ?_;refine zU 7 (.int .i64 ((i+1:Nat):Int)) hS0 ?_;refine zW 8 (.agg #[.string p.k,.string p.v]) hS0 (·.2.2) ?_;refine zq 9 fun K hK=>?_;go_simp;obtain⟨w3,hw3,hG3,hK3⟩:∃ w3,w3=(w2.alloc (.cells #[.string p.k,.string p.v] 158)).drew∧w3.heap[w2.heap.size]?=some (.cells #[.string p.k,.string p.v] 158)∧Kp [] w2 w3:=⟨_,rfl,μ _ _,((Kp.refl _ _).alloc _).drew⟩;rw[←hw3];clear hw3;have hS3:=And.intro (hK3.hp hq2) (And.intro (hK3.hp hL2) (hK3.hp hP2));have hs3:=hs2.keep0 hK3;have hT3:=hT2.tail hK3;refine hK.out _ _ hS3 (fun _=>?_);clear hK K hS0
 try simp only[zZ]
 refine zq 10 fun K hK=>?_;go_simp;have hsb:Slc w3 158 2 (.slice (some ⟨w2.heap.size,0,none⟩) 1 1) [p].length (qA9 [p]):=⟨rfl,.inr ⟨w2.heap.size,0,1,_,_,rfl,Nat.le_refl _,Nat.le_refl _,hG3,fun j u hu=>by simpa [qA9,pcs] using hu⟩⟩
 try rw[show ((i:Int)+1)=((i+1:Nat):Int) from by omega]
 refine (zL1 _ _ (prs l.sub) [p] i (i+1) w3 hs3 hsb (by omega) hjl hc1 hcl (by simp)).mono ?_;rintro e w4 ⟨v4,rfl,hs4,hK4⟩;rw[HINS.out] at hs4;have hT4:=hT3.tail hK4;have hS4:=And.intro (hK4.hp hS3.1) (And.intro (hK4.hp hS3.2.1) (hK4.hp hS3.2.2));refine hK.out _ _ hS4 (fun _=>?_);clear hK K hS3 hK4 hT3 hsb hG3 hK3 hs3
 try simp only[zZ]
 refine zq 11 fun K hK=>?_;go_simp;refine (qS9 E.O h.key v4 (qG6 p (prs l.sub)) w4 hs4 (by have:=qG9 ν (qG6 p (prs l.sub)) (fun x _=>by unfold ν;omega);have:=HFIT.out.1;omega) HFIT.out.2 HFIT.out.1).mono ?_;rintro e w5 ⟨v5,rfl,hR5,hK5⟩;have hT5:=hT4.tail hK5;have hS5:=And.intro (hK5.hp hS4.1) (And.intro (hK5.hp hS4.2.1) (hK5.hp hS4.2.2));refine hK.out _ _ hS5 (fun _=>?_);clear hK K hS4 hK5 hT4
 try simp only[zZ]
 refine zq 12 fun K hK=>?_;go_simp;refine hK.out _ _ hS5 (fun _=>?_);clear hK K;refine zd ?_;rw[HKEY.out] at hR5;have HR5:=zh hR5;have HT5:=zh hT5;clear hS5 hR5 hT5 hs4;go_wp2;go_ret;exact⟨v5,rfl,HR5.out,HT5.out⟩
theorem jT0(E:Env)(r h:HL)(l:Lnk (Tn 0))(q:Nat)(p:KV)(w:World)(hd:E.Dev w)(hkey:h.key=l.key)(hN:RN E.O 0 w q l.sub)(hg:Good 0 l.key l.sub)(hp:qC3 p)(hc:1≤cnt 0 l.sub)(hat:qG0 (prs l.sub) (qC1 (prs l.sub) p.k) p.k=false):
  Calls prog 94 #[φ E.V r,qC5 h,.pointer (some ⟨q,0,none⟩),.agg #[.string p.k,.string p.v]] w fun e w'=>∃ v',e=.returned v'∧RLs E.O 0 w' v' (qE3 0 l p)∧E.To w w':=by
 have hcl:(prs l.sub).length≤10000:=qK5 0 l.key l.sub hg;have hc1:1≤(prs l.sub).length:=hc;have hso:Sorted (prs l.sub):=hg.sorted;have hps:ν p≤21:=by obtain⟨h1,h2,h3⟩:=hp;unfold ν;omega
 have hfit:meas ν (qG6 p (prs l.sub))≤210:=by
  have e:qG6 p (prs l.sub)=ins p (prs l.sub):=(qS7 hso p).symm;rw[e];have h1:=zJ9 p hso;have h2:meas ν (prs l.sub)≤126:=hg.fits;omega
 have hsz:∀ q∈qG6 p (prs l.sub),ν q≤21:=by
  have e:qG6 p (prs l.sub)=ins p (prs l.sub):=(qS7 hso p).symm;rw[e];intro q hq;rcases zD3 hq with rfl|hq
  ·exact hps
  ·obtain⟨⟨h1,h2,h3⟩,_⟩:=hg.all q hq;unfold ν;omega
 have HKEY:=zh hkey;have HAT:=zh hat;clear hat;have HD:=zh hd;have HFIT:Hid (meas ν (qG6 p (prs l.sub))≤210∧∀ q∈qG6 p (prs l.sub),ν q≤21):=⟨hfit,hsz⟩;obtain⟨vp,hq,hsl⟩:=hN;have hqs:=ζ hq;have hqs1:q<w.heap.size+1:=by omega
 have hqs2:q<w.heap.size+1+1:=by omega
 have q0:=ξ hq 0;simp only[υ,zG,zH,zI] at q0;clear hd hkey hfit hsz;rw[φ,qC5];go_enter func94,ntmps94;go_wp2_with fail;obtain⟨w1,hw1,hT1b,hL1,hP1,hK1,hs1⟩:∃ w1,w1=((w.alloc (.cells #[.pointer (some ⟨E.V,0,none⟩),.string r.key,.int .i64 r.b,.int .u64 r.s,.pointer r.ptr] 83)).alloc (.cells #[.string h.key,.int .i64 h.b,.int .u64 h.s,.pointer h.ptr] 81)).alloc (.cells #[.string p.k,.string p.v] 158)∧w1.heap[w.heap.size]?=some (.cells #[.pointer (some ⟨E.V,0,none⟩),.string r.key,.int .i64 r.b,.int .u64 r.s,.pointer r.ptr] 83)∧w1.heap[w.heap.size+1]?=some (.cells #[.string h.key,.int .i64 h.b,.int .u64 h.s,.pointer h.ptr] 81)∧w1.heap[w.heap.size+1+1]?=some (.cells #[.string p.k,.string p.v] 158)∧Kp [] w w1∧w1.heap.size=w.heap.size+3:=by
  refine⟨_,rfl,θ _ (θ _ (μ _ _)),θ _ ?_,?_,(((Kp.refl _ _).alloc _).alloc _).alloc _,by simp⟩
  ·have e:=μ (w.alloc (.cells #[.pointer (some ⟨E.V,0,none⟩),.string r.key,.int .i64 r.b,.int .u64 r.s,.pointer r.ptr] 83)) (.cells #[.string h.key,.int .i64 h.b,.int .u64 h.s,.pointer h.ptr] 81);simpa using e
  ·have e:=μ ((w.alloc (.cells #[.pointer (some ⟨E.V,0,none⟩),.string r.key,.int .i64 r.b,.int .u64 r.s,.pointer r.ptr] 83)).alloc (.cells #[.string h.key,.int .i64 h.b,.int .u64 h.s,.pointer h.ptr] 81)) (.cells #[.string p.k,.string p.v] 158);simpa using e
 rw[←hw1];clear hw1 hT1b hs1 q0 hqs hqs1 hqs2;have hT1':=Env.To.of0 HD.out hK1;have hq1:=hK1.hp hq;have hsl1:=hsl.keep0 hK1;clear hq hsl;refine (zE4 q 0 vp _ (prs l.sub) p.k w1 hq1 hsl1 (by omega) hso).mono ?_;rintro e w2 ⟨rfl,hK2⟩;have hT2:=hT1'.tail hK2;have hq2:=hK2.hp hq1;have hs2:=hsl1.keep0 hK2;have hL2:=hK2.hp hL1;have hP2:=hK2.hp hP1;clear hK2 hq1 hsl1 hL1 hP1 hT1' hK1;obtain⟨bs,cp,hv⟩:∃ bs cp,vp=.slice bs (prs l.sub).length cp:=by
  rcases hs2.val with⟨h0,b,c,h1,_⟩|⟨g,off,cap,cur,fr,h1,_⟩
  ·rw[h0];exact⟨b,c,h1⟩
  ·exact⟨_,cap,h1⟩
 subst hv;obtain⟨i,hi0⟩:∃ i,qC1 (prs l.sub) p.k=i:=⟨_,rfl⟩;have hile:i≤(prs l.sub).length:=by rw[←hi0];exact zE3 _ _
 rw[hi0];have hat:=HAT.out;rw[hi0] at hat;have hjl:i≤(prs l.sub).length:=by
  by_cases h:i<(prs l.sub).length
  ·omega
  ·unfold qG0 at hat;rw[List.getElem?_eq_none (by omega)] at hat
   first | (cases hat;done) | omega
 have hins:(prs l.sub).take i++[p]++(prs l.sub).drop (i)=qG6 p (prs l.sub):=by unfold qG6;rw[hi0,hat];rfl
 have HINS:=zh hins;clear hins;rw[hat];clear hat hi0;go_wp2_with fail;have hS0:w2.heap[q]?=some (υ 0 (.slice bs (prs l.sub).length cp) (.slice none 0 0))∧w2.heap[w.heap.size+1]?=some (.cells #[.string h.key,.int .i64 h.b,.int .u64 h.s,.pointer h.ptr] 81)∧w2.heap[w.heap.size+1+1]?=some (.cells #[.string p.k,.string p.v] 158):=⟨hq2,hL2,hP2⟩;refine wp_region_held_drew (S:=fun W=>W.heap[q]?=some (υ 0 (.slice bs (prs l.sub).length cp) (.slice none 0 0))∧W.heap[w.heap.size+1]?=some (.cells #[.string h.key,.int .i64 h.b,.int .u64 h.s,.pointer h.ptr] 81)∧W.heap[w.heap.size+1+1]?=some (.cells #[.string p.k,.string p.v] 158)) (by kernel_rfl) hS0 (fun _=>?_);refine zU 0 (.pointer (some ⟨w.heap.size+1,0,none⟩)) hS0 ?_;refine zV 1 (.string h.key) rfl (fun W hS=>by have c:=ξ hS.2.1 0;simp at c;clear hS;go_simp) hS0 ?_;refine zP 2 q 0 hS0 ?_;refine zP 3 q 0 hS0 ?_;refine zP 4 q 1 hS0 ?_;refine zV 5 (.slice bs (prs l.sub).length cp) rfl (fun W hS=>by have c:=ξ hS.1 1;simp[υ] at c;clear hS;go_simp) hS0 ?_;refine zU 6 (.int .i64 i) hS0 ?_;refine zU 7 (.int .i64 ((i:Nat):Int)) hS0 ?_;refine zW 8 (.agg #[.string p.k,.string p.v]) hS0 (·.2.2) ?_;refine zq 9 fun K hK=>?_;go_simp;obtain⟨w3,hw3,hG3,hK3⟩:∃ w3,w3=(w2.alloc (.cells #[.string p.k,.string p.v] 158)).drew∧w3.heap[w2.heap.size]?=some (.cells #[.string p.k,.string p.v] 158)∧Kp [] w2 w3:=⟨_,rfl,μ _ _,((Kp.refl _ _).alloc _).drew⟩;rw[←hw3];clear hw3;have hS3:=And.intro (hK3.hp hq2) (And.intro (hK3.hp hL2) (hK3.hp hP2));have hs3:=hs2.keep0 hK3;have hT3:=hT2.tail hK3;refine hK.out _ _ hS3 (fun _=>?_);clear hK K hS0
 try simp only[zZ]
 refine zq 10 fun K hK=>?_;go_simp;have hsb:Slc w3 158 2 (.slice (some ⟨w2.heap.size,0,none⟩) 1 1) [p].length (qA9 [p]):=⟨rfl,.inr ⟨w2.heap.size,0,1,_,_,rfl,Nat.le_refl _,Nat.le_refl _,hG3,fun j u hu=>by simpa [qA9,pcs] using hu⟩⟩
 try rw[show ((i:Int)+1)=((i+1:Nat):Int) from by omega]
 refine (zL1 _ _ (prs l.sub) [p] i (i) w3 hs3 hsb (by omega) hjl hc1 hcl (by simp)).mono ?_;rintro e w4 ⟨v4,rfl,hs4,hK4⟩;rw[HINS.out] at hs4;have hT4:=hT3.tail hK4;have hS4:=And.intro (hK4.hp hS3.1) (And.intro (hK4.hp hS3.2.1) (hK4.hp hS3.2.2));refine hK.out _ _ hS4 (fun _=>?_);clear hK K hS3 hK4 hT3 hsb hG3 hK3 hs3
 try simp only[zZ]
 refine zq 11 fun K hK=>?_;go_simp;refine (qS9 E.O h.key v4 (qG6 p (prs l.sub)) w4 hs4 (by have:=qG9 ν (qG6 p (prs l.sub)) (fun x _=>by unfold ν;omega);have:=HFIT.out.1;omega) HFIT.out.2 HFIT.out.1).mono ?_;rintro e w5 ⟨v5,rfl,hR5,hK5⟩;have hT5:=hT4.tail hK5;have hS5:=And.intro (hK5.hp hS4.1) (And.intro (hK5.hp hS4.2.1) (hK5.hp hS4.2.2));refine hK.out _ _ hS5 (fun _=>?_);clear hK K hS4 hK5 hT4
 try simp only[zZ]
 refine zq 12 fun K hK=>?_;go_simp;refine hK.out _ _ hS5 (fun _=>?_);clear hK K;refine zd ?_;rw[HKEY.out] at hR5;have HR5:=zh hR5;have HT5:=zh hT5;clear hS5 hR5 hT5 hs4;go_wp2;go_ret;exact⟨v5,rfl,HR5.out,HT5.out⟩
theorem zG4{α β:Type}{R:α→β→Prop}{a:List α}{b:List β}(h:Both R a b){i:Nat}(hi:i<a.length)(hj:i<b.length):R a[i] b[i]:=h.2 i hi hj
theorem jS8(E:Env)(n:Nat)
  (ih:∀ (r h:HL) (l:Lnk (Tn n)) (q:Nat) (p:KV) (w:World),E.Dev w→h.key=l.key→RN E.O n w q l.sub→Good n l.key l.sub→qC3 p→kl p.k l.key=false→1≤cnt n l.sub→l.key.size≤8→Calls prog 94 #[φ E.V r,qC5 h,.pointer (some ⟨q,0,none⟩),.agg #[.string p.k,.string p.v]] w fun e w'=>∃ v',e=.returned v'∧RLs E.O n w' v' (qE3 n l p)∧E.To w w')
  (hn:n≤100000) (r h:HL) (l:Lnk (Tn (n+1))) (q:Nat) (p:KV) (w:World) (hd:E.Dev w) (hkey:h.key=l.key) (hN:RN E.O (n+1) w q l.sub) (hg:Good (n+1) l.key l.sub) (hp:qC3 p) (hk:kl p.k l.key=false) (hc:1≤cnt (n+1) l.sub):
  Calls prog 94 #[φ E.V r,qC5 h,.pointer (some ⟨q,0,none⟩),.agg #[.string p.k,.string p.v]] w fun e w'=>∃ v',e=.returned v'∧RLs E.O (n+1) w' v' (qE3 (n+1) l p)∧E.To w w':=by
 have hcl:(η l.sub).length≤10000:=(qK5 (n+1) l.key l.sub hg).1;obtain⟨hwlt,hw1,hw2,hw3,_⟩:=xI9 hg hk hc;have hsz8:(η l.sub)[qB2 (η l.sub) p.k].key.size≤8:=(hg.all _ (List.getElem_mem hwlt)).2.2;obtain⟨wg1,wg2,wg3⟩:=qW2 n (η l.sub)[qB2 (η l.sub) p.k] p hw1 hp hw3 hsz8 (by omega);obtain⟨hf1,hf2⟩:=jP9 hg hk hc hwlt wg3 (fun x hx=>(wg1.all x hx).2);have hwl:(qE3 n (η l.sub)[qB2 (η l.sub) p.k] p).length≤2:=by
  rcases wg3 with⟨a,e,_⟩|⟨a,b,e,_⟩<;>rw[e]<;>simp
 have hwT:qE3 (n+1) l p=qD7 n l.key ((η l.sub).take (qB2 (η l.sub) p.k)++qE3 n (η l.sub)[qB2 (η l.sub) p.k] p++(η l.sub).drop (qB2 (η l.sub) p.k+1)):=by
  show (match (η l.sub)[qB2 (η l.sub) p.k]? with
   | some m=>qD7 n l.key ((η l.sub).take (qB2 (η l.sub) p.k)++qE3 n m p++(η l.sub).drop (qB2 (η l.sub) p.k+1))
   | none=>[])=_
  rw[List.getElem?_eq_getElem hwlt]
 have hpair:=hg.pair;obtain⟨i,hi0⟩:∃ i,qB2 (η l.sub) p.k=i:=⟨_,rfl⟩;simp only[hi0] at hwlt hw1 hw2 hw3 hsz8 wg1 wg2 wg3 hf1 hf2 hwl hwT;obtain⟨ls,hls⟩:∃ ls,η l.sub=ls:=⟨_,rfl⟩;simp only[hls] at hwlt hw1 hw2 hw3 hsz8 wg1 wg2 wg3 hf1 hf2 hwl hwT hcl hi0;have HLS:=zh hls;have HI0:=zh hi0;have HWT:=zh hwT;have HF:Hid ((∀ x∈ls.take i++qE3 n ls[i] p++ls.drop (i+1),qA3 x≤21)∧meas qA3 (ls.take i++qE3 n ls[i] p++ls.drop (i+1))≤210):=⟨fun x hx=>by have:=hf1 x hx;unfold qA3;omega,by omega⟩;have HPA:Hid (ls.Pairwise (qR8 n)):=by show List.Pairwise _ _;rw[←hls];exact hpair
 have HWI:Hid (Good n ls[i].key ls[i].sub∧3≤cnt n ls[i].sub∧kl p.k ls[i].key=false∧ls[i].key.size≤8):=⟨hw1,hw2,hw3,hsz8⟩;have HKEY:=zh hkey;have HD:=zh hd;have HP:=zh hp;have HIH:=ih;clear hd hkey hg hk hc hw1 hw2 hw3 hsz8 wg1 wg2 wg3 hf1 hf2 hwT hpair hp ih;obtain⟨vl,hq,hs,hsl,hb⟩:=hN;rw[HLS.out] at hb;have HBL:=zh hb.1;have hil:i<hs.length:=by have:=HBL.out;omega
 have hhl:hs.length≤10000:=by have:=HBL.out;omega
 obtain⟨gb,off,cp,cur,fr,rfl,hcp,hrow,hcur⟩:=hsl.link (by omega);obtain⟨c0,c1,c2,c3⟩:=hcur i hil;obtain⟨lv,hlv⟩:∃ lv:Int,((n+1:Nat):Int)=lv:=⟨_,rfl⟩;rw[hlv] at hq;have HLV:=zh hlv.symm;have hlv0:¬lv=0:=by omega
 have hrise:Rise hs:=zE0 hb HPA.out;have hwb:hs.findIdx (fun l=>kl p.k l.key)-1=i:=by rw[zM4 hb];exact HI0.out
 have HB:=zh hb;have hqs:=ζ hq;have hqs1:q<w.heap.size+1:=by omega
 have hqs2:q<w.heap.size+1+1:=by omega
 have q0:=ξ hq 0;simp only[υ,zG,zH,zI] at q0;clear hcur hb hlv;rw[φ,qC5];go_enter func94,ntmps94;go_wp2_with fail;obtain⟨w1,hw1,hB1,hL1,hP1,hK1,hs1⟩:∃ w1,w1=((w.alloc (.cells #[.pointer (some ⟨E.V,0,none⟩),.string r.key,.int .i64 r.b,.int .u64 r.s,.pointer r.ptr] 83)).alloc (.cells #[.string h.key,.int .i64 h.b,.int .u64 h.s,.pointer h.ptr] 81)).alloc (.cells #[.string p.k,.string p.v] 158)∧w1.heap[w.heap.size]?=some (.cells #[.pointer (some ⟨E.V,0,none⟩),.string r.key,.int .i64 r.b,.int .u64 r.s,.pointer r.ptr] 83)∧w1.heap[w.heap.size+1]?=some (.cells #[.string h.key,.int .i64 h.b,.int .u64 h.s,.pointer h.ptr] 81)∧w1.heap[w.heap.size+1+1]?=some (.cells #[.string p.k,.string p.v] 158)∧Kp [] w w1∧w1.heap.size=w.heap.size+3:=by
  refine⟨_,rfl,θ _ (θ _ (μ _ _)),θ _ ?_,?_,(((Kp.refl _ _).alloc _).alloc _).alloc _,by simp⟩
  ·have e:=μ (w.alloc (.cells #[.pointer (some ⟨E.V,0,none⟩),.string r.key,.int .i64 r.b,.int .u64 r.s,.pointer r.ptr] 83)) (.cells #[.string h.key,.int .i64 h.b,.int .u64 h.s,.pointer h.ptr] 81);simpa using e
  ·have e:=μ ((w.alloc (.cells #[.pointer (some ⟨E.V,0,none⟩),.string r.key,.int .i64 r.b,.int .u64 r.s,.pointer r.ptr] 83)).alloc (.cells #[.string h.key,.int .i64 h.b,.int .u64 h.s,.pointer h.ptr] 81)) (.cells #[.string p.k,.string p.v] 158);simpa using e
 rw[←hw1];clear hw1;have hT1':=Env.To.of0 HD.out hK1;have hq1:=hK1.hp hq;have hsl1:=hsl.keep0 hK1;have hrow1:=hK1.hp hrow;have HB1:Hid (Both (RL E.O n w1) hs ls):=HB.out.mono fun x y hr=>RL.keep hr hK1 (Apt.nil _ _);clear hq hsl hrow HB q0 hqs hqs1 hqs2 hK1;have hway:=zM5 q _ _ _ hs p.k w1 hq1 hsl1 (by omega) hrise;rw[hwb] at hway;refine hway.mono ?_;rintro e w2 ⟨rfl,hK2⟩;have hT2:=hT1'.tail hK2;have hq2:=hK2.hp hq1;have hs2:=hsl1.keep0 hK2;have hB2:=hK2.hp hB1;have hL2:=hK2.hp hL1;have hP2:=hK2.hp hP1;have hrow2:=hK2.hp hrow1;have hsz2:w.heap.size≤w2.heap.size:=by have:=hK2.size;omega
 have HB2:Hid (Both (RL E.O n w2) hs ls):=HB1.out.mono fun x y hr=>RL.keep hr hK2 (Apt.nil _ _);clear hK2 hq1 hsl1 hL1 hP1 hT1' hB1 hrow1 hway hwb hrise HB1 hs1;have hqs2:=ζ hq2;have hgs2:=ζ hrow2;obtain⟨x,hx⟩:∃ x,hs[i]=x:=⟨_,rfl⟩;rw[hx] at c0 c1 c2 c3;have HX:=zh hx;clear hx;have a0:=ξ hrow2 (off+i*4);rw[c0] at a0;have a1:=ξ hrow2 (off+i*4+1);rw[c1] at a1;have a2:=ξ hrow2 (off+i*4+2);rw[c2] at a2;have a3:=ξ hrow2 (off+i*4+3);rw[c3] at a3;have q2:=ξ hq2 2;simp only[υ,zG,zH,zI] at q2;go_wp2_with fail;obtain⟨w3,hw3,hX3,hK3⟩:∃ w3,w3=w2.alloc (.cells #[.string x.key,.int .i64 x.b,.int .u64 x.s,.pointer x.ptr] 81)∧w3.heap[w2.heap.size]?=some (.cells #[.string x.key,.int .i64 x.b,.int .u64 x.s,.pointer x.ptr] 81)∧Kp [] w2 w3:=⟨_,rfl,μ _ _,(Kp.refl _ _).alloc _⟩;rw[←hw3];clear hw3;have hT3:=hT2.tail hK3;have hq3:=hK3.hp hq2;have hs3:=hs2.keep0 hK3;have HB3:Hid (Both (RL E.O n w3) hs ls):=HB2.out.mono fun x y hr=>RL.keep hr hK3 (Apt.nil _ _);obtain⟨X,hX0⟩:∃ X,w2.heap.size=X:=⟨_,rfl⟩;rw[hX0] at hX3 hsz2 ⊢;have hS0:w3.heap[q]?=some (υ lv (.slice none 0 0) (.slice (some ⟨gb,off,none⟩) hs.length cp))∧w3.heap[w.heap.size+1]?=some (.cells #[.string h.key,.int .i64 h.b,.int .u64 h.s,.pointer h.ptr] 81)∧w3.heap[w.heap.size+1+1]?=some (.cells #[.string p.k,.string p.v] 158)∧w3.heap[w.heap.size]?=some (.cells #[.pointer (some ⟨E.V,0,none⟩),.string r.key,.int .i64 r.b,.int .u64 r.s,.pointer r.ptr] 83)∧w3.heap[X]?=some (.cells #[.string x.key,.int .i64 x.b,.int .u64 x.s,.pointer x.ptr] 81):=⟨hq3,hK3.hp hL2,hK3.hp hP2,hK3.hp hB2,hX3⟩;clear hq2 hs2 hL2 hP2 hB2 hrow2 hK3 hX3 HB2 hT2 a0 a1 a2 a3 q2 hqs2 hgs2 hX0 c0 c1 c2 c3 hq3;obtain⟨j,hj⟩:∃ j,j=i+1:=⟨_,rfl⟩;have hwr:IntKind.i64.wrap ((i:Int)+1)=(j:Int):=by rw[IntKind.wrap_i64];omega
 have HJ:=zh hj;clear hj;refine wp_region_held_drew (S:=fun W=>W.heap[q]?=some (υ lv (.slice none 0 0) (.slice (some ⟨gb,off,none⟩) hs.length cp))∧W.heap[w.heap.size+1]?=some (.cells #[.string h.key,.int .i64 h.b,.int .u64 h.s,.pointer h.ptr] 81)∧W.heap[w.heap.size+1+1]?=some (.cells #[.string p.k,.string p.v] 158)∧W.heap[w.heap.size]?=some (.cells #[.pointer (some ⟨E.V,0,none⟩),.string r.key,.int .i64 r.b,.int .u64 r.s,.pointer r.ptr] 83)∧W.heap[X]?=some (.cells #[.string x.key,.int .i64 x.b,.int .u64 x.s,.pointer x.ptr] 81)) (by kernel_rfl) hS0 (fun _=>?_);refine zU 0 (.pointer (some ⟨w.heap.size+1,0,none⟩)) hS0 ?_;refine zV 1 (.string h.key) rfl (fun W hS=>by have c:=ξ hS.2.1 0;simp at c;clear hS;go_simp) hS0 ?_;refine zP 2 q 0 hS0 ?_;refine zP 3 q 0 hS0 ?_;refine zP 4 q 0 hS0 ?_;refine zV 5 (.int .i64 lv) rfl (fun W hS=>by have c:=ξ hS.1 0;simp[υ] at c;clear hS;go_simp) hS0 ?_;refine zP 6 q 0 hS0 ?_;refine zP 7 q 0 hS0 ?_;refine zP 8 q 2 hS0 ?_;refine zV 9 (.slice (some ⟨gb,off,none⟩) hs.length cp) rfl (fun W hS=>by have c:=ξ hS.1 2;simp[υ] at c;clear hS;go_simp) hS0 ?_;refine zU 10 (.int .i64 i) hS0 ?_;refine zU 11 (.int .i64 i) hS0 ?_;refine zU 12 (.int .i64 (j:Int)) hS0 ?_;refine zW 13 (.agg #[.pointer (some ⟨E.V,0,none⟩),.string r.key,.int .i64 r.b,.int .u64 r.s,.pointer r.ptr]) hS0 (·.2.2.2.1) ?_;refine zW 14 (.agg #[.string x.key,.int .i64 x.b,.int .u64 x.s,.pointer x.ptr]) hS0 (·.2.2.2.2) ?_;refine zW 15 (.agg #[.pointer (some ⟨E.V,0,none⟩),.string r.key,.int .i64 r.b,.int .u64 r.s,.pointer r.ptr]) hS0 (·.2.2.2.1) ?_;refine zW 16 (.agg #[.string x.key,.int .i64 x.b,.int .u64 x.s,.pointer x.ptr]) hS0 (·.2.2.2.2) ?_;refine zP 17 q 0 hS0 ?_;refine zP 18 q 0 hS0 ?_;refine zP 19 q 0 hS0 ?_;refine zV 20 (.int .i64 lv) rfl (fun W hS=>by have c:=ξ hS.1 0;simp[υ] at c;clear hS;go_simp) hS0 ?_;refine zW 22 (.agg #[.string p.k,.string p.v]) hS0 (·.2.2.1) ?_;refine zq 21 fun K hK=>?_;go_simp;have hTd:E.To w w3.drew:=hT3.tail ((Kp.refl _ _).drew);have hTx:RL E.O n w3.drew x ls[i]:=by have:=RL.keep (zG4 HB3.out hil hwlt) ((Kp.refl [] _).drew) (Apt.nil _ _);rw[HX.out] at this;exact this
 refine (qJ7 E n x r ls[i] lv w3.drew hTd.dev hTx (by have:=HLV.out;omega)).mono ?_;rintro e w4 ⟨q4,rfl,hN4,hT4⟩;have hT4':=hTd.trans hT4;have hS4:w4.heap[q]?=some (υ lv (.slice none 0 0) (.slice (some ⟨gb,off,none⟩) hs.length cp))∧w4.heap[w.heap.size+1]?=some (.cells #[.string h.key,.int .i64 h.b,.int .u64 h.s,.pointer h.ptr] 81)∧w4.heap[w.heap.size+1+1]?=some (.cells #[.string p.k,.string p.v] 158)∧w4.heap[w.heap.size]?=some (.cells #[.pointer (some ⟨E.V,0,none⟩),.string r.key,.int .i64 r.b,.int .u64 r.s,.pointer r.ptr] 83)∧w4.heap[X]?=some (.cells #[.string x.key,.int .i64 x.b,.int .u64 x.s,.pointer x.ptr] 81):=
  ⟨hT4.kp.heap (k:=q) hS0.1 (fun hm=>E.apt _ hTd.dev _ hm _ _ _ hS0.1 (by decide)),hT4.new (k:=w.heap.size+1) HD.out (by omega) hS0.2.1,hT4.new (k:=w.heap.size+1+1) HD.out (by omega) hS0.2.2.1,hT4.new (k:=w.heap.size) HD.out (by omega) hS0.2.2.2.1,hT4.new (k:=X) HD.out hsz2 hS0.2.2.2.2⟩
 have hs4:Slc w4 81 4 (.slice (some ⟨gb,off,none⟩) hs.length cp) hs.length (qA5 hs):=Slc.keep (w:=w3.drew) (hs3.keep0 ((Kp.refl [] _).drew)) hT4.kp ((E.apt _ hTd.dev).sub (by decide));have HB4:Hid (Both (RL E.O n w4) hs ls):=HB3.out.mono fun x y hr=>Env.RL (RL.keep hr ((Kp.refl [] w3).drew) (Apt.nil _ _)) hTd.dev hT4;refine hK.out _ _ hS4 (fun _=>?_);clear hK K hS0 hTd hTx hs3 HB3 hT4 hT3
 try simp only[zZ]
 refine zq 23 fun K hK=>?_;go_simp;refine (HIH r x ls[i] q4 p w4 hT4'.dev (by have:=(zG4 HB4.out hil hwlt).1;rw[HX.out] at this;exact this) hN4 HWI.out.1 HP.out HWI.out.2.2.1 (by have:=HWI.out.2.1;omega) HWI.out.2.2.2).mono ?_;rintro e w3 ⟨v3,rfl,hR3,hT3⟩;have hT3':=hT4'.trans hT3;have hS3:w3.heap[q]?=some (υ lv (.slice none 0 0) (.slice (some ⟨gb,off,none⟩) hs.length cp))∧w3.heap[w.heap.size+1]?=some (.cells #[.string h.key,.int .i64 h.b,.int .u64 h.s,.pointer h.ptr] 81)∧w3.heap[w.heap.size+1+1]?=some (.cells #[.string p.k,.string p.v] 158)∧w3.heap[w.heap.size]?=some (.cells #[.pointer (some ⟨E.V,0,none⟩),.string r.key,.int .i64 r.b,.int .u64 r.s,.pointer r.ptr] 83)∧w3.heap[X]?=some (.cells #[.string x.key,.int .i64 x.b,.int .u64 x.s,.pointer x.ptr] 81):=
  ⟨hT3.kp.heap (k:=q) hS4.1 (fun hm=>E.apt _ hT4'.dev _ hm _ _ _ hS4.1 (by decide)),hT3.new (k:=w.heap.size+1) HD.out (by omega) hS4.2.1,hT3.new (k:=w.heap.size+1+1) HD.out (by omega) hS4.2.2.1,hT3.new (k:=w.heap.size) HD.out (by omega) hS4.2.2.2.1,hT3.new (k:=X) HD.out hsz2 hS4.2.2.2.2⟩
 have hs3:Slc w3 81 4 (.slice (some ⟨gb,off,none⟩) hs.length cp) hs.length (qA5 hs):=Slc.keep hs4 hT3.kp ((E.apt _ hT4'.dev).sub (by decide));have HB3:Hid (Both (RL E.O n w3) hs ls):=HB4.out.mono fun x y hr=>Env.RL hr hT4'.dev hT3;refine hK.out _ _ hS3 (fun _=>?_);clear hK K hS4 hs4 HB4 hN4
 try simp only[zZ]
 refine zq 24 fun K hK=>?_;go_simp;obtain⟨hs',hsl',hb'⟩:=hR3;have hnb:hs'.length≤10000:=by rw[hb'.1];omega
 have hj1:=HJ.out;refine (qR0 _ v3 hs hs' i j w3 hs3 hsl' (by omega) (by omega) (by omega) hhl hnb).mono ?_;rintro e w4 ⟨v4,rfl,hs4,hK4⟩;rw[hj1] at hs4;clear hj1;have hT4:=hT3'.tail hK4;have hb4:Both (RL E.O n w4) (hs.take i++hs'++hs.drop (i+1)) (ls.take i++qE3 n ls[i] p++ls.drop (i+1)):=(((HB3.out.take i).append hb').append (HB3.out.drop (i+1))).mono fun x y hr=>RL.keep hr hK4 (Apt.nil _ _);have hS4:=And.intro (hK4.hp hS3.1) (And.intro (hK4.hp hS3.2.1) (And.intro (hK4.hp hS3.2.2.1) (And.intro (hK4.hp hS3.2.2.2.1) (hK4.hp hS3.2.2.2.2))));refine hK.out _ _ hS4 (fun _=>?_);clear hK K hS3 hK4 hs3 hT3' hT3
 try simp only[zZ]
 refine zq 25 fun K hK=>?_;go_simp;refine (qU1 E.O n lv HLV.out h.key v4 (ls.take i++qE3 n ls[i] p++ls.drop (i+1)) w4 ⟨_,hs4,hb4⟩ (by have:=qG9 qA3 (ls.take i++qE3 n ls[i] p++ls.drop (i+1)) (fun x _=>by unfold qA3;omega);have:=HF.out.2;omega) HF.out.1 HF.out.2).mono ?_;rintro e w5 ⟨v5,rfl,hR5,hK5⟩;have hT5:=hT4.tail hK5;have hS5:=And.intro (hK5.hp hS4.1) (And.intro (hK5.hp hS4.2.1) (And.intro (hK5.hp hS4.2.2.1) (And.intro (hK5.hp hS4.2.2.2.1) (hK5.hp hS4.2.2.2.2))));refine hK.out _ _ hS5 (fun _=>?_);clear hK K hS4 hK5 hT4
 try simp only[zZ]
 refine zq 26 fun K hK=>?_;go_simp;refine hK.out _ _ hS5 (fun _=>?_);clear hK K;refine zd ?_;rw[HKEY.out,←HWT.out] at hR5;have HR5:=zh hR5;have HT5:=zh hT5;clear hS5 hR5 hT5 hs4 hb4;go_wp2;go_ret;exact⟨v5,rfl,HR5.out,HT5.out⟩
theorem jT1(E:Env):∀ (n:Nat),n≤100000→∀ (r h:HL) (l:Lnk (Tn n)) (q:Nat) (p:KV) (w:World),E.Dev w→h.key=l.key→RN E.O n w q l.sub→Good n l.key l.sub→qC3 p→kl p.k l.key=false→1≤cnt n l.sub→l.key.size≤8→
  Calls prog 94 #[φ E.V r,qC5 h,.pointer (some ⟨q,0,none⟩),.agg #[.string p.k,.string p.v]] w fun e w'=>∃ v',e=.returned v'∧RLs E.O n w' v' (qE3 n l p)∧E.To w w':=by
 intro n
 induction n with
 | zero=>
  intro _ r h l q p w hd hr hN hg hp hk hc _
  cases hat:qG0 (prs l.sub) (qC1 (prs l.sub) p.k) p.k with
  | true=>exact jS9 E r h l q p w hd hr hN hg hp hc hat
  | false=>exact jT0 E r h l q p w hd hr hN hg hp hc hat
 | succ n ih=>
  intro hn r h l q p w hd hr hN hg hp hk hc _;exact jS8 E n (ih (by omega)) (by omega) r h l q p w hd hr hN hg hp hk hc
theorem qK8{W:World}{k:Nat}{a b c d e:Value}(v0 v1 v2 v3 v4:Value)(h:W.heap[k]?=some (.cells #[a,b,c,d,e] 83)):
  (((((W.setCell ⟨k,0,none⟩ v0).setCell ⟨k,1,none⟩ v1).setCell ⟨k,2,none⟩ v2).setCell ⟨k,3,none⟩ v3).setCell ⟨k,4,none⟩ v4).heap[k]?=some (.cells #[v0,v1,v2,v3,v4] 83)∧Kp [k] W (((((W.setCell ⟨k,0,none⟩ v0).setCell ⟨k,1,none⟩ v1).setCell ⟨k,2,none⟩ v2).setCell ⟨k,3,none⟩ v3).setCell ⟨k,4,none⟩ v4):=
 ⟨ω (ω (ω (ω (ω h 0 _) 1 _) 2 _) 3 _) 4 _,(((((Kp.refl _ W).sc _).sc _).sc _).sc _).sc _⟩
theorem Env.To.store'{E:Env}{w W W':World}{k:Nat}{c:Array Value}{t:TypeId}{fr:Nat × Nat}(hT:E.To w W)(hk:w.heap.size≤k)(hh:W.heap[k]?=some (.cells c t fr))(ht:t∈zD2)(hK:Kp [k] W W'):E.To w W':=
 ⟨E.keep W W' [k] hT.dev hK (fun i hi=>by rw[List.mem_singleton.1 hi];exact⟨c,t,fr,hh,ht⟩),hT.kp.trans hK (fun i hi hlt=>by rw[List.mem_singleton.1 hi] at hlt;omega)⟩
theorem RN.obj2{O:qF0}{n:Nat}{w:World}{q:Nat}{t:Tn n}(h:RN O n w q t):∃ pb pl pc lb ll lc,w.heap[q]?=some (υ (n:Int) (.slice pb pl pc) (.slice lb ll lc))∧pl+ll=cnt n t∧(n=0→ll=0)∧(n≠0→ll=cnt n t):=by
 cases n with
 | zero=>
  obtain⟨vp,h1,h2⟩:=h;obtain⟨bs,cp,hv⟩:∃ bs cp,vp=.slice bs (prs t).length cp:=by
   rcases h2.val with⟨h0,b,c,h1,_⟩|⟨g,off,cap,cur,fr,h1,_⟩
   ·rw[h0];exact⟨b,c,h1⟩
   ·exact⟨_,cap,h1⟩
  rw[hv] at h1;exact⟨_,_,_,_,_,_,h1,rfl,fun _=>rfl,fun h=>absurd rfl h⟩
 | succ n=>
  obtain⟨vl,h1,hs,h2,h3⟩:=h;obtain⟨bs,cp,hv⟩:∃ bs cp,vl=.slice bs hs.length cp:=by
   rcases h2.val with⟨h0,b,c,h1,_⟩|⟨g,off,cap,cur,fr,h1,_⟩
   ·rw[h0];exact⟨b,c,h1⟩
   ·exact⟨_,cap,h1⟩
  rw[hv] at h1;refine⟨_,_,_,_,_,_,h1,?_,fun h=>(by cases h),fun _=>h3.1⟩;rw[Nat.zero_add,h3.1];rfl
theorem xI5(E:Env)(n:Nat)(r:HL)(v:Value)(l:Lnk (Tn n))(w:World)(hd:E.Dev w)(hr:RLs E.O n w v [l])(hnew:l.ref=none)(hc:min n 1<cnt n l.sub)(hcm:cnt n l.sub≤10000):
  Calls prog 91 #[φ E.V r,v] w fun e w'=>∃ h,e=.returned (φ E.V h)∧RL E.O n w' h l∧E.To w w':=by
 obtain⟨hs,hsl,hb⟩:=hr;have hl1:hs.length=1:=hb.1;obtain⟨gb,off,cp,cur,fr,rfl,hcp,hrow,hcur⟩:=hsl.link (by omega);obtain⟨x,hx⟩:∃ x,hs=[x]:=by
  match hs,hl1 with
  | [x],_=>exact⟨x,rfl⟩
 subst hx;obtain⟨c0,c1,c2,c3⟩:=hcur 0 (by simp);have hrl:RL E.O n w x l:=hb.2 0 (by simp) (by simp);rcases hrl.new with⟨_,q,hq1,hq2⟩|⟨hx,_⟩
 ·have hptr:x.ptr=some ⟨q,0,none⟩:=by simp[HL.ptr,hq1]
  simp only[zF,Nat.zero_mul,Nat.add_zero] at c0 c1 c2 c3;rw[hptr] at c3;have HRL:=zh hrl;have HD:=zh hd;have HQ:=zh hq2;have HPT:=zh hptr;have hgs:=ζ hrow;have a0:=ξ hrow off;rw[c0] at a0;have a1:=ξ hrow (off+1);rw[c1] at a1;have a2:=ξ hrow (off+2);rw[c2] at a2;have a3:=ξ hrow (off+3);rw[c3] at a3;have hcz:¬((cnt n l.sub:Nat):Int)=0:=by omega
  have hci:cnt n l.sub≤1000000:=by omega
  have HC:=zh hc;clear hb hsl hcur hrl hq2 hd hptr hq1 hl1 hc;rw[φ];go_enter func91,ntmps91;go_wp2_with fail;obtain⟨w0,hw0,hB0,hR0,hL0,hK0,hs0⟩:∃ w0,w0=((w.alloc (.cells #[.pointer (some ⟨E.V,0,none⟩),.string r.key,.int .i64 r.b,.int .u64 r.s,.pointer r.ptr] 83)).alloc (.cells #[.pointer none,.string ⟨#[]⟩,.int .i64 0,.int .u64 0,.pointer none] 83)).alloc (.cells #[.string x.key,.int .i64 x.b,.int .u64 x.s,.pointer (some ⟨q,0,none⟩)] 81)∧w0.heap[w.heap.size]?=some (.cells #[.pointer (some ⟨E.V,0,none⟩),.string r.key,.int .i64 r.b,.int .u64 r.s,.pointer r.ptr] 83)∧w0.heap[w.heap.size+1]?=some (.cells #[.pointer none,.string ⟨#[]⟩,.int .i64 0,.int .u64 0,.pointer none] 83)∧w0.heap[w.heap.size+1+1]?=some (.cells #[.string x.key,.int .i64 x.b,.int .u64 x.s,.pointer (some ⟨q,0,none⟩)] 81)∧Kp [] w w0∧w0.heap.size=w.heap.size+3:=by
   refine⟨_,rfl,θ _ (θ _ (μ _ _)),θ _ ?_,?_,(((Kp.refl _ _).alloc _).alloc _).alloc _,by simp⟩
   ·have e:=μ (w.alloc (.cells #[.pointer (some ⟨E.V,0,none⟩),.string r.key,.int .i64 r.b,.int .u64 r.s,.pointer r.ptr] 83)) (.cells #[.pointer none,.string ⟨#[]⟩,.int .i64 0,.int .u64 0,.pointer none] 83);simpa using e
   ·have e:=μ ((w.alloc (.cells #[.pointer (some ⟨E.V,0,none⟩),.string r.key,.int .i64 r.b,.int .u64 r.s,.pointer r.ptr] 83)).alloc (.cells #[.pointer none,.string ⟨#[]⟩,.int .i64 0,.int .u64 0,.pointer none] 83)) (.cells #[.string x.key,.int .i64 x.b,.int .u64 x.s,.pointer (some ⟨q,0,none⟩)] 81);simpa using e
  rw[←hw0];clear hw0;refine (qT1 E.O n q l.sub w0 (RN.keep hK0 (Apt.nil _ _) n q _ HQ.out) hci).mono ?_;rintro e w1 ⟨rfl,hK1⟩;have hK1':Kp [] w w1:=hK0.tr hK1;have hT1:=Env.To.of0 HD.out hK1';have hB1:=hK1.hp hB0;have hR1:=hK1.hp hR0;have hL1:=hK1.hp hL0;obtain⟨pb,pl,pc,lb,ll,lc,hob,hcn,hn0,hn1⟩:=(RN.keep hK1' (Apt.nil _ _) n q _ HQ.out).obj2;have hll:¬((ll:Nat):Int)=1:=by
   have:=HC.out;by_cases h0:n=0
   ·have:=hn0 h0;omega
   ·have:=hn1 h0;omega
  have hqs:=ζ hob;have hBs:=ζ hB1;have hRs:=ζ hR1;have hLs:=ζ hL1;have o2:=ξ hob 2;simp only[υ,zG,zH,zI] at o2;have b0:=ξ hB1 0;simp only[zG,zH,zI] at b0;have l0:=ξ hL1;have r0:=ξ hR1;have fr0:=ρ hR1;have HR1:=zh hR1;have HT1:=zh hT1;clear hB1 hR1 hL1 hob hK1 hK0 hB0 hR0 hL0 hn0 hn1 hT1 hK1' a0 a1 a2 a3 hcn;go_wp2;have hts:=qK8 (.pointer (some ⟨E.V,0,none⟩)) (.string x.key) (.int .i64 x.b) (.int .u64 x.s) (.pointer (some ⟨q,0,none⟩)) HR1.out;have hT2:=HT1.out.store' (by omega) HR1.out (by decide) hts.2;refine bodyPost_ret (results_cell_row results91 _ _ (w.heap.size+1) 83 #[.pointer (some ⟨E.V,0,none⟩),.string x.key,.int .i64 x.b,.int .u64 x.s,.pointer (some ⟨q,0,none⟩)] (0,0) _ rfl hts.1 underlying83 rfl (by kernel_rfl)) rfl ⟨x,?_,Env.RL HRL.out HD.out hT2,hT2⟩;rw[φ,HPT.out]
 ·rw[hnew] at hx;cases hx
end Go.Proofs.YtdohpenfkdckiabGreatDoor
