import Derived.Test.YtdohpenfkdckiaaGreatDoorM10
set_option linter.all false
set_option maxRecDepth 100000
set_option maxHeartbeats 20000000
namespace Go.Proofs.YtdohpenfkdckiaaGreatDoor
open Go.Proofs.Tryz
open Go.RowKit
theorem zF0(v:Value)(ps:List KV)(p:KV)(w:World)(hs:SPR w v ps)(hn:ps.length≤100000):
  Calls prog 193 #[.agg #[v],.string p.k,.string p.v] w fun e w'=>∃ v',e=.returned (.agg #[v'])∧SPR w' v' (ins p ps)∧Kp [] w w':=by
 obtain⟨bs,cp,rfl⟩:=hs.form;have HS:=zh hs;have HW:Hid ((if (ps.foldl (qD2 p) ([],false)).2 then (ps.foldl (qD2 p) ([],false)).1 else (ps.foldl (qD2 p) ([],false)).1++[p])=ins p ps):=by
  have:=zU5 p ps [];show _=_;simpa using this
 clear hs;go_enter func193,ntmps193;go_wp2_with fail;obtain⟨w0,hw0,hB0,hR0,hK0⟩:∃ w0,w0=(w.alloc (.cells #[.slice bs ps.length cp] 126)).alloc (.cells #[.slice none 0 0] 126)∧w0.heap[w.heap.size]?=some (.cells #[.slice bs ps.length cp] 126)∧w0.heap[w.heap.size+1]?=some (.cells #[.slice none 0 0] 126)∧Kp [] w w0:=by
  refine⟨_,rfl,η _ (κ _ _),?_,((Kp.refl _ _).alloc _).alloc _⟩;have e:=κ (w.alloc (.cells #[.slice bs ps.length cp] 126)) (.cells #[.slice none 0 0] 126);simpa using e
 rw[←hw0];clear hw0;have HB0:=zh hB0;have HR0:=zh hR0;have HK0:=zh hK0;have hs0:=ζ hR0;clear hB0 hR0 hK0
 go_loopw [7,8,9] (fun o b i wr=>∃ (j:Nat) (v':Value),j≤ps.length∧i=.int .i64 j∧b=.bool ((ps.take j).foldl (qD2 p) ([],false)).2∧v'=o∧OPR wr w0.heap.size v' ((ps.take j).foldl (qD2 p) ([],false)).1∧Kp [] w0 wr) (fun _ _ i _=>ps.length-(intOf i).toNat)
 case atStart=>exact⟨0,_,Nat.zero_le _,rfl,rfl,rfl,OPR.nil _ _,Kp.refl _ _⟩
 case round=>
  obtain⟨j,v',hj,rfl,rfl,rfl,hO,hK⟩:=hrel;have hBr:=hK.hp HB0.out;have hBs:=ζ hBr;have hsz:=hK.size;have b0:=ξ hBr 0;simp only[zG,zH,zI] at b0;have hlen:=zU6 p (ps.take j) ([],false);simp only[List.length_take,List.length_nil] at hlen;by_cases hlt:j<ps.length
  ·have hjb:(j:Int)<(ps.length:Int):=by omega
   have hf:=xK0 (qD2 p) ([],false) ps j hlt;obtain⟨acc,put,hacc⟩:∃ acc put,(ps.take j).foldl (qD2 p) ([],false)=(acc,put):=⟨_,_,rfl⟩;rw[hacc] at hf hlen hO ⊢;simp only at hlen hO;have HF:=zh hf;have HO:=zh hO;have HK:=zh hK;obtain⟨g,off,cap,cur,fr,hv,hcp,hrow,hcur⟩:=(HS.out.keep0 (HK0.out.tr hK)).at (by omega);obtain⟨c0,c1⟩:=hcur j hlt;simp only[Value.slice.injEq,true_and] at hv;obtain⟨rfl,rfl⟩:=hv;have a0:=ξ hrow (off+j*2);rw[c0] at a0;have a1:=ξ hrow (off+j*2+1);rw[c1] at a1;have hgs:=ζ hrow;obtain⟨q,hq⟩:∃ q,ps[j]=q:=⟨_,rfl⟩;rw[hq] at a0 a1;have HQ:=zh hq;clear hf hacc hO hK hcur c0 c1 hrow hBr hq
   cases put with
   | true=>
    by_cases hk:q.k=p.k
    ·have hkb:(q.k.toList == p.k.toList)=true:=by rw[qL9];simp[hk]
     go_wp2;refine⟨⟨j+1,v',by omega,by go_num,?_,rfl,?_,HK.out.alloc _⟩,by simp[intOf];omega⟩
     ·rw[HF.out,HQ.out];simp[qD2,hk]
     ·rw[HF.out,HQ.out];simp only[qD2,hk,Bool.not_true,Bool.false_and,Bool.false_eq_true,if_false,if_true];exact HO.out.alloc _
    ·have hkb:(q.k.toList == p.k.toList)=false:=by rw[qL9];simp[hk]
     have hO1:=(HO.out.alloc (.cells #[.string q.k,.string q.v] 284)).alloc (.cells #[.string q.k,.string q.v] 284);obtain⟨v5,w5,hr5,hO5,hg5⟩:=hO1.app (wr.heap.size+1) q 124 (by omega) (by
      have e:=κ (wr.alloc (.cells #[.string q.k,.string q.v] 284)) (.cells #[.string q.k,.string q.v] 284);simpa using e) (by simp;omega)
     have HE5:Hid (OPR w5 w0.heap.size v5 (acc++[q])∧Kp [] w0 w5):=⟨hO5,((HK.out.alloc _).alloc _).grown hg5 (fun k hk=>Or.inr (HO.out.low k hk))⟩;clear hO1 hO5 hg5
     go_wp2_with (at_builtin;((with_reducible refine qL7 ?_ ?_ hr5 ?_);rfl;rfl))
     refine⟨⟨j+1,v5,by omega,by go_num,?_,rfl,?_,HE5.out.2⟩,by simp[intOf];omega⟩
     ·rw[HF.out,HQ.out];simp[qD2,hk]
     ·rw[HF.out,HQ.out];simp only[qD2,hk,Bool.not_true,Bool.false_and,Bool.false_eq_true,if_false];exact HE5.out.1
   | false=>
    cases hl:kl q.k p.k with
    | true=>
     have hlb:Op.bytesLess q.k.toList p.k.toList=true:=hl;have hk:¬q.k=p.k:=qH2 hl;have hkb:(q.k.toList == p.k.toList)=false:=by rw[qL9];simp[hk]
     have hO1:=(HO.out.alloc (.cells #[.string q.k,.string q.v] 284)).alloc (.cells #[.string q.k,.string q.v] 284);obtain⟨v5,w5,hr5,hO5,hg5⟩:=hO1.app (wr.heap.size+1) q 124 (by omega) (by
      have e:=κ (wr.alloc (.cells #[.string q.k,.string q.v] 284)) (.cells #[.string q.k,.string q.v] 284);simpa using e) (by simp;omega)
     have HE5:Hid (OPR w5 w0.heap.size v5 (acc++[q])∧Kp [] w0 w5):=⟨hO5,((HK.out.alloc _).alloc _).grown hg5 (fun k hk=>Or.inr (HO.out.low k hk))⟩;clear hO1 hO5 hg5
     go_wp2_with (at_builtin;((with_reducible refine qL7 ?_ ?_ hr5 ?_);rfl;rfl))
     refine⟨⟨j+1,v5,by omega,by go_num,?_,rfl,?_,HE5.out.2⟩,by simp[intOf];omega⟩
     ·rw[HF.out,HQ.out];simp[qD2,hk,hl]
     ·rw[HF.out,HQ.out];simp only[qD2,hk,hl,Bool.not_true,Bool.not_false,Bool.and_false,Bool.false_eq_true,if_false];exact HE5.out.1
    | false=>
     have hlb:Op.bytesLess q.k.toList p.k.toList=false:=hl;have hO1:=(HO.out.alloc (.cells #[.string q.k,.string q.v] 284)).alloc (.cells #[.string p.k,.string p.v] 284);obtain⟨v5,w5,hr5,hO5,hg5⟩:=hO1.app (wr.heap.size+1) p 124 (by omega) (by
      have e:=κ (wr.alloc (.cells #[.string q.k,.string q.v] 284)) (.cells #[.string p.k,.string p.v] 284);simpa using e) (by simp;omega)
     have HE5:Hid (OPR w5 w0.heap.size v5 (acc++[p])∧Kp [] w0 w5):=⟨hO5,((HK.out.alloc _).alloc _).grown hg5 (fun k hk=>Or.inr (HO.out.low k hk))⟩;have hQ5:w5.heap[wr.heap.size]?=some (.cells #[.string q.k,.string q.v] 284):=(hg5.block wr.heap.size (by simp;omega) (fun e=>by
      have h1:=(World.ownsRow.lt HO.out _ e.symm).2;omega)).trans (η _ (κ _ _))
     have hs5:=HE5.out.2.size;have hq5:=ζ hQ5;have q0:=ξ hQ5;clear hO1 hO5 hg5 hQ5;by_cases hk:q.k=p.k
     ·have hkb:(q.k.toList == p.k.toList)=true:=by rw[qL9];simp[hk]
      have HKK:=zh hk;clear hk
      go_wp2_with (at_builtin;((with_reducible refine qL7 ?_ ?_ hr5 ?_);rfl;rfl))
      have hk:=HKK.out;refine⟨⟨j+1,v5,by omega,by go_num,?_,rfl,?_,HE5.out.2⟩,by simp[intOf];omega⟩
      ·rw[HF.out,HQ.out];simp[qD2,hk,qJ4]
      ·rw[HF.out,HQ.out];simp only[qD2,hk,qJ4,Bool.not_false,Bool.and_self,if_true];exact HE5.out.1
     ·have hkb:(q.k.toList == p.k.toList)=false:=by rw[qL9];simp[hk]
      obtain⟨v6,w6,hr6,hO6,hg6⟩:=(HE5.out.1.alloc (.cells #[.string q.k,.string q.v] 284)).app w5.heap.size q 124 (by simp;omega) (κ _ _) (by simp;omega);have HE6:Hid (OPR w6 w0.heap.size v6 (acc++[p]++[q])∧Kp [] w0 w6):=⟨hO6,(HE5.out.2.alloc _).grown hg6 (fun k hk=>Or.inr (HE5.out.1.low k hk))⟩;clear hO6 hg6
      go_wp2_with (at_builtin;first | ((with_reducible refine qL7 ?_ ?_ hr5 ?_);rfl;rfl) | ((with_reducible refine qL7 ?_ ?_ hr6 ?_);rfl;rfl))
      refine⟨⟨j+1,v6,by omega,by go_num,?_,rfl,?_,HE6.out.2⟩,by simp[intOf];omega⟩
      ·rw[HF.out,HQ.out];simp[qD2,hk,hl]
      ·rw[HF.out,HQ.out];simp only[qD2,hk,hl,Bool.not_false,Bool.and_self,if_true,if_false];exact HE6.out.1
  ·have hjb:¬(j:Int)<(ps.length:Int):=by omega
   have hjl:ps.take j=ps:=List.take_of_length_le (by omega);rw[hjl] at hO hlen ⊢;obtain⟨acc,put,hacc⟩:∃ acc put,ps.foldl (qD2 p) ([],false)=(acc,put):=⟨_,_,rfl⟩;have hw:=HW.out;rw[hacc] at hlen hO hw ⊢;simp only at hlen hO hw;have HO:=zh hO;have HK:=zh hK;have hRr:=hK.hp HR0.out;have hRs:=ζ hRr
   cases put with
   | true=>
    have r0:=ξ hRr 0;simp only[zG,zH,zI] at r0;have f0:=ρ hRr 0;clear hjl hO hK hacc hBr HW;have HWI:Hid (acc=ins p ps):=by show _=_;simpa using hw
    clear hw;obtain⟨ob,oc,rfl⟩:=HO.out.form;obtain⟨v',hv'⟩:∃ v',v'=Value.slice ob acc.length oc:=⟨_,rfl⟩;have HV5:=zh hv';clear hv';go_wp2;rw[←HV5.out] at HO ⊢;have hKs:Kp [w.heap.size+1] wr (wr.setCell ⟨w.heap.size+1,0,none⟩ v'):=(Kp.refl _ _).sc _;have hAp:Apt wr [w.heap.size+1] [284]:=fun k hk c t fr e hm=>by
     rw[List.mem_singleton.1 hk,hRr] at e;cases e
     revert hm;decide
    refine bodyPost_ret (v:=.agg #[v']) ?_ rfl ⟨v',rfl,?_,?_⟩
    ·exact results_cell_row results193 _ _ (w.heap.size+1) 126 #[v'] (0,0) _ rfl (μ hRr 0 _) underlying126 rfl (by kernel_rfl)
    ·rw[←HWI.out];exact (HO.out.sp).keep hKs hAp
    ·exact (HK0.out.tr HK.out).trans hKs (by intro i hi hlt;simp at hi;omega)
   | false=>
    obtain⟨v5,w5,hr5,hO5,hg5⟩:=(HO.out.alloc (.cells #[.string p.k,.string p.v] 284)).app wr.heap.size p 124 (by omega) (κ _ _) (by simp;omega);have hK5:Kp [] w0 w5:=(HK.out.alloc _).grown hg5 (fun k hk=>Or.inr (HO.out.low k hk));have HE5:Hid (OPR w5 w0.heap.size v5 (acc++[p])∧Kp [] w0 w5):=⟨hO5,hK5⟩;have hR5:=hK5.hp HR0.out;have hR5s:=ζ hR5;have r0:=ξ hR5 0;simp only[zG,zH,zI] at r0;have f0:=ρ hR5 0;clear hjl hO hK hacc hBr HW hO5 hK5 hg5 hRr;have HWI:Hid (acc++[p]=ins p ps):=by show _=_;simpa using hw
    clear hw;obtain⟨ob,oc,hform⟩:=HE5.out.1.form;rw[List.length_append,List.length_singleton] at hform;subst hform;obtain⟨v5,hv5⟩:∃ v5,v5=Value.slice ob (acc.length+1) oc:=⟨_,rfl⟩;have HV5:=zh hv5;clear hv5
    go_wp2_with (at_builtin;((with_reducible refine qL7 ?_ ?_ hr5 ?_);rfl;rfl))
    rw[←HV5.out] at HE5 ⊢;have hKs:Kp [w.heap.size+1] w5 (w5.setCell ⟨w.heap.size+1,0,none⟩ v5):=(Kp.refl _ _).sc _;have hAp:Apt w5 [w.heap.size+1] [284]:=fun k hk c t fr e hm=>by
     rw[List.mem_singleton.1 hk,hR5] at e;cases e
     revert hm;decide
    refine bodyPost_ret (v:=.agg #[v5]) ?_ rfl ⟨v5,rfl,?_,?_⟩
    ·exact results_cell_row results193 _ _ (w.heap.size+1) 126 #[v5] (0,0) _ rfl (μ hR5 0 _) underlying126 rfl (by kernel_rfl)
    ·rw[←HWI.out];exact (HE5.out.1.sp).keep hKs hAp
    ·exact (HK0.out.tr HE5.out.2).trans hKs (by intro i hi hlt;simp at hi;omega)
theorem xF9(k:ByteArray)(ps:List KV)(j:Nat)(h:j<ps.length):del k (ps.take (j+1))=if ps[j].k=k then del k (ps.take j) else del k (ps.take j)++[ps[j]]:=by
 rw[List.take_succ_eq_append_getElem h,qS6];by_cases e:ps[j].k=k<;>simp[del,e]
theorem xF7(k:ByteArray)(l:List KV):(del k l).length≤l.length:=List.length_filter_le _ _
theorem jD3(v:Value)(ps:List KV)(k:ByteArray)(w:World)(hs:SPR w v ps)(hn:ps.length≤100000):
  Calls prog 194 #[.agg #[v],.string k] w fun e w'=>∃ v',e=.returned (.agg #[v'])∧SPR w' v' (del k ps)∧Kp [] w w':=by
 obtain⟨bs,cp,rfl⟩:=hs.form;have HS:=zh hs;clear hs;go_enter func194,ntmps194;go_wp2_with fail;obtain⟨w0,hw0,hB0,hR0,hK0⟩:∃ w0,w0=(w.alloc (.cells #[.slice bs ps.length cp] 126)).alloc (.cells #[.slice none 0 0] 126)∧w0.heap[w.heap.size]?=some (.cells #[.slice bs ps.length cp] 126)∧w0.heap[w.heap.size+1]?=some (.cells #[.slice none 0 0] 126)∧Kp [] w w0:=by
  refine⟨_,rfl,η _ (κ _ _),?_,((Kp.refl _ _).alloc _).alloc _⟩;have e:=κ (w.alloc (.cells #[.slice bs ps.length cp] 126)) (.cells #[.slice none 0 0] 126);simpa using e
 rw[←hw0];clear hw0;have HB0:=zh hB0;have HR0:=zh hR0;have HK0:=zh hK0;have hs0:=ζ hR0;clear hB0 hR0 hK0
 go_loopw [5,6] (fun o i wr=>∃ (j:Nat) (v':Value),j≤ps.length∧i=.int .i64 j∧v'=o∧OPR wr w0.heap.size v' (del k (ps.take j))∧Kp [] w0 wr) (fun _ i _=>ps.length-(intOf i).toNat)
 case atStart=>exact⟨0,_,Nat.zero_le _,rfl,rfl,OPR.nil _ _,Kp.refl _ _⟩
 case round=>
  obtain⟨j,v',hj,rfl,rfl,hO,hK⟩:=hrel;have hBr:=hK.hp HB0.out;have hBs:=ζ hBr;have hsz:=hK.size;have b0:=ξ hBr 0;simp only[zG,zH,zI] at b0;have hlen:=xF7 k (ps.take j);simp only[List.length_take] at hlen;by_cases hlt:j<ps.length
  ·have hjb:(j:Int)<(ps.length:Int):=by omega
   have hf:=xF9 k ps j hlt;obtain⟨acc,hacc⟩:∃ acc,del k (ps.take j)=acc:=⟨_,rfl⟩;rw[hacc] at hf hlen hO;have HO:=zh hO;have HK:=zh hK;obtain⟨g,off,cap,cur,fr,hv,hcp,hrow,hcur⟩:=(HS.out.keep0 (HK0.out.tr hK)).at (by omega);obtain⟨c0,c1⟩:=hcur j hlt;simp only[Value.slice.injEq,true_and] at hv;obtain⟨rfl,rfl⟩:=hv;have a0:=ξ hrow (off+j*2);rw[c0] at a0;have a1:=ξ hrow (off+j*2+1);rw[c1] at a1;have hgs:=ζ hrow;obtain⟨q,hq⟩:∃ q,ps[j]=q:=⟨_,rfl⟩;rw[hq] at a0 a1;have HQ:=zh hq;clear hcur c0 c1 hrow hq;rw[HQ.out] at hf;have HF:=zh hf;clear hf hacc hO hK hBr;by_cases hk:q.k=k
   ·have hkb:(q.k.toList == k.toList)=true:=by rw[qL9];simp[hk]
    go_wp2;refine⟨⟨j+1,v',by omega,by go_num,rfl,?_,HK.out⟩,by simp[intOf];omega⟩;rw[HF.out,if_pos hk];exact HO.out
   ·have hkb:(q.k.toList == k.toList)=false:=by rw[qL9];simp[hk]
    obtain⟨v5,w5,hr5,hO5,hg5⟩:=(HO.out.alloc (.cells #[.string q.k,.string q.v] 284)).app wr.heap.size q 124 (by omega) (κ _ _) (by simp;omega);have HE5:Hid (OPR w5 w0.heap.size v5 (acc++[q])∧Kp [] w0 w5):=⟨hO5,(HK.out.alloc _).grown hg5 (fun k hk=>Or.inr (HO.out.low k hk))⟩;clear hO5 hg5
    go_wp2_with (at_builtin;((with_reducible refine qL7 ?_ ?_ hr5 ?_);rfl;rfl))
    refine⟨⟨j+1,v5,by omega,by go_num,rfl,?_,HE5.out.2⟩,by simp[intOf];omega⟩;rw[HF.out,if_neg hk];exact HE5.out.1
  ·have hjb:¬(j:Int)<(ps.length:Int):=by omega
   rw[List.take_of_length_le (by omega)] at hO;have HO:=zh hO;have HK:=zh hK;have hRr:=hK.hp HR0.out;have hRs:=ζ hRr;have r0:=ξ hRr 0;simp only[zG,zH,zI] at r0;have f0:=ρ hRr 0;clear hO hK hBr;obtain⟨ob,oc,rfl⟩:=HO.out.form;obtain⟨v',hv'⟩:∃ v',v'=Value.slice ob (del k ps).length oc:=⟨_,rfl⟩;have HV5:=zh hv';clear hv';go_wp2;rw[←HV5.out] at HO ⊢;have hKs:Kp [w.heap.size+1] wr (wr.setCell ⟨w.heap.size+1,0,none⟩ v'):=(Kp.refl _ _).sc _;have hAp:Apt wr [w.heap.size+1] [284]:=fun k hk c t fr e hm=>by
    rw[List.mem_singleton.1 hk,hRr] at e;cases e
    revert hm;decide
   refine bodyPost_ret (v:=.agg #[v']) ?_ rfl ⟨v',rfl,?_,?_⟩
   ·exact results_cell_row results194 _ _ (w.heap.size+1) 126 #[v'] (0,0) _ rfl (μ hRr 0 _) underlying126 rfl (by kernel_rfl)
   ·exact (HO.out.sp).keep hKs hAp
   ·exact (HK0.out.tr HK.out).trans hKs (by intro i hi hlt;simp at hi;omega)
def qS9(l:List KV)(k:ByteArray):Value:=.tuple #[.string (((l.find? fun q=>decide (q.k=k)).map KV.v).getD ⟨#[]⟩),.bool (l.find? fun q=>decide (q.k=k)).isSome]
theorem xI1{α:Type}(f:α→Bool)(l:List α)(j:Nat)(h:j<l.length)(hn:(l.take j).find? f=none)(hf:f l[j]=true):l.find? f=some l[j]:=by
 have e:l=l.take j++l[j]::l.drop (j+1):=by rw[←List.drop_eq_getElem_cons h,List.take_append_drop]
 refine (congrArg (List.find? f) e).trans ?_;rw[List.find?_append,hn,Option.none_or,List.find?_cons_of_pos hf]
theorem xI2{α:Type}(f:α→Bool)(l:List α)(j:Nat)(h:j<l.length)(hn:(l.take j).find? f=none)(hf:f l[j]=false):(l.take (j+1)).find? f=none:=by
 rw[List.take_succ_eq_append_getElem h,List.find?_append,hn];simp[hf]
theorem zR9(v:Value)(ps:List KV)(k:ByteArray)(w:World)(hs:SPR w v ps)(hn:ps.length≤100000):
  Calls prog 199 #[.agg #[v],.string k] w fun e w'=>e=.returned (qS9 ps k)∧Kp [] w w':=by
 obtain⟨bs,cp,rfl⟩:=hs.form;have HS:=zh hs;clear hs;go_enter func199,ntmps199;go_wp2_with fail;obtain⟨w0,hw0,hB0,hK0⟩:∃ w0,w0=w.alloc (.cells #[.slice bs ps.length cp] 126)∧w0.heap[w.heap.size]?=some (.cells #[.slice bs ps.length cp] 126)∧Kp [] w w0:=
  ⟨_,rfl,κ _ _,(Kp.refl _ _).alloc _⟩
 rw[←hw0];clear hw0;have HK0:=zh hK0;have hBs:=ζ hB0;have b0:=ξ hB0 0;simp only[zG,zH,zI] at b0;clear hK0
 go_loop [6] (fun i=>∃ (j:Nat),j≤ps.length∧i=.int .i64 j∧Hid ((ps.take j).find? (fun q=>decide (q.k=k))=none)) (fun i=>ps.length-(intOf i).toNat)
 case atStart=>exact⟨0,Nat.zero_le _,rfl,rfl⟩
 case round=>
  obtain⟨j,hj,rfl,hnone⟩:=hrel;by_cases hlt:j<ps.length
  ·have hjb:(j:Int)<(ps.length:Int):=by omega
   have hK:=Kp.refl [] w0;obtain⟨g,off,cap,cur,fr,hv,hcp,hrow,hcur⟩:=(HS.out.keep0 (HK0.out.tr hK)).at (by omega);obtain⟨c0,c1⟩:=hcur j hlt;simp only[Value.slice.injEq,true_and] at hv;obtain⟨rfl,rfl⟩:=hv;have a0:=ξ hrow (off+j*2);rw[c0] at a0;have a1:=ξ hrow (off+j*2+1);rw[c1] at a1;have hgs:=ζ hrow;obtain⟨q,hq⟩:∃ q,ps[j]=q:=⟨_,rfl⟩;rw[hq] at a0 a1;have HQ:=zh hq;clear hcur c0 c1 hrow hq;clear hK;by_cases hk:q.k=k
   ·have hkb:(q.k.toList == k.toList)=true:=by rw[qL9];simp[hk]
    have HF:Hid (ps.find? (fun q=>decide (q.k=k))=some q):=by
     show _=_;rw[←HQ.out];exact xI1 _ ps j hlt hnone.out (by rw[HQ.out];simp[hk])
    clear hk;go_wp2
    go_ret2
    exact⟨by rw[qS9,HF.out];rfl,HK0.out⟩
   ·have hkb:(q.k.toList == k.toList)=false:=by rw[qL9];simp[hk]
    have HF:Hid ((ps.take (j+1)).find? (fun q=>decide (q.k=k))=none):=xI2 _ ps j hlt hnone.out (by rw[HQ.out];simp[hk]);go_wp2;exact⟨⟨j+1,by omega,by go_num,HF⟩,by simp[intOf];omega⟩
  ·have hjb:¬(j:Int)<(ps.length:Int):=by omega
   have hx:=hnone.out;rw[List.take_of_length_le (by omega)] at hx;have HX:=zh hx;clear hx;go_wp2
   go_ret2
   exact⟨by rw[qS9,HX.out];rfl,HK0.out⟩
theorem qI5(v:Value)(ps:List KV)(k:ByteArray)(w:World)(hs:SPR w v ps)(hn:ps.length≤100000):
  Calls prog 203 #[.agg #[v],.string k] w fun e w'=>e=.returned (.int .i64 (qA0 ps k:Nat))∧Kp [] w w':=by
 obtain⟨bs,cp,rfl⟩:=hs.form;have HS:=zh hs;clear hs;go_enter func203,ntmps203;go_wp2_with fail;obtain⟨w0,hw0,hB0,hK0⟩:∃ w0,w0=w.alloc (.cells #[.slice bs ps.length cp] 126)∧w0.heap[w.heap.size]?=some (.cells #[.slice bs ps.length cp] 126)∧Kp [] w w0:=
  ⟨_,rfl,κ _ _,(Kp.refl _ _).alloc _⟩
 rw[←hw0];clear hw0;have HK0:=zh hK0;have hBs:=ζ hB0;have b0:=ξ hB0 0;simp only[zG,zH,zI] at b0;clear hK0;have hsl:=qO6 ps k
 go_loop [5] (fun i=>∃ (j:Nat),j≤qA0 ps k∧i=.int .i64 j) (fun i=>ps.length-(intOf i).toNat)
 case atStart=>exact⟨0,Nat.zero_le _,rfl⟩
 case round=>
  obtain⟨j,hj,rfl⟩:=hrel;by_cases hlt:j<ps.length
  ·have hjb:(j:Int)<(ps.length:Int):=by omega
   have hK:=Kp.refl [] w0;obtain⟨g,off,cap,cur,fr,hv,hcp,hrow,hcur⟩:=(HS.out.keep0 (HK0.out.tr hK)).at (by omega);obtain⟨c0,c1⟩:=hcur j hlt;simp only[Value.slice.injEq,true_and] at hv;obtain⟨rfl,rfl⟩:=hv;have a0:=ξ hrow (off+j*2);rw[c0] at a0;have a1:=ξ hrow (off+j*2+1);rw[c1] at a1;have hgs:=ζ hrow;obtain⟨q,hq⟩:∃ q,ps[j]=q:=⟨_,rfl⟩;rw[hq] at a0 a1;have HQ:=zh hq;clear hcur c0 c1 hrow hq;clear hK;by_cases hjs:j<qA0 ps k
   ·have hlb:Op.bytesLess q.k.toList k.toList=true:=by
     have:=List.not_of_lt_findIdx (p:=fun q:KV=>!kl q.k k) (xs:=ps) (i:=j) hjs;rw[HQ.out] at this;simpa [kl] using this
    go_wp2;exact⟨⟨j+1,by omega,by go_num⟩,by simp[intOf];omega⟩
   ·have hje:qA0 ps k=j:=by omega
    have hlb:Op.bytesLess q.k.toList k.toList=false:=by
     have:=List.findIdx_getElem (p:=fun q:KV=>!kl q.k k) (xs:=ps) (w:=by show qA0 ps k<ps.length;omega);have e2:ps[List.findIdx (fun q:KV=>!kl q.k k) ps]'(by show qA0 ps k<ps.length;omega)=q:=by
      rw[←HQ.out]
      congr 1
     rw[e2] at this;simpa [kl] using this
    have HJ:=zh hje;clear hje hjs hj hsl;go_wp2;go_ret;exact⟨qI0 (by rw[HJ.out]),HK0.out⟩
  ·have hjb:¬(j:Int)<(ps.length:Int):=by omega
   have HJ:Hid (qA0 ps k=j):=by show _=_;omega
   clear hj hsl;go_wp2;go_ret;exact⟨qI0 (by rw[HJ.out]),HK0.out⟩
def inR(lo hi:ByteArray)(q:KV):Bool:=!kl q.k lo && kl q.k hi
def qF8(ps:List KV)(lo hi:ByteArray)(most:Int):List KV:=(ps.filter (inR lo hi)).take most.toNat
def qF6(k:ByteArray):Bool:=decide (1≤k.size) && decide (k.size≤8)
theorem zE7(k:ByteArray)(w:World):
  Calls prog 198 #[.string k] w fun e w'=>e=.returned (.bool (qF6 k))∧w'=w:=by
 by_cases h1:1≤k.size
 ·have hb:(1:Int)≤(k.size:Int):=by omega
  go_enter func198,ntmps198;go_wp2;go_ret;refine⟨?_,rfl⟩;by_cases h8:k.size≤8
  ·have:(k.size:Int)≤8:=by omega
   simp[qF6,h1,h8,this]
  ·have:¬(k.size:Int)≤8:=by omega
   simp[qF6,h1,h8,this]
 ·have hb:¬(1:Int)≤(k.size:Int):=by omega
  go_enter func198,ntmps198;go_wp2;go_ret;exact⟨by simp[qF6,h1],rfl⟩
def qK1:List TypeId:=[114,263,115,117]
def OffD(w:World)(L:List Nat):Prop:=∀ k∈L,∀ c t fr,w.heap[k]?=some (.cells c t fr)→t ∉ qK1
structure SEnv extends Env where
 keepX:∀ w w' L,Dev w→Kp L w w'→OffD w L→Dev w'
 offS:∀ w,Dev w→∀ k∈S,∃ c t fr,w.heap[k]?=some (.cells c t fr)∧t∈qK1
theorem SEnv.nin(E:SEnv){w:World}(hd:E.Dev w){k:Nat}{c:Array Value}{t:TypeId}{fr:Nat × Nat}(h:w.heap[k]?=some (.cells c t fr))(ht:t ∉ qK1):k ∉ E.S:=fun hm=>by
 obtain⟨c',t',fr',h1,h2⟩:=E.offS w hd k hm;rw[h] at h1;cases h1;exact ht h2
theorem SEnv.stay(E:SEnv){w w':World}(hd:E.Dev w)(hT:E.To w w'){k:Nat}{c:Array Value}{t:TypeId}{fr:Nat × Nat}(h:w.heap[k]?=some (.cells c t fr))(ht:t ∉ qK1):w'.heap[k]?=some (.cells c t fr):=
 hT.kp.heap h (E.nin hd h ht)
theorem OffD.one{w:World}{k:Nat}{c:Array Value}{t:TypeId}{fr:Nat × Nat}(h:w.heap[k]?=some (.cells c t fr))(ht:t ∉ qK1):OffD w [k]:=fun i hi c' t' fr' e=>by
 rw[List.mem_singleton.1 hi,h] at e;cases e;exact ht
theorem OffD.cons{w:World}{k:Nat}{L:List Nat}(h:OffD w [k])(h2:OffD w L):OffD w (k::L):=fun i hi=>by
 rcases List.mem_cons.1 hi with hi|hi
 ·exact h i (by simp[hi])
 ·exact h2 i hi
theorem Apt.one{w:World}{k:Nat}{c:Array Value}{t:TypeId}{fr:Nat × Nat}{Ts:List TypeId}(h:w.heap[k]?=some (.cells c t fr))(ht:t ∉ Ts):Apt w [k] Ts:=fun i hi c' t' fr' e=>by
 rw[List.mem_singleton.1 hi,h] at e;cases e;exact ht
theorem Apt.cons{w:World}{k:Nat}{S:List Nat}{Ts:List TypeId}(h:Apt w [k] Ts)(h2:Apt w S Ts):Apt w (k::S) Ts:=fun i hi=>by
 rcases List.mem_cons.1 hi with hi|hi
 ·exact h i (by simp[hi])
 ·exact h2 i hi
theorem zB1(k:ByteArray)(w:World)(h1:1≤k.size)(h8:k.size≤8):
  Calls prog 101 #[.string k] w fun e w'=>e=qB7 none∧w'=w:=by
 have hb:¬(k.size:Int)<1:=by omega
 have hb8:¬(8:Int)<(k.size:Int):=by omega
 go_enter func101,ntmps101;go_wp2
 go_end0
 exact⟨rfl,rfl⟩
theorem zJ9(k:ByteArray)(w:World)(h:k.size<1∨8<k.size):
  Calls prog 101 #[.string k] w fun e w'=>e=qB7 (some 1)∧w'=w:=by
 by_cases h1:k.size<1
 ·have hb:(k.size:Int)<1:=by omega
  clear h;go_enter func101,ntmps101;go_wp2;exact⟨rfl,rfl,rfl,rfl⟩
 ·have hb:¬(k.size:Int)<1:=by omega
  have hb8:(8:Int)<(k.size:Int):=by omega
  clear h;go_enter func101,ntmps101;go_wp2;exact⟨rfl,rfl,rfl,rfl⟩
theorem qO2(St A n:Nat)(lk:Int)(s:Sto)(w:World)(hSt:w.heap[St]?=some (ν lk s))(hV:w.heap[s.V]?=some (qC5 A n))(hn:n≤1000000)(h0:0≤s.bl)(h1:s.bl≤1000000):
  Calls prog 77 #[.pointer (some ⟨St,0,none⟩)] w fun e w'=>e=.returned (.int .i64 ((n:Int)-2-s.bl))∧Kp [] w w':=by
 have hSs:=ζ hSt;have hVs:=ζ hV;go_enter func77,ntmps77;go_wp2_with fail;have hS0:w.heap[St]?=some (ν lk s)∧w.heap[s.V]?=some (qC5 A n):=⟨hSt,hV⟩;refine wp_region_held_drew (S:=fun W=>W.heap[St]?=some (ν lk s)∧W.heap[s.V]?=some (qC5 A n)) (by kernel_rfl) hS0 (fun _=>?_);refine zP 0 St 0 hS0 ?_;refine zP 1 St 0 hS0 ?_;refine zP 2 St 2 hS0 ?_;refine zV 3 (.pointer (some ⟨s.V,0,none⟩)) rfl (fun W hS=>by have c:=ξ hS.1 2;simp only[ν,zG,zH,zI] at c;clear hS;go_simp) hS0 ?_;refine zP 6 St 0 hS0 ?_;refine zP 7 St 0 hS0 ?_;refine zP 8 St 6 hS0 ?_;refine zV 9 (.int .i64 s.bl) rfl (fun W hS=>by have c:=ξ hS.1 6;simp only[ν,zG,zH,zI] at c;clear hS;go_simp) hS0 ?_;refine zq 4 fun K hK=>?_;go_simp;refine (jH4 s.V A n w.drew hV).mono ?_;rintro e w1 ⟨rfl,rfl⟩;refine hK.out _ _ hS0 (fun _=>?_);clear hK K
 try simp only[zZ]
 have hwr1:IntKind.i64.wrap ((n:Int)-2)=(n:Int)-2:=by rw[IntKind.wrap_i64];omega
 have hwr2:IntKind.i64.wrap ((n:Int)-2-s.bl)=(n:Int)-2-s.bl:=by rw[IntKind.wrap_i64];omega
 refine zU 5 (.int .i64 ((n:Int)-2)) hS0 ?_;refine zU 10 (.int .i64 ((n:Int)-2-s.bl)) hS0 ?_;refine zU 11 (.int .i64 ((n:Int)-2-s.bl)) hS0 ?_;refine zd ?_;clear hwr1 hwr2;go_wp2;go_ret;exact⟨rfl,(Kp.refl _ _).drew⟩
theorem RGood.slim{n:Nat}{l:Lnk (Tn n)}(h:RGood (.at n l))(hc:(cont n l.sub).length≤1000000):qS2 n l.sub∧qG6 n l.sub≤1000000:=by
 obtain⟨_,h2,_⟩:=h;have:=qX5 n _ _ h2;exact⟨qH1 n _ _ h2,by omega⟩
theorem qO1(E:Env)(r:Root)(h:HL)(w:World)(hr:RR E w h r)(hg:RGood r)(hsz:r.cont.length≤1000000):
  Calls prog 76 #[υ E.V h] w fun e w'=>e=.returned (.int .i64 (r.news:Nat))∧Kp [] w w':=by
 cases r with
 | none=>
  have hh:h=⟨⟨#[]⟩,0,0,none⟩:=hr;subst hh;have hc:∀ W:World,Calls prog 120 #[.agg #[.string ⟨#[]⟩,.int .i64 0,.int .u64 0,.pointer none]] W fun e w'=>e=.returned (.int .i64 0)∧Kp [] W w':=by
   intro W;go_enter func120,ntmps120;go_wp2;go_ret;exact⟨rfl,(Kp.refl _ _).alloc _⟩
  have HC:=zh hc;clear hc;have hp:HL.ptr ⟨⟨#[]⟩,0,0,none⟩=none:=rfl;rw[υ,hp];go_enter func76,ntmps76;go_wp2_with fail;refine (HC.out _).mono ?_;rintro e w1 ⟨rfl,hK1⟩;have hK1':Kp [] w w1:=((Kp.refl _ _).alloc _).tr hK1;go_wp2;go_ret;exact⟨rfl,hK1'⟩
 | «at» n l=>
  have hs:=RGood.slim hg hsz;exact jG3 E.O E.V n h l w hr hs.1 hs.2
end Go.Proofs.YtdohpenfkdckiaaGreatDoor
