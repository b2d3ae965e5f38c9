import Derived.Test.YtdohpenfkdckiabGreatDoorB01
import Derived.Lib.AppendZerosOnto
import Derived.Lib.SliceRun
import Derived.Laws.AppendOwnNone
import Derived.BigRegion
import Derived.Deep.RegionLaw
import Derived.Deep.RegionLawGrows
set_option linter.all false
set_option maxRecDepth 100000
set_option maxHeartbeats 20000000
namespace Go.Proofs.YtdohpenfkdckiabGreatDoor
open Go.Proofs.Tryz
open Go.RowKit
theorem qG5{w:World}{base:Nat}{T:TypeId}{sz:Nat}{v:Value}{n:Nat}{xs:List Value}(h:w.ownsRow base T sz v n xs):Slc w T sz v n xs:=by
 refine⟨h.1,?_⟩;rcases h.2 with⟨h1,h2⟩|⟨g,cap,cur,h1,h2,h3,h4,h5,h6,h7⟩
 ·exact .inl ⟨h2,_,_,h1,fun _=>rfl⟩
 ·by_cases h0:n=0
  ·subst h0;exact .inl ⟨rfl,_,_,h1,by simp⟩
  ·refine .inr ⟨g,0,cap,cur,(0,0),h1,by omega,h4,h3,fun j u hu=>?_⟩;rw[←h7,List.getElem?_take] at hu;split at hu
   ·simpa using hu
   ·cases hu
theorem Slc.form{w:World}{T:TypeId}{sz:Nat}{v:Value}{n:Nat}{cs:List Value}(h:Slc w T sz v n cs):∃ b m c,v=.slice b m c:=by
 rcases h.val with⟨_,b,c,h1,_⟩|⟨g,off,cap,cur,fr,h1,_⟩
 ·exact⟨b,0,c,h1⟩
 ·exact⟨_,_,cap,h1⟩
def qC7{α:Type}(low:α→ByteArray)(key:ByteArray):List (List α)→List (ByteArray × List α)
 | []=>[]
 | a::rest=>(key,a)::rest.map fun b=>((b.head?.map low).getD ⟨#[]⟩,b)
theorem qM6{α:Type}(low:α→ByteArray)(key:ByteArray)(l:List (List α)):(qC7 low key l).length=l.length:=by
 cases l<;>simp[qC7]
theorem qX3{α:Type}{low:α→ByteArray}{key:ByteArray}{l:List (List α)}{i:Nat}(h:i<l.length):(qC7 low key l)[i]?=some (if i=0 then key else (l[i].head?.map low).getD ⟨#[]⟩,l[i]):=by
 cases l with
 | nil=>simp at h
 | cons a r=>
  cases i with
  | zero=>simp[qC7]
  | succ i=>
   have h':i<r.length:=by simpa using h
   simp[qC7,List.getElem?_eq_getElem h']
def MkL{α:Type}(T:TypeId)(sz:Nat)(C:List α→List Value)(node:Value→Obj)(w0 w:World)(h:HL)(x:ByteArray × List α):Prop:=
 h.key=x.1∧h.b=0∧h.s=0∧∃ q v,h.p=some q∧w.heap[q]?=some (node v)∧Slc w0 T sz v x.2.length (C x.2)
theorem qX0{w w':World}{base:Nat}{T:TypeId}{sz:Nat}{v:Value}{n:Nat}{xs:List Value}{o:Obj}{k:Nat}{c:Array Value}{t:TypeId}{fr:Nat × Nat}(h:w.ownsRow base T sz v n xs)(hg:(w.alloc o).grownBy w' v.ownBlock)(hk:w.heap[k]?=some (.cells c t fr))(ht:t≠T):w'.heap[k]?=some (.cells c t fr):=by
 have hk':=θ o hk;refine (hg.block k (η hk') ?_).trans hk';intro e;rcases h.2 with⟨h1,_⟩|⟨g,cap,cur,h1,h2,h3,_⟩
 ·rw[h1] at e;cases e
 ·rw[h1] at e;have e:k=g:=by simpa [Value.ownBlock] using e
  rw[e,h3] at hk;cases hk;exact ht rfl
theorem MkL.grown{α:Type}{T:TypeId}{sz:Nat}{C:List α→List Value}{node:Value→Obj}{w0 w w':World}{h:HL}{x:ByteArray × List α}(hm:MkL T sz C node w0 w h x)(hn:∀ v,∃ c,node v=.cells c 152)(hg:∀ (k:Nat) (c:Array Value),w.heap[k]?=some (.cells c 152)→w'.heap[k]?=some (.cells c 152)):MkL T sz C node w0 w' h x:=by
 obtain⟨h1,h2,h3,q,v,h4,h5,h6⟩:=hm;obtain⟨c,hc⟩:=hn v;rw[hc] at h5;exact⟨h1,h2,h3,q,v,h4,by rw[hc];exact hg q c h5,h6⟩
theorem qY6{w w':World}{base:Nat}{T:TypeId}{sz:Nat}{v:Value}{n:Nat}{xs:List Value}(h:w.ownsRow base T sz v n xs)(hK:Kp [] w w'):w'.ownsRow base T sz v n xs:=by
 refine⟨h.1,?_⟩;rcases h.2 with h0|⟨g,cap,cur,h1,h2,h3,h4⟩
 ·exact .inl h0
 ·exact .inr ⟨g,cap,cur,h1,h2,hK.hp h3,h4⟩
theorem qN7:(prog.info? 81).map (fun i=>(i.zero,i.size,i.bytes))=some (some (.agg #[.string ⟨#[]⟩,.int .i64 0,.int .u64 0,.pointer none]),4,40):=by kernel_rfl
theorem zC9:(prog.info? 158).map (fun i=>(i.zero,i.size,i.bytes))=some (some (.agg #[.string ⟨#[]⟩,.string ⟨#[]⟩]),2,32):=by kernel_rfl
theorem zP7(hs:List HL)(h:HL):qA2 (hs++[h])=qA2 hs++lcs h:=by simp[qA2]
theorem qW0{w:World}{cs:List Value}{T:TypeId}:∀ j u,cs[j]?=some u→(w.alloc (.cells cs.toArray T)).cell? ((⟨w.heap.size,0,none⟩:Addr).add j)=some u:=by
 intro j u hu;rw[qJ8,Nat.zero_add,ξ (μ _ _)];simpa using hu
theorem xH8(g:Nat)(cap:Array Value)(node:Value→Obj)(key:ByteArray)(v:Value)(ps:List KV)(w:World)(hs:Slc w 158 2 v ps.length (qA7 ps))(hn:ps.length≤1000000)(hz:∀ p∈ps,κ p≤21)(hm:meas κ ps≤210)
  (hcf:∀ (args:Array Value) (W:World),Sem.run prog (callFunc g args) W=.ok (.enter g args) W) (hnode:∀ v,∃ c,node v=.cells c 152)
  (hmade:∀ W x,Kp [] w W→(∃ b n c,x=.slice b n c)→Calls prog g (#[x]++cap) W fun e W'=>∃ q,e=.returned (.pointer (some ⟨q,0,none⟩))∧W'.heap[q]?=some (node x)∧Kp [] W W'):
  Calls prog 133 #[.string key,v,.func (.func g) #[] cap] w fun e w'=>∃ v',e=.returned v'∧∃ hs,w'.ownsRow w.heap.size 81 4 v' (qB2 κ ps).length (qA2 hs)∧hs.length=(qB2 κ ps).length∧(∀ i (h:i<hs.length) (h':i<(qC7 KV.k key (qB2 κ ps)).length),MkL 158 2 qA7 node w w' hs[i] (qC7 KV.k key (qB2 κ ps))[i])∧Kp [] w w':=by
 obtain⟨i0,hi,hz0,hz1,hz2⟩:=info_parts qN7;have HM:=zh hmade;have HNO:=zh hnode;have HL0:Hid (∀ l∈qB2 κ ps,(qB2 κ ps).length=1∨3≤l.length):=by
  rcases qX1 κ ps hz hm with⟨e,_⟩|⟨a,b,e,_,_,_,h1,h2⟩
  ·show ∀ l∈qB2 κ ps,_;rw[e];intro l _;exact .inl rfl
  ·show ∀ l∈qB2 κ ps,_;rw[e];intro l hl;simp only[List.mem_cons,List.not_mem_nil,or_false] at hl;rcases hl with rfl|rfl
   ·exact .inr h1
   ·exact .inr h2
 have hlen2:(qB2 κ ps).length≤2:=by unfold qB2;split<;>simp
 clear hmade hnode;go_enter func133,ntmps133;go_wp2_with fail;refine (xL5 v ps w hs hn hz (by omega)).mono ?_;rintro e w1 ⟨gh,vs,rfl,hH1,hS1,hK1⟩;obtain⟨hvl,hvs⟩:=hS1;obtain⟨hv,hhv⟩:∃ hv,qB2 κ ps=hv:=⟨_,rfl⟩;have HH:=zh hhv;rw[hhv] at hvl hvs hlen2 HL0 ⊢;clear hhv;rw[List.length_map] at hvl;have HVS:Hid (∀ i (h:i<hv.length) (h':i<vs.length),Slc w 158 2 vs[i] hv[i].length (qA7 hv[i])):=fun i h h'=>by
  have:=hvs i (by simpa using h) h';simpa using this
 clear hvs;have HK1:=zh hK1;have HB:=zh hK1.size;have H1:=zh hH1;clear hK1 hs hH1;go_wp2
 go_loopw [0,7,13] (fun k s i wr=>∃ (j:Nat) (hs:List HL) (k':ByteArray),j≤hv.length∧i=.int .i64 j∧k=.string k'∧(j=0→k'=key)∧hs.length=j∧wr.ownsRow w.heap.size 81 4 s j (qA2 hs)∧Hid (∀ i (h:i<hs.length) (h':i<(qC7 KV.k key hv).length),MkL 158 2 qA7 node w wr hs[i] (qC7 KV.k key hv)[i])∧Hid (Kp [] w wr)∧wr.heap[gh]?=some (.cells vs.toArray 149)) (fun _ _ i _=>hv.length-(intOf i).toNat)
 case atStart=>exact⟨0,[],key,Nat.zero_le _,rfl,rfl,fun _=>rfl,rfl,World.ownsRow_nil _ _ _ _,(fun i h=>by simp at h:∀ i (h:i<[].length) (h':i<(qC7 KV.k key hv).length),_),HK1.out,H1.out⟩
 case round=>
  obtain⟨j,hs,k',hj,rfl,rfl,hk',hsl,hown,hMk,hKw,hHr⟩:=hrel;by_cases hlt:j<hv.length
  ·have hjb:(j:Int)<(hv.length:Int):=by omega
   have hvj:=HVS.out j hlt (by omega);have h0:=ξ hHr j;rw[zG,List.getElem?_eq_getElem (show j<vs.length by omega)] at h0;have hghs:=η hHr;have hne:0<j→1≤hv[j].length:=fun h=>by
    rcases HL0.out hv[j] (List.getElem_mem hlt) with h1|h1<;>omega
   obtain⟨kj,hkj⟩:∃ kj,kj=if j=0 then key else (hv[j].head?.map KV.k).getD ⟨#[]⟩:=⟨_,rfl⟩
   have hKJ:(qC7 KV.k key hv)[j]?=some (kj,hv[j]):=by rw[qX3 hlt,hkj]
   obtain⟨vj,hvj0⟩:∃ vj,vs[j]=vj:=⟨_,rfl⟩;rw[hvj0] at hvj h0;have HSJ:=zh hvj;have HHR:=zh hHr;have HEND:Hid (∀ (W1 w2:World) (q:Nat) (s v1:Value) (o:Obj) (x:Int),x=(j:Int)+1→W1.heap[q]?=some (node vj)→Kp [] wr W1→W1.ownsRow w.heap.size 81 4 s j (qA2 hs)→w2.ownsRow w.heap.size 81 4 v1 (j+1) (qA2 hs++[.string kj,.int .i64 0,.int .u64 0,.pointer (some ⟨q,0,none⟩)])→(W1.alloc o).grownBy w2 s.ownBlock→
     ∃ (j':Nat) (hs':List HL) (k'':ByteArray),j'≤hv.length∧Value.int .i64 x=.int .i64 j'∧Value.string kj=.string k''∧(j'=0→k''=key)∧hs'.length=j'∧w2.ownsRow w.heap.size 81 4 v1 j' (qA2 hs')∧Hid (∀ i (h:i<hs'.length) (h':i<(qC7 KV.k key hv).length),MkL 158 2 qA7 node w w2 hs'[i] (qC7 KV.k key hv)[i])∧Hid (Kp [] w w2)∧w2.heap[gh]?=some (.cells vs.toArray 149)):=by
    show ∀ (W1 w2:World) (q:Nat) (s v1:Value) (o:Obj) (x:Int),_;intro W1 w2 q s v1 o x hx hq hKW hown1 hrow hg;have hgn:∀ (k:Nat) (c:Array Value),W1.heap[k]?=some (.cells c 152)→w2.heap[k]?=some (.cells c 152):=fun k c hk=>qX0 hown1 hg hk (by decide);obtain⟨cn,hcn⟩:=HNO.out vj;have hq2:w2.heap[q]?=some (node vj):=by rw[hcn];rw[hcn] at hq;exact hgn q cn hq
    have hMk2:∀ i (h:i<hs.length) (h':i<(qC7 KV.k key hv).length),MkL 158 2 qA7 node w w2 hs[i] (qC7 KV.k key hv)[i]:=fun i h h'=>
     (hMk.out i h h').grown HNO.out fun k c hk=>hgn k c (hKW.hp hk)
    refine⟨j+1,hs++[⟨kj,0,0,some q⟩],kj,by omega,by rw[hx];go_num,rfl,by omega,by simp[hsl],by rw[zP7];exact hrow,?_,((hKw.out.tr hKW).alloc o).grown hg (fun k hk=>Or.inr (qG3 hown1 k hk)),qX0 hown1 hg (hKW.hp HHR.out) (by decide)⟩;show ∀ i (h:i<(hs++[(⟨kj,0,0,some q⟩:HL)]).length) (h':i<(qC7 KV.k key hv).length),_;intro i h1 h';by_cases hi:i<hs.length
    ·rw[List.getElem_append_left hi];exact hMk2 i hi h'
    ·have hij:i=j:=by simp at h1;omega
     subst hij;have e:(qC7 KV.k key hv)[i]=(kj,hv[i]):=by
      rw[List.getElem?_eq_getElem h'] at hKJ;exact Option.some.inj hKJ
     rw[e,List.getElem_append_right (by omega)];simp only[hsl,Nat.sub_self,List.getElem_singleton];exact⟨rfl,rfl,rfl,q,vj,rfl,hq2,HSJ.out⟩
   clear hKJ hMk;by_cases hj0:j=0
   ·have hk1:k'=kj:=by rw[hkj,if_pos hj0];exact hk' hj0
    subst hk1;clear hkj hk' hvj0 hvj hne;subst hj0;go_wp2_with fail;refine (HM.out wr vj hKw.out HSJ.out.form).mono ?_;rintro e W1 ⟨q,rfl,hq1,hKW1⟩;have hownW:=qY6 hown hKW1;have hsz:w.heap.size≤W1.heap.size:=Nat.le_trans hKw.out.size hKW1.size;have HQ:=zh hq1;clear hq1
    go_wp2_with (at_builtin;refine wpList_append_own _ rfl _ _ 150 rfl w.heap.size 81 i0 _ 4 40 underlying150 hi hz0 hz1 hz2 rfl (by decide) _ _ _ rfl (hownW.alloc _) ⟨W1.heap.size,0,none⟩ 1 1 [.string k',.int .i64 0,.int .u64 0,.pointer (some ⟨q,0,none⟩)] rfl rfl qW0 (by simp[Value.oneCell']) (by unfold maxLen;omega) (by omega) (by simp;omega) ?_;intro v1 w2 hown2 hgrow2 _)
    exact⟨HEND.out W1 w2 q _ v1 _ 1 (by omega) HQ.out hKW1 hownW hown2 hgrow2,by simp[intOf];omega⟩
   ·have hjg:(0:Int)<(j:Int):=by omega
    obtain⟨gb,off',cp',cur,fr,rfl,hcp,hrow,hcur⟩:=hvj.pair (hne (by omega));obtain⟨c0,c1⟩:=hcur 0 (hne (by omega));have hR:=hKw.out.hp hrow;have a0:wr.cell? ⟨gb,off',none⟩=some _:=(ξ hR _).trans (by simpa using c0);have a1:wr.cell? ⟨gb,off'+1,none⟩=some _:=(ξ hR _).trans (by simpa using c1);have hkj1:kj=KV.k (hv[j][0]'(hne (by omega))):=by
     rw[hkj,if_neg hj0];rw[List.head?_eq_getElem?,List.getElem?_eq_getElem (hne (by omega))];rfl
    have hgs:=η hR;have hlj:(0:Int)<(hv[j].length:Int):=by have:=hne (by omega);omega
    have HKJ1:=zh hkj1;clear hkj hk' hvj0 hvj hcur hkj1;go_wp2_with fail;refine (xR0 (hv[j][0]'(hne (by omega))) _).mono ?_;rintro e W0 ⟨rfl,hKW0⟩;rw[show (hv[j][0]'(hne (by omega))).k=kj from HKJ1.out.symm];go_wp2_with fail;refine (HM.out W0 _ (hKw.out.tr hKW0) ⟨_,_,_,rfl⟩).mono ?_;rintro e W1 ⟨q,rfl,hq1,hKW1⟩;have hKW01:Kp [] wr W1:=hKW0.tr hKW1;have hownW:=qY6 hown hKW01;have hsz:w.heap.size≤W1.heap.size:=Nat.le_trans hKw.out.size hKW01.size;have HQ:=zh hq1;clear hq1
    go_wp2_with (at_builtin;refine wpList_append_own _ rfl _ _ 150 rfl w.heap.size 81 i0 _ 4 40 underlying150 hi hz0 hz1 hz2 rfl (by decide) _ _ _ rfl (hownW.alloc _) ⟨W1.heap.size,0,none⟩ 1 1 [.string kj,.int .i64 0,.int .u64 0,.pointer (some ⟨q,0,none⟩)] rfl rfl qW0 (by simp[Value.oneCell']) (by unfold maxLen;omega) (by omega) (by simp;omega) ?_;intro v1 w2 hown2 hgrow2 _)
    exact⟨HEND.out W1 w2 q _ v1 _ _ rfl HQ.out hKW01 hownW hown2 hgrow2,by simp[intOf];omega⟩
  ·have hjb:¬(j:Int)<(hv.length:Int):=by omega
   go_wp2;go_ret;have e:j=hv.length:=by omega
   subst e;exact⟨_,rfl,hs,by rw[HH.out];exact hown,by rw[HH.out];exact hsl,by rw[HH.out];exact hMk.out,hKw.out⟩
theorem xH7(g:Nat)(cap:Array Value)(node:Value→Obj)(key:ByteArray)(v:Value)(ps:List HL)(w:World)(hs:Slc w 81 4 v ps.length (qA2 ps))(hn:ps.length≤1000000)(hz:∀ p∈ps,ψ p≤21)(hm:meas ψ ps≤210)
  (hcf:∀ (args:Array Value) (W:World),Sem.run prog (callFunc g args) W=.ok (.enter g args) W) (hnode:∀ v,∃ c,node v=.cells c 152)
  (hmade:∀ W x,Kp [] w W→(∃ b n c,x=.slice b n c)→Calls prog g (#[x]++cap) W fun e W'=>∃ q,e=.returned (.pointer (some ⟨q,0,none⟩))∧W'.heap[q]?=some (node x)∧Kp [] W W'):
  Calls prog 172 #[.string key,v,.func (.func g) #[] cap] w fun e w'=>∃ v',e=.returned v'∧∃ hs,w'.ownsRow w.heap.size 81 4 v' (qB2 ψ ps).length (qA2 hs)∧hs.length=(qB2 ψ ps).length∧(∀ i (h:i<hs.length) (h':i<(qC7 HL.key key (qB2 ψ ps)).length),MkL 81 4 qA2 node w w' hs[i] (qC7 HL.key key (qB2 ψ ps))[i])∧Kp [] w w':=by
 obtain⟨i0,hi,hz0,hz1,hz2⟩:=info_parts qN7;have HM:=zh hmade;have HNO:=zh hnode;have HL0:Hid (∀ l∈qB2 ψ ps,(qB2 ψ ps).length=1∨3≤l.length):=by
  rcases qX1 ψ ps hz hm with⟨e,_⟩|⟨a,b,e,_,_,_,h1,h2⟩
  ·show ∀ l∈qB2 ψ ps,_;rw[e];intro l _;exact .inl rfl
  ·show ∀ l∈qB2 ψ ps,_;rw[e];intro l hl;simp only[List.mem_cons,List.not_mem_nil,or_false] at hl;rcases hl with rfl|rfl
   ·exact .inr h1
   ·exact .inr h2
 have hlen2:(qB2 ψ ps).length≤2:=by unfold qB2;split<;>simp
 clear hmade hnode;go_enter func172,ntmps172;go_wp2_with fail;refine (xL4 v ps w hs hn hz (by omega)).mono ?_;rintro e w1 ⟨gh,vs,rfl,hH1,hS1,hK1⟩;obtain⟨hvl,hvs⟩:=hS1;obtain⟨hv,hhv⟩:∃ hv,qB2 ψ ps=hv:=⟨_,rfl⟩;have HH:=zh hhv;rw[hhv] at hvl hvs hlen2 HL0 ⊢;clear hhv;rw[List.length_map] at hvl;have HVS:Hid (∀ i (h:i<hv.length) (h':i<vs.length),Slc w 81 4 vs[i] hv[i].length (qA2 hv[i])):=fun i h h'=>by
  have:=hvs i (by simpa using h) h';simpa using this
 clear hvs;have HK1:=zh hK1;have HB:=zh hK1.size;have H1:=zh hH1;clear hK1 hs hH1;go_wp2
 go_loopw [0,7,13] (fun k s i wr=>∃ (j:Nat) (hs:List HL) (k':ByteArray),j≤hv.length∧i=.int .i64 j∧k=.string k'∧(j=0→k'=key)∧hs.length=j∧wr.ownsRow w.heap.size 81 4 s j (qA2 hs)∧Hid (∀ i (h:i<hs.length) (h':i<(qC7 HL.key key hv).length),MkL 81 4 qA2 node w wr hs[i] (qC7 HL.key key hv)[i])∧Hid (Kp [] w wr)∧wr.heap[gh]?=some (.cells vs.toArray 150)) (fun _ _ i _=>hv.length-(intOf i).toNat)
 case atStart=>exact⟨0,[],key,Nat.zero_le _,rfl,rfl,fun _=>rfl,rfl,World.ownsRow_nil _ _ _ _,(fun i h=>by simp at h:∀ i (h:i<[].length) (h':i<(qC7 HL.key key hv).length),_),HK1.out,H1.out⟩
 case round=>
  obtain⟨j,hs,k',hj,rfl,rfl,hk',hsl,hown,hMk,hKw,hHr⟩:=hrel;by_cases hlt:j<hv.length
  ·have hjb:(j:Int)<(hv.length:Int):=by omega
   have hvj:=HVS.out j hlt (by omega);have h0:=ξ hHr j;rw[zG,List.getElem?_eq_getElem (show j<vs.length by omega)] at h0;have hghs:=η hHr;have hne:0<j→1≤hv[j].length:=fun h=>by
    rcases HL0.out hv[j] (List.getElem_mem hlt) with h1|h1<;>omega
   obtain⟨kj,hkj⟩:∃ kj,kj=if j=0 then key else (hv[j].head?.map HL.key).getD ⟨#[]⟩:=⟨_,rfl⟩
   have hKJ:(qC7 HL.key key hv)[j]?=some (kj,hv[j]):=by rw[qX3 hlt,hkj]
   obtain⟨vj,hvj0⟩:∃ vj,vs[j]=vj:=⟨_,rfl⟩;rw[hvj0] at hvj h0;have HSJ:=zh hvj;have HHR:=zh hHr;have HEND:Hid (∀ (W1 w2:World) (q:Nat) (s v1:Value) (o:Obj) (x:Int),x=(j:Int)+1→W1.heap[q]?=some (node vj)→Kp [] wr W1→W1.ownsRow w.heap.size 81 4 s j (qA2 hs)→w2.ownsRow w.heap.size 81 4 v1 (j+1) (qA2 hs++[.string kj,.int .i64 0,.int .u64 0,.pointer (some ⟨q,0,none⟩)])→(W1.alloc o).grownBy w2 s.ownBlock→
     ∃ (j':Nat) (hs':List HL) (k'':ByteArray),j'≤hv.length∧Value.int .i64 x=.int .i64 j'∧Value.string kj=.string k''∧(j'=0→k''=key)∧hs'.length=j'∧w2.ownsRow w.heap.size 81 4 v1 j' (qA2 hs')∧Hid (∀ i (h:i<hs'.length) (h':i<(qC7 HL.key key hv).length),MkL 81 4 qA2 node w w2 hs'[i] (qC7 HL.key key hv)[i])∧Hid (Kp [] w w2)∧w2.heap[gh]?=some (.cells vs.toArray 150)):=by
    show ∀ (W1 w2:World) (q:Nat) (s v1:Value) (o:Obj) (x:Int),_;intro W1 w2 q s v1 o x hx hq hKW hown1 hrow hg;have hgn:∀ (k:Nat) (c:Array Value),W1.heap[k]?=some (.cells c 152)→w2.heap[k]?=some (.cells c 152):=fun k c hk=>qX0 hown1 hg hk (by decide);obtain⟨cn,hcn⟩:=HNO.out vj;have hq2:w2.heap[q]?=some (node vj):=by rw[hcn];rw[hcn] at hq;exact hgn q cn hq
    have hMk2:∀ i (h:i<hs.length) (h':i<(qC7 HL.key key hv).length),MkL 81 4 qA2 node w w2 hs[i] (qC7 HL.key key hv)[i]:=fun i h h'=>
     (hMk.out i h h').grown HNO.out fun k c hk=>hgn k c (hKW.hp hk)
    refine⟨j+1,hs++[⟨kj,0,0,some q⟩],kj,by omega,by rw[hx];go_num,rfl,by omega,by simp[hsl],by rw[zP7];exact hrow,?_,((hKw.out.tr hKW).alloc o).grown hg (fun k hk=>Or.inr (qG3 hown1 k hk)),qX0 hown1 hg (hKW.hp HHR.out) (by decide)⟩;show ∀ i (h:i<(hs++[(⟨kj,0,0,some q⟩:HL)]).length) (h':i<(qC7 HL.key key hv).length),_;intro i h1 h';by_cases hi:i<hs.length
    ·rw[List.getElem_append_left hi];exact hMk2 i hi h'
    ·have hij:i=j:=by simp at h1;omega
     subst hij;have e:(qC7 HL.key key hv)[i]=(kj,hv[i]):=by
      rw[List.getElem?_eq_getElem h'] at hKJ;exact Option.some.inj hKJ
     rw[e,List.getElem_append_right (by omega)];simp only[hsl,Nat.sub_self,List.getElem_singleton];exact⟨rfl,rfl,rfl,q,vj,rfl,hq2,HSJ.out⟩
   clear hKJ hMk;by_cases hj0:j=0
   ·have hk1:k'=kj:=by rw[hkj,if_pos hj0];exact hk' hj0
    subst hk1;clear hkj hk' hvj0 hvj hne;subst hj0;go_wp2_with fail;refine (HM.out wr vj hKw.out HSJ.out.form).mono ?_;rintro e W1 ⟨q,rfl,hq1,hKW1⟩;have hownW:=qY6 hown hKW1;have hsz:w.heap.size≤W1.heap.size:=Nat.le_trans hKw.out.size hKW1.size;have HQ:=zh hq1;clear hq1
    go_wp2_with (at_builtin;refine wpList_append_own _ rfl _ _ 150 rfl w.heap.size 81 i0 _ 4 40 underlying150 hi hz0 hz1 hz2 rfl (by decide) _ _ _ rfl (hownW.alloc _) ⟨W1.heap.size,0,none⟩ 1 1 [.string k',.int .i64 0,.int .u64 0,.pointer (some ⟨q,0,none⟩)] rfl rfl qW0 (by simp[Value.oneCell']) (by unfold maxLen;omega) (by omega) (by simp;omega) ?_;intro v1 w2 hown2 hgrow2 _)
    exact⟨HEND.out W1 w2 q _ v1 _ 1 (by omega) HQ.out hKW1 hownW hown2 hgrow2,by simp[intOf];omega⟩
   ·have hjg:(0:Int)<(j:Int):=by omega
    obtain⟨gb,off',cp',cur,fr,rfl,hcp,hrow,hcur⟩:=hvj.link (hne (by omega));obtain⟨c0,c1,c2,c3⟩:=hcur 0 (hne (by omega));have hR:=hKw.out.hp hrow;have a0:wr.cell? ⟨gb,off',none⟩=some _:=(ξ hR _).trans (by simpa using c0);have a1:wr.cell? ⟨gb,off'+1,none⟩=some _:=(ξ hR _).trans (by simpa using c1);have a2:wr.cell? ⟨gb,off'+2,none⟩=some _:=(ξ hR _).trans (by simpa using c2);have a3:wr.cell? ⟨gb,off'+3,none⟩=some _:=(ξ hR _).trans (by simpa using c3);have hkj1:kj=HL.key (hv[j][0]'(hne (by omega))):=by
     rw[hkj,if_neg hj0];rw[List.head?_eq_getElem?,List.getElem?_eq_getElem (hne (by omega))];rfl
    have hgs:=η hR;have hlj:(0:Int)<(hv[j].length:Int):=by have:=hne (by omega);omega
    have HKJ1:=zh hkj1;clear hkj hk' hvj0 hvj hcur hkj1;go_wp2_with fail;refine (xQ9 (hv[j][0]'(hne (by omega))) _).mono ?_;rintro e W0 ⟨rfl,hKW0⟩;rw[show (hv[j][0]'(hne (by omega))).key=kj from HKJ1.out.symm];go_wp2_with fail;refine (HM.out W0 _ (hKw.out.tr hKW0) ⟨_,_,_,rfl⟩).mono ?_;rintro e W1 ⟨q,rfl,hq1,hKW1⟩;have hKW01:Kp [] wr W1:=hKW0.tr hKW1;have hownW:=qY6 hown hKW01;have hsz:w.heap.size≤W1.heap.size:=Nat.le_trans hKw.out.size hKW01.size;have HQ:=zh hq1;clear hq1
    go_wp2_with (at_builtin;refine wpList_append_own _ rfl _ _ 150 rfl w.heap.size 81 i0 _ 4 40 underlying150 hi hz0 hz1 hz2 rfl (by decide) _ _ _ rfl (hownW.alloc _) ⟨W1.heap.size,0,none⟩ 1 1 [.string kj,.int .i64 0,.int .u64 0,.pointer (some ⟨q,0,none⟩)] rfl rfl qW0 (by simp[Value.oneCell']) (by unfold maxLen;omega) (by omega) (by simp;omega) ?_;intro v1 w2 hown2 hgrow2 _)
    exact⟨HEND.out W1 w2 q _ v1 _ _ rfl HQ.out hKW01 hownW hown2 hgrow2,by simp[intOf];omega⟩
  ·have hjb:¬(j:Int)<(hv.length:Int):=by omega
   go_wp2;go_ret;have e:j=hv.length:=by omega
   subst e;exact⟨_,rfl,hs,by rw[HH.out];exact hown,by rw[HH.out];exact hsl,by rw[HH.out];exact hMk.out,hKw.out⟩
def Both{α β:Type}(R:α→β→Prop)(a:List α)(b:List β):Prop:=a.length=b.length∧∀ i (h:i<a.length) (h':i<b.length),R a[i] b[i]
theorem Both.mono{α β:Type}{R R':α→β→Prop}{a:List α}{b:List β}(h:Both R a b)(hr:∀ x y,R x y→R' x y):Both R' a b:=⟨h.1,fun i h1 h2=>hr _ _ (h.2 i h1 h2)⟩
theorem Both.take{α β:Type}{R:α→β→Prop}{a:List α}{b:List β}(h:Both R a b)(k:Nat):Both R (a.take k) (b.take k):=
 ⟨by simp[h.1],fun i h1 h2=>by simp only[List.getElem_take];exact h.2 i (by simp at h1;omega) (by simp at h2;omega)⟩
theorem Both.drop{α β:Type}{R:α→β→Prop}{a:List α}{b:List β}(h:Both R a b)(k:Nat):Both R (a.drop k) (b.drop k):=
 ⟨by simp[h.1],fun i h1 h2=>by simp only[List.getElem_drop];exact h.2 _ (by simp at h1;omega) (by simp at h2;omega)⟩
theorem Both.append{α β:Type}{R:α→β→Prop}{a a':List α}{b b':List β}(h:Both R a b)(h':Both R a' b'):Both R (a++a') (b++b'):=
 ⟨by simp[h.1,h'.1],fun i h1 h2=>by
  have hl:=h.1;by_cases hi:i<a.length
  ·rw[List.getElem_append_left hi,List.getElem_append_left (by omega)];exact h.2 i hi (by omega)
  ·rw[List.getElem_append_right (by omega),List.getElem_append_right (by omega)];simp only[hl];exact h'.2 _ (by simp at h1;omega) (by simp at h2;omega)⟩
theorem Both.map_eq{α β γ:Type}{R:α→β→Prop}{a:List α}{b:List β}{f:α→γ}{g:β→γ}(h:Both R a b)(hr:∀ x y,R x y→f x=g y):a.map f=b.map g:=by
 refine List.ext_getElem (by simp[h.1]) fun i h1 h2=>?_;simp only[List.getElem_map];exact hr _ _ (h.2 i (by simpa using h1) (by simpa using h2))
def RLof{X:Type}(N:Nat→X→Prop)(O:Nat→Int→X→Prop)(h:HL)(l:Lnk X):Prop:=
 h.key=l.key∧match l.ref with
  | none=>h.b=0∧h.s=0∧∃ q,h.p=some q∧N q l.sub
  | some (b,s)=>h.b=b∧h.s=s∧h.p=none∧O b s l.sub
def zI7{X:Type}(N:Nat→X→Prop)(O:Nat→Int→X→Prop)(w:World)(v:Value)(ls:List (Lnk X)):Prop:=
 ∃ hs:List HL,Slc w 81 4 v hs.length (qA2 hs)∧Both (RLof N O) hs ls
abbrev qE1:Type:=(n:Nat)→Nat→Int→Tn n→Prop
def RN(O:qE1):(n:Nat)→World→Nat→Tn n→Prop
 | 0,w,q,t=>∃ vp,w.heap[q]?=some (υ 0 vp (.slice none 0 0))∧Slc w 158 2 vp (prs t).length (qA7 (prs t))
 | n+1,w,q,t=>∃ vl,w.heap[q]?=some (υ ((n+1:Nat):Int) (.slice none 0 0) vl)∧zI7 (RN O n w) (O n) w vl (ζ t)
abbrev RL(O:qE1)(n:Nat)(w:World)(h:HL)(l:Lnk (Tn n)):Prop:=RLof (RN O n w) (O n) h l
abbrev RLs(O:qE1)(n:Nat)(w:World)(v:Value)(ls:List (Lnk (Tn n))):Prop:=zI7 (RN O n w) (O n) w v ls
theorem RLof.mono{X:Type}{N N':Nat→X→Prop}{O O':Nat→Int→X→Prop}{h:HL}{l:Lnk X}(hr:RLof N O h l)(hN:∀ q,N q l.sub→N' q l.sub)(hO:∀ b s,O b s l.sub→O' b s l.sub):RLof N' O' h l:=by
 refine⟨hr.1,?_⟩;have:=hr.2
 cases hl:l.ref with
 | none=>
  rw[hl] at this;obtain⟨h1,h2,q,h3,h4⟩:=this;exact⟨h1,h2,q,h3,hN q h4⟩
 | some x=>
  rw[hl] at this;obtain⟨h1,h2,h3,h4⟩:=this;exact⟨h1,h2,h3,hO _ _ h4⟩
def qF4:List TypeId:=[152,158,81]
theorem Apt.sub{w:World}{S:List Nat}{Ts Ts':List TypeId}(h:Apt w S Ts)(hs:∀ t∈Ts',t∈Ts):Apt w S Ts':=fun k hk c t fr e hm=>h k hk c t fr e (hs t hm)
theorem RN.keep{O:qE1}{S:List Nat}{w w':World}(hK:Kp S w w')(hS:Apt w S qF4):∀ (n:Nat) (q:Nat) (t:Tn n),RN O n w q t→RN O n w' q t
 | 0,q,t,h=>by
  obtain⟨vp,h1,h2⟩:=h;exact⟨vp,hK.heap h1 (fun hm=>hS q hm _ _ _ h1 (by decide)),h2.keep hK (hS.sub (by decide))⟩
 | n+1,q,t,h=>by
  obtain⟨vl,h1,hs,h2,h3⟩:=h;exact⟨vl,hK.heap h1 (fun hm=>hS q hm _ _ _ h1 (by decide)),hs,h2.keep hK (hS.sub (by decide)),h3.mono fun x y hr=>hr.mono (fun q hq=>RN.keep hK hS n q _ hq) (fun _ _ h=>h)⟩
theorem RLs.keep{O:qE1}{S:List Nat}{w w':World}{n:Nat}{v:Value}{ls:List (Lnk (Tn n))}(h:RLs O n w v ls)(hK:Kp S w w')(hS:Apt w S qF4):RLs O n w' v ls:=by
 obtain⟨hs,h2,h3⟩:=h;exact⟨hs,h2.keep hK (hS.sub (by decide)),h3.mono fun x y hr=>hr.mono (fun q hq=>RN.keep hK hS n q _ hq) (fun _ _ h=>h)⟩
theorem RL.keep{O:qE1}{S:List Nat}{w w':World}{n:Nat}{h:HL}{l:Lnk (Tn n)}(hr:RL O n w h l)(hK:Kp S w w')(hS:Apt w S qF4):RL O n w' h l:=hr.mono (fun q hq=>RN.keep hK hS n q _ hq) (fun _ _ h=>h)
def qH2:Array Value:=#[.string ⟨#[]⟩,.int .i64 0,.int .u64 0,.pointer none]
def qV3(w:World)(S:List Nat):Prop:=∀ k∈S,∀ c t fr,w.heap[k]?=some (.cells c t fr)→t ∉ qF4∨(t=81∧c=qH2)
theorem xF1{α β:Type}{R:α→β→Prop}{a:List α}{b:List β}(h:Both R a b)(ha:1≤a.length):R (a[0]'ha) (b[0]'(by rw[←h.1];exact ha)):=h.2 0 _ _
theorem xC3{X:Type}{N:Nat→X→Prop}{O:Nat→Int→X→Prop}(pos:∀ (b:Nat) (s:Int) (t:X),O b s t→1≤b){S:List Nat}{w w':World}(hK:Kp S w w')(hS:qV3 w S){v:Value}{hs:List HL}{ls:List (Lnk X)}(h:Slc w 81 4 v hs.length (qA2 hs))(hb:Both (RLof N O) hs ls):Slc w' 81 4 v hs.length (qA2 hs):=by
 refine⟨h.len,?_⟩;rcases h.val with h|⟨g,off,cap,cur,fr,h1,h2,h3,h4,h5⟩
 ·exact .inl h
 ·refine .inr ⟨g,off,cap,cur,fr,h1,h2,h3,hK.heap h4 (fun hm=>?_),h5⟩;rcases hS g hm _ _ _ h4 with hx|⟨_,hx⟩
  ·exact hx (by decide)
  ·obtain⟨e0,e1,_,e3⟩:=qR1 (ls:=hs) (i:=0) h2;have d0:=h5 _ _ e0;have d1:=h5 _ _ e1;have d3:=h5 _ _ e3;rw[hx] at d0 d1 d3;have hoff:off=0:=by
    match off,d0 with
    | 0,_=>rfl
    | 1,d0=>simp[qH2] at d0
    | 2,d0=>simp[qH2] at d0
    | 3,d0=>simp[qH2] at d0
    | k+4,d0=>simp[qH2] at d0
   subst hoff;simp[qH2] at d1 d3;have hr:=xF1 hb h2;obtain⟨_,hr2⟩:=hr
   cases hl:(ls[0]'(by rw[←hb.1];exact h2)).ref with
   | none=>
    rw[hl] at hr2;obtain⟨_,_,q,hq,_⟩:=hr2;simp[HL.ptr,hq] at d3
   | some x=>
    rw[hl] at hr2;have:=pos _ _ _ hr2.2.2.2;rw[hr2.1] at d1;omega
theorem RN.keepZ{O:qE1}(pos:∀ (n b:Nat) (s:Int) (t:Tn n),O n b s t→1≤b){S:List Nat}{w w':World}(hK:Kp S w w')(hS:qV3 w S):∀ (n:Nat) (q:Nat) (t:Tn n),RN O n w q t→RN O n w' q t
 | 0,q,t,h=>by
  obtain⟨vp,h1,h2⟩:=h;have hn:∀ (k:Nat) (c:Array Value) (t:TypeId) (fr:Nat × Nat),w.heap[k]?=some (.cells c t fr)→t∈qF4→t≠81→k ∉ S:=fun k c t fr e ht hne hm=>by
   rcases hS k hm c t fr e with hx|⟨hx,_⟩
   ·exact hx ht
   ·exact hne hx
  refine⟨vp,hK.heap h1 (hn q _ _ _ h1 (by decide) (by decide)),h2.len,?_⟩;rcases h2.val with h|⟨g,off,cap,cur,fr,k1,k2,k3,k4,k5⟩
  ·exact .inl h
  ·exact .inr ⟨g,off,cap,cur,fr,k1,k2,k3,hK.heap k4 (hn g _ _ _ k4 (by decide) (by decide)),k5⟩
 | n+1,q,t,h=>by
  obtain⟨vl,h1,hs,h2,h3⟩:=h;refine⟨vl,hK.heap h1 (fun hm=>?_),hs,xC3 (pos n) hK hS h2 h3,h3.mono fun x y hr=>hr.mono (fun q hq=>RN.keepZ pos hK hS n q _ hq) (fun _ _ h=>h)⟩;rcases hS q hm _ _ _ h1 with hx|⟨hx,_⟩
  ·exact hx (by decide)
  ·cases hx
theorem qR3{α:Type}(low:α→ByteArray)(key:ByteArray)(l:List (List α)):(links low key l).length=l.length:=by
 cases l<;>simp[links]
theorem zQ5{α:Type}(low:α→ByteArray)(key:ByteArray)(l:List (List α)):links low key l=(qC7 low key l).map fun x=>⟨x.1,none,x.2⟩:=by
 cases l<;>simp[links,qC7]
theorem xQ1(x:Value)(w:World)(hx:∃ b n c,x=.slice b n c):
  Calls prog 134 #[x] w fun e w'=>∃ q,e=.returned (.pointer (some ⟨q,0,none⟩))∧w'.heap[q]?=some (υ 0 x (.slice none 0 0))∧Kp [] w w':=by
 obtain⟨b,n,c,rfl⟩:=hx;go_enter func134,ntmps134;go_wp2;go_ret;exact⟨w.heap.size,rfl,μ _ _,(Kp.refl _ _).alloc _⟩
theorem xF4(x:Value)(L:Nat)(lvl:Int)(w:World)(hx:∃ b n c,x=.slice b n c)(hL:w.heap[L]?=some (.cells #[.int .i64 lvl] 3)):
  Calls prog 173 #[x,.pointer (some ⟨L,0,none⟩)] w fun e w'=>∃ q,e=.returned (.pointer (some ⟨q,0,none⟩))∧w'.heap[q]?=some (υ lvl (.slice none 0 0) x)∧Kp [] w w':=by
 obtain⟨b,n,c,rfl⟩:=hx;have hLs:=η hL;have l0:=ξ hL 0;simp only[zG,zH,zI] at l0;go_enter func173,ntmps173;go_wp2;go_ret;exact⟨w.heap.size,rfl,μ _ _,(Kp.refl _ _).alloc _⟩
theorem qP9(O:qE1)(key:ByteArray)(v:Value)(ps:List KV)(w:World)(hs:Slc w 158 2 v ps.length (qA7 ps))(hn:ps.length≤1000000)(hz:∀ p∈ps,κ p≤21)(hm:meas κ ps≤210):
  Calls prog 93 #[.string key,v] w fun e w'=>∃ v',e=.returned v'∧RLs O 0 w' v' (qC8 key ps)∧Kp [] w w':=by
 have HC:Hid (∀ (args:Array Value) (W:World),Sem.run prog (callFunc 134 args) W=.ok (.enter 134 args) W):=fun args W=>by simp[go_sem,func134]
 go_enter func93,ntmps93;go_wp2_with fail;refine (xH8 134 #[] (fun x=>υ 0 x (.slice none 0 0)) key v ps w hs hn hz hm HC.out (fun v=>⟨_,rfl⟩) (fun W x _ hx=>xQ1 x W hx)).mono ?_;rintro e w1 ⟨v',rfl,hs1,hown,hlen,hMk,hK1⟩;go_wp2;go_ret;refine⟨v',rfl,⟨hs1,by rw[hlen];exact qG5 hown,?_⟩,hK1⟩;have e:qC8 key ps=(qC7 KV.k key (qB2 κ ps)).map fun x=>(⟨x.1,none,x.2⟩:Lnk (Tn 0)):=zQ5 _ _ _;refine⟨by rw[hlen,e,List.length_map,qM6],fun i h1 h2=>?_⟩;have h3:i<(qC7 KV.k key (qB2 κ ps)).length:=by rw[qM6];omega
 obtain⟨k1,k2,k3,q,x,k4,k5,k6⟩:=hMk i h1 h3;have e2:(qC8 key ps)[i]=(⟨(qC7 KV.k key (qB2 κ ps))[i].1,none,(qC7 KV.k key (qB2 κ ps))[i].2⟩:Lnk (Tn 0)):=by
  simp only[e];exact List.getElem_map _
 rw[e2];exact⟨k1,k2,k3,q,k4,x,k5,k6.keep0 hK1⟩
theorem zL2{α β:Type}{f:α→Nat}{g:β→Nat}(all:Nat):∀ (a:List α) (b:List β) (n:Nat),a.map f=b.map g→qD8 f all a n=qD8 g all b n
 | [],[],_,_=>rfl
 | [],_::_,_,h=>by simp at h
 | _::_,[],_,h=>by simp at h
 | x::a,y::b,n,h=>by
  simp only[List.map_cons,List.cons.injEq] at h;unfold qD8;rw[h.1,zL2 all a b _ h.2]
theorem zQ9{α β:Type}{f:α→Nat}{g:β→Nat}{a:List α}{b:List β}(h:a.map f=b.map g):meas f a=meas g b:=by unfold meas;rw[h]
theorem xF2{O:qE1}{n:Nat}{w:World}{hs:List HL}{ls:List (Lnk (Tn n))}(h:Both (RL O n w) hs ls):Both (Both (RL O n w)) (qB2 ψ hs) (qB2 qA0 ls):=by
 have e:hs.map ψ=ls.map qA0:=h.map_eq fun x y hr=>by unfold ψ qA0;rw[hr.1]
 have e1:=zQ9 e;have e2:qD8 ψ (meas ψ hs) hs 0=qD8 qA0 (meas qA0 ls) ls 0:=by rw[e1];exact zL2 _ _ _ _ e
 unfold qB2;rw[e2,e1];split
 ·exact⟨rfl,fun i h1 h2=>by
   have:i=0:=by simp at h1;omega
   subst this;exact h⟩
 ·refine⟨rfl,fun i h1 h2=>?_⟩;have:i=0∨i=1:=by simp at h1;omega
  rcases this with rfl|rfl
  ·exact h.take _
  ·exact h.drop _
theorem xF3{O:qE1}{n:Nat}{w:World}{hv:List (List HL)}{lv:List (List (Lnk (Tn n)))}(h:Both (Both (RL O n w)) hv lv)(key:ByteArray):Both (fun x y=>x.1=y.1∧Both (RL O n w) x.2 y.2) (qC7 HL.key key hv) (qC7 Lnk.key key lv):=by
 refine⟨by rw[qM6,qM6,h.1],fun i h1 h2=>?_⟩;rw[qM6] at h1 h2;have e1:=qX3 (low:=HL.key) (key:=key) h1;have e2:=qX3 (low:=Lnk.key) (key:=key) h2;rw[List.getElem?_eq_getElem (by rw[qM6];exact h1)] at e1;rw[List.getElem?_eq_getElem (by rw[qM6];exact h2)] at e2;rw[Option.some.inj e1,Option.some.inj e2];have hb:=h.2 i h1 h2;refine⟨?_,hb⟩;have hm:=hb.map_eq (f:=HL.key) (g:=Lnk.key) fun x y hr=>hr.1;have hh:(hv[i].head?.map HL.key)=(lv[i].head?.map Lnk.key):=by rw[←List.head?_map,←List.head?_map,hm]
 simp only[hh]
theorem qQ8(O:qE1)(n:Nat)(lvl:Int)(hlvl:lvl=((n+1:Nat):Int))(key:ByteArray)(v:Value)(ls:List (Lnk (Tn n)))(w:World)(hr:RLs O n w v ls)(hn:ls.length≤1000000)(hz:∀ l∈ls,qA0 l≤21)(hm:meas qA0 ls≤210):
  Calls prog 128 #[.string key,.int .i64 lvl,v] w fun e w'=>∃ v',e=.returned v'∧RLs O (n+1) w' v' (qC0 n key ls)∧Kp [] w w':=by
 have hmf:=zM;have HC:Hid (∀ (args:Array Value) (W:World),Sem.run prog (callFunc 173 args) W=.ok (.enter 173 args) W):=fun args W=>by simp[go_sem,func173]
 obtain⟨hs,hsl,hb⟩:=hr;have hmap:hs.map ψ=ls.map qA0:=hb.map_eq fun x y hr=>by unfold ψ qA0;rw[hr.1]
 have hz':∀ h∈hs,ψ h≤21:=fun h hh=>by
  have:ψ h∈hs.map ψ:=List.mem_map_of_mem hh;rw[hmap] at this;obtain⟨l,hl,e⟩:=List.mem_map.1 this;rw[←e];exact hz l hl
 have HB:=zh hb;have hml:meas ψ hs≤210:=by rw[zQ9 hmap];exact hm
 have hnl:hs.length≤1000000:=by rw[hb.1];exact hn
 clear hb hmap;have HV:=zh hlvl;clear hlvl;go_enter func128,ntmps128;go_wp2_with fail;have hL0:=μ w (.cells #[.int .i64 lvl] 3);have hK0:Kp [] w (w.alloc (.cells #[.int .i64 lvl] 3)):=(Kp.refl _ _).alloc _;refine (xH7 173 _ (fun x=>υ lvl (.slice none 0 0) x) key v hs _ (hsl.keep0 hK0) hnl hz' hml HC.out (fun v=>⟨_,rfl⟩) ?_).mono ?_
 ·intro W x hKW hx;exact xF4 x w.heap.size lvl W hx (hKW.hp hL0)
 rintro e w1 ⟨v',rfl,hs1,hown,hlen,hMk,hK1⟩;have hK1':Kp [] w w1:=hK0.tr hK1;go_wp2;go_ret;refine⟨v',rfl,⟨hs1,by rw[hlen];exact qG5 hown,?_⟩,hK1'⟩;have e:qC0 n key ls=(qC7 Lnk.key key (qB2 qA0 ls)).map fun x=>(⟨x.1,none,x.2⟩:Lnk (Tn (n+1))):=zQ5 _ _ _;have hk:=xF3 (xF2 HB.out) key;have hkl:=hk.1;refine⟨by rw[hlen,e,List.length_map,←hkl,qM6],fun i h1 h2=>?_⟩;have h3:i<(qC7 HL.key key (qB2 ψ hs)).length:=by rw[qM6];omega
 have h4:i<(qC7 Lnk.key key (qB2 qA0 ls)).length:=by rw[←hkl];exact h3
 obtain⟨k1,k2,k3,q,x,k4,k5,k6⟩:=hMk i h1 h3;obtain⟨m1,m2⟩:=hk.2 i h3 h4;have e2:(qC0 n key ls)[i]=(⟨(qC7 Lnk.key key (qB2 qA0 ls))[i].1,none,(qC7 Lnk.key key (qB2 qA0 ls))[i].2⟩:Lnk (Tn (n+1))):=by
  simp only[e];exact List.getElem_map _
 rw[e2];have hRL:RLs O n w1 x ((qC7 Lnk.key key (qB2 qA0 ls))[i].2):=⟨_,k6.keep0 hK1,m2.mono fun a b hr=>RL.keep hr hK1' (Apt.nil _ _)⟩;have hRN:RN O (n+1) w1 q ((qC7 Lnk.key key (qB2 qA0 ls))[i].2):=⟨x,by rw[←HV.out];exact k5,hRL⟩;have hkk:hs1[i].key=(qC7 Lnk.key key (qB2 qA0 ls))[i].1:=by rw[k1,m1]
 exact⟨hkk,k2,k3,q,k4,hRN⟩
theorem xU2(ps:List KV):∀ u∈qA7 ps,u.oneCell'=true:=by
 intro u hu;simp only[qA7,pcs,List.mem_flatMap,List.mem_cons,List.not_mem_nil,or_false] at hu;obtain⟨p,_,rfl|rfl⟩:=hu<;>rfl
theorem xP9(ps:List HL):∀ u∈qA2 ps,u.oneCell'=true:=by
 intro u hu;simp only[qA2,lcs,List.mem_flatMap,List.mem_cons,List.not_mem_nil,or_false] at hu;obtain⟨p,_,rfl|rfl|rfl|rfl⟩:=hu<;>rfl
theorem xU1(a b:List KV):qA7 (a++b)=qA7 a++qA7 b:=by simp[qA7]
theorem xP8(a b:List HL):qA2 (a++b)=qA2 a++qA2 b:=by simp[qA2]
theorem xJ4{α:Type}(l:List (List α))(j:Nat)(h:j<l.length):(l.take (j+1)).flatten=(l.take j).flatten++l[j]:=by
 rw[List.take_succ_eq_append_getElem h,List.flatten_append];simp only[List.flatten_cons,List.flatten_nil,List.append_nil]
theorem xJ5{α:Type}(l:List (List α))(j:Nat):(l.take j).flatten.length≤l.flatten.length:=by
 have h:=congrArg (fun l=>l.flatten.length) (List.take_append_drop j l);simp only[List.flatten_append,List.length_append] at h;omega
def qI9{α:Type}(l:List (List α))(j:Nat):List α:=(l.take j).flatten
def tot{α:Type}(l:List (List α))(j:Nat):Nat:=(qI9 l j).length
theorem zB6{α:Type}(l:List (List α))(j:Nat)(h:j<l.length):qI9 l (j+1)=qI9 l j++l[j]:=xJ4 l j h
theorem qZ5{α:Type}(l:List (List α))(j:Nat)(h:j<l.length):tot l (j+1)=tot l j+l[j].length:=by unfold tot;rw[zB6 l j h,List.length_append]
theorem zY6{α:Type}(l:List (List α))(j:Nat):tot l j≤l.flatten.length:=xJ5 l j
theorem qV8{α:Type}(l:List (List α)):qI9 l l.length=l.flatten:=by unfold qI9;rw[List.take_length]
theorem qZ7(z:Array Value)(n:Nat):(Builtin.zeroCells z n).size=z.size*n:=by
 simp[Builtin.zeroCells,Nat.mul_comm]
theorem xL3(n:Nat)(w:World)(hn:n≤1000000):
  Calls prog 195 #[.slice none 0 0,.int .i64 n] w fun e w'=>∃ v',e=.returned v'∧w'.ownsRow w.heap.size 158 2 v' 0 []∧Kp [] w w':=by
 obtain⟨i0,hi,hz0,hz1,hz2⟩:=info_parts zC9;by_cases h0:n=0
 ·subst h0;go_enter func195,ntmps195;go_wp2;go_ret;exact⟨_,rfl,World.ownsRow_nil _ _ _ _,Kp.refl _ _⟩
 ·have h1:¬((n:Int)<0):=by omega
  have h4:(0:Int)<(n:Int):=by omega
  have hrz:∀ ty,(Builtin.append_ #[149,3] ty #[.slice none 0 0,.int .i64 (n:Int)]).run prog w =
    .ok (.slice (some ⟨w.heap.size,0,none⟩) n (grownCap w n 0 158)) (w.drew.alloc (.cells (Builtin.zeroCells (Value.agg _).cells n++Builtin.zeroCells (Value.agg _).cells (grownCap w n 0 158-n)) 158)):=fun ty=>by
   have h:=Lib.run_append_grow_zeros (P:=prog) w 149 3 ty 158 i0 _ .i64 .i64 underlying149 underlying3 hi hz0 none 0 0 [] (run_firstCells_none w.drew i0.size 0 0 0) n (by omega) (by rw[hz1];decide) (by omega) (by omega) (by rw[hz2];omega) (by rw[hz2];exact growslice_fits (by omega) (by omega));simpa using h
  have hGn:n≤grownCap w n 0 158:=grownCap_ge w _ _ _;have hGm:=grownCap_le_maxLen w n 0 158 (by unfold maxLen;omega);obtain⟨G,hG⟩:∃ G,G=grownCap w n 0 158:=⟨_,rfl⟩;rw[←hG] at hrz hGn hGm;have hG63:G≤9223372036854775807:=by unfold maxLen at hGm;omega
  clear hG;go_enter func195,ntmps195
  go_wp2_with (at_builtin;refine Lib.wpList_append_run _ rfl _ _ _ _ rfl _ _ rfl rfl _ _ (hrz _) ?_)
  go_ret;refine⟨_,rfl,⟨rfl,.inr ⟨w.heap.size,G,_,rfl,Nat.le_refl _,μ _ _,Nat.zero_le _,hGm,?_,?_⟩⟩,((Kp.refl _ _).drew).alloc _⟩
  ·rw[Array.size_append,qZ7,qZ7];show 2*n+2*(G-n)=G*2;omega
  ·simp
theorem qW2(gs:Nat)(vs:List Value)(pss:List (List KV))(w:World)(hG:w.heap[gs]?=some (.cells vs.toArray 149))(hs:qS4 w 158 2 vs (pss.map fun l=>(l.length,qA7 l)))(ps:List KV)(hps:pss.flatten=ps)(hn:ps.length≤1000000)(hl:pss.length≤1000):
  Calls prog 174 #[.slice (some ⟨gs,0,none⟩) pss.length pss.length] w fun e w'=>∃ v',e=.returned v'∧w'.ownsRow w.heap.size 158 2 v' ps.length (qA7 ps)∧Kp [] w w':=by
 obtain⟨i0,hi,hz0,hz1,hz2⟩:=info_parts zC9;have hvl:vs.length=pss.length:=by have:=hs.1;rw[List.length_map] at this;exact this
 have HVS:Hid (∀ i (h:i<pss.length) (h':i<vs.length),Slc w 158 2 vs[i] pss[i].length (qA7 pss[i])):=fun i h h'=>by
  have:=hs.2 i (by simpa using h) h';simpa using this
 have HG:=zh hG;clear hs hG;have hall:ps.length=tot pss pss.length:=by unfold tot;rw[qV8,hps]
 rw[hall] at hn;have HALL:=zh hall;have HPS:Hid (qI9 pss pss.length=ps):=by show _=_;rw[qV8,hps]
 have hto:∀ j,tot pss j≤tot pss pss.length:=fun j=>by rw[←hall,←hps];exact zY6 pss j
 clear hall hps;go_enter func174,ntmps174;go_wp2
 go_loop [3,11] (fun s i=>∃ (j:Nat),j≤pss.length∧i=.int .i64 j∧s=.int .i64 (tot pss j:Nat)) (fun _ i=>pss.length-(intOf i).toNat)
 case atStart=>exact⟨0,Nat.zero_le _,rfl,rfl⟩
 case round=>
  obtain⟨j,hj,rfl,rfl⟩:=hrel;have hfl:=hto j;by_cases hlt:j<pss.length
  ·have hjb:(j:Int)<(pss.length:Int):=by omega
   have hvj:=HVS.out j hlt (by omega);have h0:=ξ HG.out j;rw[zG,List.getElem?_eq_getElem (show j<vs.length by omega)] at h0;have hgs:=η HG.out;obtain⟨bs,cp,hv⟩:∃ bs cp,vs[j]=.slice bs pss[j].length cp:=by
    rcases hvj.val with⟨h0,b,c,h1,_⟩|⟨g,off,cap,cur,fr,h1,_⟩
    ·rw[h0];exact⟨b,c,h1⟩
    ·exact⟨_,cap,h1⟩
   rw[hv] at h0;have HF:Hid (tot pss (j+1)=tot pss j+pss[j].length):=qZ5 pss j hlt;have hf1:=hto (j+1);rw[HF.out] at hf1;have hnn:¬((tot pss j:Nat):Int)+(pss[j].length:Int)<0:=by omega
   clear hvj hv;go_wp2;refine⟨⟨j+1,by omega,by go_num,by rw[HF.out];go_num⟩,by simp[intOf];omega⟩
  ·have hjb:¬(j:Int)<(pss.length:Int):=by omega
   have e:j=pss.length:=by omega
   subst e;go_wp2_with fail;refine (xL3 _ w hn).mono ?_;rintro e w1 ⟨v1,rfl,hown1,hK1⟩;have HK1:=zh hK1;have HO1:=zh hown1;clear hK1 hown1;go_wp2
   go_loopw [6,27] (fun s i wr=>∃ (j:Nat),j≤pss.length∧i=.int .i64 j∧wr.ownsRow w.heap.size 158 2 s (tot pss j) (qA7 (qI9 pss j))∧Kp [] w wr) (fun _ i _=>pss.length-(intOf i).toNat)
   case atStart=>exact⟨0,Nat.zero_le _,rfl,HO1.out,HK1.out⟩
   case round=>
    obtain⟨j,hj,rfl,hown,hK⟩:=hrel;by_cases hlt:j<pss.length
    ·have hjb:(j:Int)<(pss.length:Int):=by omega
     have hvj:=(HVS.out j hlt (by omega)).keep0 hK;have hGr:=hK.hp HG.out;have h0:=ξ hGr j;rw[zG,List.getElem?_eq_getElem (show j<vs.length by omega)] at h0;have hgs:=η hGr;have HT:Hid (tot pss (j+1)=tot pss j+pss[j].length):=qZ5 pss j hlt;have HF:Hid (qA7 (qI9 pss (j+1))=qA7 (qI9 pss j)++qA7 pss[j]):=by show _=_;rw[zB6 pss j hlt,xU1]
     have hf1:=hto (j+1);rw[HT.out] at hf1;have hsz:=hK.size;obtain⟨vj,hvj0⟩:∃ vj,vs[j]=vj:=⟨_,rfl⟩;rw[hvj0] at hvj h0;obtain⟨hln,hval⟩:=hvj;by_cases hnone:vj=.slice none 0 0
     ·have hl0:pss[j].length=0:=by
       rcases hval with⟨h0,_⟩|⟨g,off,cap,cur,fr,h1,_⟩
       ·exact h0
       ·rw[hnone] at h1;cases h1
      subst hnone;have HL0:=zh hl0;clear hval hln hvj0 hl0
      go_wp2_with (at_builtin;refine wpList_append_own_none rfl _ _ 149 rfl w.heap.size 158 i0 2 underlying149 hi _ _ _ rfl hown rfl ?_)
      refine⟨⟨j+1,by omega,by go_num,?_,hK⟩,by simp[intOf];omega⟩;rw[HT.out,HF.out,HL0.out,List.length_eq_zero_iff.1 HL0.out];simpa [qA7] using hown
     ·obtain⟨ad,cp,hv⟩:∃ ad cp,vj=.slice (some ad) pss[j].length cp:=by
       rcases hval with⟨h0,b,c,h1,h2⟩|⟨g,off,cap,cur,fr,h1,_⟩
       ·rw[h0]
        cases b with
        | none=>rw[h2 rfl] at h1;exact absurd h1 hnone
        | some a=>exact⟨a,c,h1⟩
       ·exact⟨_,cap,h1⟩
      have hcell:∀ k u,(qA7 pss[j])[k]?=some u→wr.cell? (ad.add k)=some u:=by
       intro k u hu;rcases hval with⟨h0,_⟩|⟨g,off,cap,cur,fr,h1,_,_,h4,h5⟩
       ·rw[List.length_eq_zero_iff.1 h0] at hu;simp[qA7] at hu
       ·rw[hv] at h1;simp only[Value.slice.injEq,Option.some.injEq] at h1;rw[h1.1,qJ8,ξ h4];exact h5 k u hu
      subst hv;have HC:=zh hcell;clear hval hnone hvj0 hcell
      go_wp2_with (at_builtin;refine wpList_append_own _ rfl _ _ 149 rfl w.heap.size 158 i0 _ 2 32 underlying149 hi hz0 hz1 hz2 rfl (by decide) _ _ _ rfl hown ad pss[j].length cp (qA7 pss[j]) rfl hln HC.out (xU2 _) (by unfold maxLen;omega) (by omega) hsz ?_;intro v2 w2 hown2 hgrow2 _)
      refine⟨⟨j+1,by omega,by go_num,?_,hK.grown hgrow2 (fun k hk=>Or.inr (qG3 hown k hk))⟩,by simp[intOf];omega⟩;rw[HT.out,HF.out];exact hown2
    ·have hjb:¬(j:Int)<(pss.length:Int):=by omega
     have e:j=pss.length:=by omega
     go_wp2;go_ret;subst e;rw[HPS.out] at hown;exact⟨_,rfl,by rw[HALL.out];exact hown,hK⟩
theorem xL2(n:Nat)(w:World)(hn:n≤1000000):
  Calls prog 196 #[.slice none 0 0,.int .i64 n] w fun e w'=>∃ v',e=.returned v'∧w'.ownsRow w.heap.size 81 4 v' 0 []∧Kp [] w w':=by
 obtain⟨i0,hi,hz0,hz1,hz2⟩:=info_parts qN7;by_cases h0:n=0
 ·subst h0;go_enter func196,ntmps196;go_wp2;go_ret;exact⟨_,rfl,World.ownsRow_nil _ _ _ _,Kp.refl _ _⟩
 ·have h1:¬((n:Int)<0):=by omega
  have h4:(0:Int)<(n:Int):=by omega
  have hrz:∀ ty,(Builtin.append_ #[150,3] ty #[.slice none 0 0,.int .i64 (n:Int)]).run prog w =
    .ok (.slice (some ⟨w.heap.size,0,none⟩) n (grownCap w n 0 81)) (w.drew.alloc (.cells (Builtin.zeroCells (Value.agg _).cells n++Builtin.zeroCells (Value.agg _).cells (grownCap w n 0 81-n)) 81)):=fun ty=>by
   have h:=Lib.run_append_grow_zeros (P:=prog) w 150 3 ty 81 i0 _ .i64 .i64 underlying150 underlying3 hi hz0 none 0 0 [] (run_firstCells_none w.drew i0.size 0 0 0) n (by omega) (by rw[hz1];decide) (by omega) (by omega) (by rw[hz2];omega) (by rw[hz2];exact growslice_fits (by omega) (by omega));simpa using h
  have hGn:n≤grownCap w n 0 81:=grownCap_ge w _ _ _;have hGm:=grownCap_le_maxLen w n 0 81 (by unfold maxLen;omega);obtain⟨G,hG⟩:∃ G,G=grownCap w n 0 81:=⟨_,rfl⟩;rw[←hG] at hrz hGn hGm;have hG63:G≤9223372036854775807:=by unfold maxLen at hGm;omega
  clear hG;go_enter func196,ntmps196
  go_wp2_with (at_builtin;refine Lib.wpList_append_run _ rfl _ _ _ _ rfl _ _ rfl rfl _ _ (hrz _) ?_)
  go_ret;refine⟨_,rfl,⟨rfl,.inr ⟨w.heap.size,G,_,rfl,Nat.le_refl _,μ _ _,Nat.zero_le _,hGm,?_,?_⟩⟩,((Kp.refl _ _).drew).alloc _⟩
  ·rw[Array.size_append,qZ7,qZ7];show 4*n+4*(G-n)=G*4;omega
  ·simp
theorem qW1(gs:Nat)(vs:List Value)(pss:List (List HL))(w:World)(hG:w.heap[gs]?=some (.cells vs.toArray 150))(hs:qS4 w 81 4 vs (pss.map fun l=>(l.length,qA2 l)))(ps:List HL)(hps:pss.flatten=ps)(hn:ps.length≤1000000)(hl:pss.length≤1000):
  Calls prog 175 #[.slice (some ⟨gs,0,none⟩) pss.length pss.length] w fun e w'=>∃ v',e=.returned v'∧w'.ownsRow w.heap.size 81 4 v' ps.length (qA2 ps)∧Kp [] w w':=by
 obtain⟨i0,hi,hz0,hz1,hz2⟩:=info_parts qN7;have hvl:vs.length=pss.length:=by have:=hs.1;rw[List.length_map] at this;exact this
 have HVS:Hid (∀ i (h:i<pss.length) (h':i<vs.length),Slc w 81 4 vs[i] pss[i].length (qA2 pss[i])):=fun i h h'=>by
  have:=hs.2 i (by simpa using h) h';simpa using this
 have HG:=zh hG;clear hs hG;have hall:ps.length=tot pss pss.length:=by unfold tot;rw[qV8,hps]
 rw[hall] at hn;have HALL:=zh hall;have HPS:Hid (qI9 pss pss.length=ps):=by show _=_;rw[qV8,hps]
 have hto:∀ j,tot pss j≤tot pss pss.length:=fun j=>by rw[←hall,←hps];exact zY6 pss j
 clear hall hps;go_enter func175,ntmps175;go_wp2
 go_loop [3,11] (fun s i=>∃ (j:Nat),j≤pss.length∧i=.int .i64 j∧s=.int .i64 (tot pss j:Nat)) (fun _ i=>pss.length-(intOf i).toNat)
 case atStart=>exact⟨0,Nat.zero_le _,rfl,rfl⟩
 case round=>
  obtain⟨j,hj,rfl,rfl⟩:=hrel;have hfl:=hto j;by_cases hlt:j<pss.length
  ·have hjb:(j:Int)<(pss.length:Int):=by omega
   have hvj:=HVS.out j hlt (by omega);have h0:=ξ HG.out j;rw[zG,List.getElem?_eq_getElem (show j<vs.length by omega)] at h0;have hgs:=η HG.out;obtain⟨bs,cp,hv⟩:∃ bs cp,vs[j]=.slice bs pss[j].length cp:=by
    rcases hvj.val with⟨h0,b,c,h1,_⟩|⟨g,off,cap,cur,fr,h1,_⟩
    ·rw[h0];exact⟨b,c,h1⟩
    ·exact⟨_,cap,h1⟩
   rw[hv] at h0;have HF:Hid (tot pss (j+1)=tot pss j+pss[j].length):=qZ5 pss j hlt;have hf1:=hto (j+1);rw[HF.out] at hf1;have hnn:¬((tot pss j:Nat):Int)+(pss[j].length:Int)<0:=by omega
   clear hvj hv;go_wp2;refine⟨⟨j+1,by omega,by go_num,by rw[HF.out];go_num⟩,by simp[intOf];omega⟩
  ·have hjb:¬(j:Int)<(pss.length:Int):=by omega
   have e:j=pss.length:=by omega
   subst e;go_wp2_with fail;refine (xL2 _ w hn).mono ?_;rintro e w1 ⟨v1,rfl,hown1,hK1⟩;have HK1:=zh hK1;have HO1:=zh hown1;clear hK1 hown1;go_wp2
   go_loopw [6,27] (fun s i wr=>∃ (j:Nat),j≤pss.length∧i=.int .i64 j∧wr.ownsRow w.heap.size 81 4 s (tot pss j) (qA2 (qI9 pss j))∧Kp [] w wr) (fun _ i _=>pss.length-(intOf i).toNat)
   case atStart=>exact⟨0,Nat.zero_le _,rfl,HO1.out,HK1.out⟩
   case round=>
    obtain⟨j,hj,rfl,hown,hK⟩:=hrel;by_cases hlt:j<pss.length
    ·have hjb:(j:Int)<(pss.length:Int):=by omega
     have hvj:=(HVS.out j hlt (by omega)).keep0 hK;have hGr:=hK.hp HG.out;have h0:=ξ hGr j;rw[zG,List.getElem?_eq_getElem (show j<vs.length by omega)] at h0;have hgs:=η hGr;have HT:Hid (tot pss (j+1)=tot pss j+pss[j].length):=qZ5 pss j hlt;have HF:Hid (qA2 (qI9 pss (j+1))=qA2 (qI9 pss j)++qA2 pss[j]):=by show _=_;rw[zB6 pss j hlt,xP8]
     have hf1:=hto (j+1);rw[HT.out] at hf1;have hsz:=hK.size;obtain⟨vj,hvj0⟩:∃ vj,vs[j]=vj:=⟨_,rfl⟩;rw[hvj0] at hvj h0;obtain⟨hln,hval⟩:=hvj;by_cases hnone:vj=.slice none 0 0
     ·have hl0:pss[j].length=0:=by
       rcases hval with⟨h0,_⟩|⟨g,off,cap,cur,fr,h1,_⟩
       ·exact h0
       ·rw[hnone] at h1;cases h1
      subst hnone;have HL0:=zh hl0;clear hval hln hvj0 hl0
      go_wp2_with (at_builtin;refine wpList_append_own_none rfl _ _ 150 rfl w.heap.size 81 i0 4 underlying150 hi _ _ _ rfl hown rfl ?_)
      refine⟨⟨j+1,by omega,by go_num,?_,hK⟩,by simp[intOf];omega⟩;rw[HT.out,HF.out,HL0.out,List.length_eq_zero_iff.1 HL0.out];simpa [qA2] using hown
     ·obtain⟨ad,cp,hv⟩:∃ ad cp,vj=.slice (some ad) pss[j].length cp:=by
       rcases hval with⟨h0,b,c,h1,h2⟩|⟨g,off,cap,cur,fr,h1,_⟩
       ·rw[h0]
        cases b with
        | none=>rw[h2 rfl] at h1;exact absurd h1 hnone
        | some a=>exact⟨a,c,h1⟩
       ·exact⟨_,cap,h1⟩
      have hcell:∀ k u,(qA2 pss[j])[k]?=some u→wr.cell? (ad.add k)=some u:=by
       intro k u hu;rcases hval with⟨h0,_⟩|⟨g,off,cap,cur,fr,h1,_,_,h4,h5⟩
       ·rw[List.length_eq_zero_iff.1 h0] at hu;simp[qA2] at hu
       ·rw[hv] at h1;simp only[Value.slice.injEq,Option.some.injEq] at h1;rw[h1.1,qJ8,ξ h4];exact h5 k u hu
      subst hv;have HC:=zh hcell;clear hval hnone hvj0 hcell
      go_wp2_with (at_builtin;refine wpList_append_own _ rfl _ _ 150 rfl w.heap.size 81 i0 _ 4 40 underlying150 hi hz0 hz1 hz2 rfl (by decide) _ _ _ rfl hown ad pss[j].length cp (qA2 pss[j]) rfl hln HC.out (xP9 _) (by unfold maxLen;omega) (by omega) hsz ?_;intro v2 w2 hown2 hgrow2 _)
      refine⟨⟨j+1,by omega,by go_num,?_,hK.grown hgrow2 (fun k hk=>Or.inr (qG3 hown k hk))⟩,by simp[intOf];omega⟩;rw[HT.out,HF.out];exact hown2
    ·have hjb:¬(j:Int)<(pss.length:Int):=by omega
     have e:j=pss.length:=by omega
     go_wp2;go_ret;subst e;rw[HPS.out] at hown;exact⟨_,rfl,by rw[HALL.out];exact hown,hK⟩
theorem zF7(v vb:Value)(ps bs:List KV)(i j:Nat)(w:World)(hs:Slc w 158 2 v ps.length (qA7 ps))(hb:Slc w 158 2 vb bs.length (qA7 bs))(hij:i≤j)(hj:j≤ps.length)(h1:1≤ps.length)(hn:ps.length≤10000)(hnb:bs.length≤10000):
  Calls prog 130 #[v,.int .i64 i,.int .i64 j,vb] w fun e w'=>∃ v',e=.returned v'∧Slc w' 158 2 v' (ps.take i++bs++ps.drop j).length (qA7 (ps.take i++bs++ps.drop j))∧Kp [] w w':=by
 obtain⟨gb,off,cp,cur,fr,rfl,hcp,hrow,_⟩:=hs.pair h1;have hcs:∀ k u,(qA7 ps)[k]?=some u→cur[off+k]?=some u:=by
  rcases hs.val with⟨h0,_⟩|⟨g',off',cap',cur',fr',h1,_,_,h4,h5⟩
  ·omega
  ·simp only[Value.slice.injEq,Option.some.injEq,Addr.mk.injEq] at h1;obtain⟨⟨rfl,rfl,_⟩,_,_⟩:=h1;rw[hrow] at h4;cases h4;exact h5
 obtain⟨bb,bc,hvb⟩:∃ bb bc,vb=.slice bb bs.length bc:=by
  rcases hb.val with⟨h0,b,c,h1,_⟩|⟨g,off,cap,cur,fr,h1,_⟩
  ·rw[h0];exact⟨b,c,h1⟩
  ·exact⟨_,cap,h1⟩
 subst hvb;obtain⟨s3,hs3,hS3,hsl3⟩:∃ s3,(∃ q m c,s3=.slice (some q) m c)∧Slc w 158 2 s3 (ps.drop j).length (qA7 (ps.drop j))∧((j=cp∧s3=.slice (some ⟨gb,off,none⟩) 0 0)∨(j≠cp∧s3=.slice (some ⟨gb,off+j*2,none⟩) (ps.length-j) (cp-j))):=by
  by_cases hjc:j=cp
  ·refine⟨_,⟨_,_,_,rfl⟩,⟨?_,.inl ⟨?_,_,_,rfl,by simp⟩⟩,.inl ⟨hjc,rfl⟩⟩
   ·rw[zA3]
   ·simp;omega
  ·refine⟨_,⟨_,_,_,rfl⟩,?_,.inr ⟨hjc,rfl⟩⟩;have:=qO6 (T:=158) (sz:=2) hrow hcs hs.len j (ps.length-j) (cp-j) (by omega) (by omega);rw[←zW4,List.take_of_length_le (by rw[zA3];simp)] at this;simpa using this
 have hS1:Slc w 158 2 (.slice (some ⟨gb,off,none⟩) i cp) (ps.take i).length (qA7 (ps.take i)):=by
  have:=qO6 (T:=158) (sz:=2) hrow hcs hs.len 0 i cp (by omega) (by omega);simp only[Nat.zero_mul,Nat.add_zero,List.drop_zero] at this;rw[←zW5] at this;simpa [Nat.min_eq_left (show i≤ps.length by omega)] using this
 obtain⟨q3,m3,c3,rfl⟩:=hs3;have HS1:=zh hS1;have HS3:=zh hS3;have HB:=zh hb;have hi':(i:Int)≤(cp:Int):=by omega
 have hj':(j:Int)≤(ps.length:Int):=by omega
 have hjc:(j:Int)≤(cp:Int):=by omega
 have HSL:=zh hsl3;clear hS1 hS3 hb hs hsl3;go_enter func130,ntmps130;go_wp2_with fail;refine wp_region_any (by kernel_rfl) ?_;change wpAny _ _ _ _ _ _ _ (World.drew _);refine zu 0 (.slice (some ⟨gb,off,none⟩) ps.length cp) ?_;refine zu 1 (.int .i64 i) ?_;refine zu 2 (.slice (some ⟨gb,off,none⟩) i cp) ?_;refine zu 3 (.slice bb bs.length bc) ?_;refine zu 4 (.slice (some ⟨gb,off,none⟩) ps.length cp) ?_;refine zu 5 (.int .i64 j) ?_;refine wpAny_take (i:=6) (v:=.slice (some q3) m3 c3) rfl (by kernel_rfl) (by kernel_rfl) (by kernel_rfl) (fun _ _ _ h=>h) (Or.inl ⟨by rfl,fun w=>by
  rcases HSL.out with⟨e1,e2⟩|⟨e1,e2⟩
  ·have e3:ps.length=cp:=by omega
   rw[e2];subst e1;go_simp
  ·rw[e2];have hjn:¬cp=j:=fun e=>e1 e.symm;go_simp⟩) ?_
 try simp only[zZ]
 refine zQ 7 fun K hK=>?_;go_simp;obtain⟨w2,hw2,hG2,hK2⟩:∃ w2,w2=(w.alloc (.cells #[.slice (some ⟨gb,off,none⟩) i cp,.slice bb bs.length bc,.slice (some q3) m3 c3] 149)).drew∧w2.heap[w.heap.size]?=some (.cells #[.slice (some ⟨gb,off,none⟩) i cp,.slice bb bs.length bc,.slice (some q3) m3 c3] 149)∧Kp [] w w2:=⟨_,rfl,μ _ _,((Kp.refl _ _).alloc _).drew⟩;rw[←hw2];clear hw2;refine hK _ _ ?_;clear hK K
 try simp only[zZ]
 refine zQ 8 fun K hK=>?_;go_simp;refine (qW2 w.heap.size [.slice (some ⟨gb,off,none⟩) i cp,.slice bb bs.length bc,.slice (some q3) m3 c3] [ps.take i,bs,ps.drop j] w2 hG2 ⟨rfl,fun k h1 h2=>?_⟩ (ps.take i++bs++ps.drop j) (by simp) (by simp;omega) (by simp)).mono ?_
 ·have hk:k=0∨k=1∨k=2:=by simp at h1;omega
  rcases hk with rfl|rfl|rfl
  ·exact HS1.out.keep0 hK2
  ·exact HB.out.keep0 hK2
  ·exact HS3.out.keep0 hK2
 rintro e w3 ⟨v3,rfl,hown3,hK3⟩;have hK3':Kp [] w w3:=hK2.tr hK3;refine hK _ _ ?_;clear hK K
 try simp only[zZ]
 refine zQ 9 fun K hK=>?_;go_simp;refine hK _ _ ?_;clear hK K;refine wpAny_done (by kernel_rfl) ?_ _;have HO:Hid (Slc w3 158 2 v3 (ps.take i++bs++ps.drop j).length (qA7 (ps.take i++bs++ps.drop j))):=qG5 hown3;clear hown3;go_wp2;go_ret;have hO:=HO.out;exact⟨v3,rfl,by simpa using hO,hK3'⟩
theorem qO2(v vb:Value)(ps bs:List HL)(i j:Nat)(w:World)(hs:Slc w 81 4 v ps.length (qA2 ps))(hb:Slc w 81 4 vb bs.length (qA2 bs))(hij:i≤j)(hj:j≤ps.length)(h1:1≤ps.length)(hn:ps.length≤10000)(hnb:bs.length≤10000):
  Calls prog 131 #[v,.int .i64 i,.int .i64 j,vb] w fun e w'=>∃ v',e=.returned v'∧Slc w' 81 4 v' (ps.take i++bs++ps.drop j).length (qA2 (ps.take i++bs++ps.drop j))∧Kp [] w w':=by
 obtain⟨gb,off,cp,cur,fr,rfl,hcp,hrow,_⟩:=hs.link h1;have hcs:∀ k u,(qA2 ps)[k]?=some u→cur[off+k]?=some u:=by
  rcases hs.val with⟨h0,_⟩|⟨g',off',cap',cur',fr',h1,_,_,h4,h5⟩
  ·omega
  ·simp only[Value.slice.injEq,Option.some.injEq,Addr.mk.injEq] at h1;obtain⟨⟨rfl,rfl,_⟩,_,_⟩:=h1;rw[hrow] at h4;cases h4;exact h5
 obtain⟨bb,bc,hvb⟩:∃ bb bc,vb=.slice bb bs.length bc:=by
  rcases hb.val with⟨h0,b,c,h1,_⟩|⟨g,off,cap,cur,fr,h1,_⟩
  ·rw[h0];exact⟨b,c,h1⟩
  ·exact⟨_,cap,h1⟩
 subst hvb;obtain⟨s3,hs3,hS3,hsl3⟩:∃ s3,(∃ q m c,s3=.slice (some q) m c)∧Slc w 81 4 s3 (ps.drop j).length (qA2 (ps.drop j))∧((j=cp∧s3=.slice (some ⟨gb,off,none⟩) 0 0)∨(j≠cp∧s3=.slice (some ⟨gb,off+j*4,none⟩) (ps.length-j) (cp-j))):=by
  by_cases hjc:j=cp
  ·refine⟨_,⟨_,_,_,rfl⟩,⟨?_,.inl ⟨?_,_,_,rfl,by simp⟩⟩,.inl ⟨hjc,rfl⟩⟩
   ·rw[zE2]
   ·simp;omega
  ·refine⟨_,⟨_,_,_,rfl⟩,?_,.inr ⟨hjc,rfl⟩⟩;have:=qO6 (T:=81) (sz:=4) hrow hcs hs.len j (ps.length-j) (cp-j) (by omega) (by omega);rw[←zP6,List.take_of_length_le (by rw[zE2];simp)] at this;simpa using this
 have hS1:Slc w 81 4 (.slice (some ⟨gb,off,none⟩) i cp) (ps.take i).length (qA2 (ps.take i)):=by
  have:=qO6 (T:=81) (sz:=4) hrow hcs hs.len 0 i cp (by omega) (by omega);simp only[Nat.zero_mul,Nat.add_zero,List.drop_zero] at this;rw[←zP8] at this;simpa [Nat.min_eq_left (show i≤ps.length by omega)] using this
 obtain⟨q3,m3,c3,rfl⟩:=hs3;have HS1:=zh hS1;have HS3:=zh hS3;have HB:=zh hb;have hi':(i:Int)≤(cp:Int):=by omega
 have hj':(j:Int)≤(ps.length:Int):=by omega
 have hjc:(j:Int)≤(cp:Int):=by omega
 have HSL:=zh hsl3;clear hS1 hS3 hb hs hsl3;go_enter func131,ntmps131;go_wp2_with fail;refine wp_region_any (by kernel_rfl) ?_;change wpAny _ _ _ _ _ _ _ (World.drew _);refine zu 0 (.slice (some ⟨gb,off,none⟩) ps.length cp) ?_;refine zu 1 (.int .i64 i) ?_;refine zu 2 (.slice (some ⟨gb,off,none⟩) i cp) ?_;refine zu 3 (.slice bb bs.length bc) ?_;refine zu 4 (.slice (some ⟨gb,off,none⟩) ps.length cp) ?_;refine zu 5 (.int .i64 j) ?_;refine wpAny_take (i:=6) (v:=.slice (some q3) m3 c3) rfl (by kernel_rfl) (by kernel_rfl) (by kernel_rfl) (fun _ _ _ h=>h) (Or.inl ⟨by rfl,fun w=>by
  rcases HSL.out with⟨e1,e2⟩|⟨e1,e2⟩
  ·have e3:ps.length=cp:=by omega
   rw[e2];subst e1;go_simp
  ·rw[e2];have hjn:¬cp=j:=fun e=>e1 e.symm;go_simp⟩) ?_
 try simp only[zZ]
 refine zQ 7 fun K hK=>?_;go_simp;obtain⟨w2,hw2,hG2,hK2⟩:∃ w2,w2=(w.alloc (.cells #[.slice (some ⟨gb,off,none⟩) i cp,.slice bb bs.length bc,.slice (some q3) m3 c3] 150)).drew∧w2.heap[w.heap.size]?=some (.cells #[.slice (some ⟨gb,off,none⟩) i cp,.slice bb bs.length bc,.slice (some q3) m3 c3] 150)∧Kp [] w w2:=⟨_,rfl,μ _ _,((Kp.refl _ _).alloc _).drew⟩;rw[←hw2];clear hw2;refine hK _ _ ?_;clear hK K
 try simp only[zZ]
 refine zQ 8 fun K hK=>?_;go_simp;refine (qW1 w.heap.size [.slice (some ⟨gb,off,none⟩) i cp,.slice bb bs.length bc,.slice (some q3) m3 c3] [ps.take i,bs,ps.drop j] w2 hG2 ⟨rfl,fun k h1 h2=>?_⟩ (ps.take i++bs++ps.drop j) (by simp) (by simp;omega) (by simp)).mono ?_
 ·have hk:k=0∨k=1∨k=2:=by simp at h1;omega
  rcases hk with rfl|rfl|rfl
  ·exact HS1.out.keep0 hK2
  ·exact HB.out.keep0 hK2
  ·exact HS3.out.keep0 hK2
 rintro e w3 ⟨v3,rfl,hown3,hK3⟩;have hK3':Kp [] w w3:=hK2.tr hK3;refine hK _ _ ?_;clear hK K
 try simp only[zZ]
 refine zQ 9 fun K hK=>?_;go_simp;refine hK _ _ ?_;clear hK K;refine wpAny_done (by kernel_rfl) ?_ _;have HO:Hid (Slc w3 81 4 v3 (ps.take i++bs++ps.drop j).length (qA2 (ps.take i++bs++ps.drop j))):=qG5 hown3;clear hown3;go_wp2;go_ret;have hO:=HO.out;exact⟨v3,rfl,by simpa using hO,hK3'⟩
theorem qX5(c n:Int)(hc0:-9223372036854775808≤c)(hc1:c≤9223372036854775807)(h1:1≤n)(h2:n≤2147483648)(w:World):Calls prog 12 #[.int .i64 c,.int .i64 n] w fun e w'=>(∃ k:Int,e=.returned (.int .i64 k)∧0≤k∧k<n)∧w'=w:=by
 by_cases hn:c<0
 ·have e1:wrap64 (c+1)=c+1:=by simp only[wrap64];omega
  have e2:wrap64 (-(c+1))=-(c+1):=by simp only[wrap64];omega
  have e3:(-(c+1)).tmod n=(-(c+1)) % n:=Int.tmod_eq_emod_of_nonneg (by omega);have b1:=Int.emod_nonneg (-(c+1)) (show n≠0 by omega);have b2:=Int.emod_lt_of_pos (-(c+1)) (show 0<n by omega);have hn0:¬n=0:=by omega
  go_enter func12,ntmps12;go_wp2;go_ret;exact⟨⟨_,rfl,b1,b2⟩,rfl⟩
 ·have e3:c.tmod n=c % n:=Int.tmod_eq_emod_of_nonneg (by omega);have b1:=Int.emod_nonneg c (show n≠0 by omega);have b2:=Int.emod_lt_of_pos c (show 0<n by omega);have hn0:¬n=0:=by omega
  go_enter func12,ntmps12;go_wp2;go_ret;exact⟨⟨_,rfl,b1,b2⟩,rfl⟩
theorem zO2(n:Int)(h0:0≤n)(h1:n<2147483648)(w:World):Calls prog 25 #[.int .i64 n] w fun e w'=>(∃ k:Int,e=.returned (.int .i64 k)∧0≤k∧k<2147483648)∧w'=w:=by
 have e1:IntKind.i64.wrap (n*1103515245)=n*1103515245:=by rw[IntKind.wrap_i64];omega
 have e2:IntKind.i64.wrap (n*1103515245+12345)=n*1103515245+12345:=by rw[IntKind.wrap_i64];omega
 go_enter func25,ntmps25;go_wp2;go_ret;exact⟨⟨_,rfl,by omega,by omega⟩,rfl⟩
def φ(n C:Nat)(cache:Value)(calls writes:Int):Obj:=
 .cells #[.slice (some ⟨C,0,none⟩) n n,cache,.int .i64 calls,.int .i64 writes,.int .i64 0,.int .i64 (-1),.int .i64 0,.int .i64 0] 72
theorem qW6(A n C:Nat)(cache:Value)(calls writes:Int)(w:World)(h:w.heap[A]?=some (φ n C cache calls writes))(h0:0≤calls)(h1:calls≤1000000000):
  Calls prog 252 #[.pointer (some ⟨A,0,none⟩)] w fun e w'=>e=.returned (.bool false)∧w'=w.setCell ⟨A,2,none⟩ (.int .i64 (calls+1)):=by
 have c2:=ξ h 2;have c5:=ξ h 5;have c6:=ξ h 6;have c7:=ξ h 7;simp at c2 c5 c6 c7;have f2:=ν h 2;clear h;have hd:decide (calls<0)=false:=by simp;omega
 go_enter func252,ntmps252;go_wp2;go_ret;exact⟨rfl,rfl⟩
theorem qY5(A n C:Nat)(cache:Value)(calls writes:Int)(i:Int)(w:World)(h:w.heap[A]?=some (φ n C cache calls writes))(h0:0≤i)(h1:i<n):
  Calls prog 253 #[.pointer (some ⟨A,0,none⟩),.int .i64 i] w fun e w'=>e=.returned (.bool false)∧w'=w:=by
 have c0:=ξ h 0;simp at c0;clear h;go_enter func253,ntmps253;go_wp2;go_ret;exact⟨rfl,rfl⟩
theorem xF0(A n C:Nat)(cache:Value)(calls writes:Int)(w:World)(h:w.heap[A]?=some (φ n C cache calls writes)):
  Calls prog 33 #[.pointer (some ⟨A,0,none⟩)] w fun e w'=>e=.returned (.int .i64 n)∧w'=w:=by
 have c0:=ξ h 0;simp at c0;clear h;go_enter func33,ntmps33;go_wp2;go_ret;exact⟨rfl,rfl⟩
def allBytes(cs:Array Value):Prop:=∀ v∈cs.toList,∃ x,v=.int .u8 x
theorem allBytes.one{cs:Array Value}(h:allBytes cs):∀ v∈cs.toList,v.oneCell'=true:=fun v hv=>by obtain⟨x,rfl⟩:=h v hv;rfl
theorem qN6{cs:Array Value}(h:allBytes cs)(o n:Nat):allBytes (ι cs o n):=fun v hv=>h v (List.mem_of_mem_drop (List.mem_of_mem_take (by simpa [ι] using hv)))
theorem qH7{cs p:Array Value}(h:cs.size=p.size):qC6 cs 0 p=p:=by
 have e:cs.toList.drop p.size=[]:=List.drop_of_length_le (by simp[h]);simp[qC6,e]
theorem Tryz.size5:(prog.info? 5).map (·.size)=some 1:=by kernel_rfl
theorem xV2(A n C:Nat)(calls writes:Int)(i:Nat)(cs:Array Value)(w:World)(h:w.heap[A]?=some (φ n C (.slice none 0 0) calls writes))(h0:0≤calls)(h1:calls≤1000000000)
  (hi:i<n) (hn:n≤1000) (hC:w.heap[C]?=some (.cells cs 87)) (hs:cs.size=n*128) (hby:allBytes cs) (hAC:C≠A):
  Calls prog 250 #[.pointer (some ⟨A,0,none⟩),.int .i64 i] w fun e w'=>∃ g,e=.returned (.tuple #[.slice (some ⟨g,0,none⟩) 128 128,.nilIface])∧w.heap.size≤g∧
   w'.heap[g]?=some (.cells (ι cs (i*128) 128) 5)∧w'.heap[A]?=some (φ n C (.slice none 0 0) (calls+1) writes)∧Kp [A] w w':=by
 have c0:=ξ h 0;have c1:=ξ h 1;simp at c0 c1;have hA:=η h;have hCs:=η hC;go_enter func250,ntmps250;go_wp2_with fail;refine (qW6 A n C _ calls writes _ h h0 h1).mono ?_;rintro e w1 ⟨rfl,rfl⟩;go_wp2_with fail;refine (qY5 A n C (.slice none 0 0) (calls+1) writes i _ (ω h 2 _) (by omega) (by omega)).mono ?_;rintro e w1 ⟨rfl,rfl⟩
 go_wp2_with (refine zZ6 (.int .u8 0) (.int .u8 0) 1 1 underlying90 Tryz.info5 (by simp[Value.cells]) (by simp[Value.cells]) .i64 .i64 128 rfl rfl (by decide) (by decide) ?_;intro Z hZ hZ0)
 have hN:((w.setCell ⟨A,2,none⟩ (.int .i64 (calls+1))).alloc (.cells Z 5)).heap[w.heap.size]?=some (.cells Z 5):=by
  simpa using μ (w.setCell ⟨A,2,none⟩ (.int .i64 (calls+1))) (.cells Z 5)
 have hC':=θ (.cells Z 5) ((qB1 hAC 2 (.int .i64 (calls+1))).trans hC);rw[qO4 (n:=128) 3 underlying90 Tryz.size5 rfl hN hC' (by omega) (by omega) (qN6 hby _ _).one];obtain⟨W1,hW1,hK1,hA1,hG1⟩:∃ W1,W1=((w.setCell ⟨A,2,none⟩ (.int .i64 (calls+1))).alloc (.cells Z 5)).setRow w.heap.size (qC6 Z 0 (ι cs (i*128) 128))∧Kp [A] w W1∧
   W1.heap[A]?=some (φ n C (.slice none 0 0) (calls+1) writes)∧W1.heap[w.heap.size]?=some (.cells (ι cs (i*128) 128) 5):=
  ⟨_,rfl,(((Kp.refl _ _).sc _).alloc _).setRow (by simp) _,(setRow_other _ _ _ _ (by omega)).trans (θ _ (ω h 2 _)),by
   rw[setRow_heap _ _ _ _ _ _ hN,qH7 (by rw[qL2 (by omega)];omega)]⟩
 rw[←hW1];clear hW1 hN hC' c0 c1 h;have c1:=ξ hA1 1;simp at c1;go_wp2;refine wp_loop_rounds 1 ?_;rw[rounds_succ];go_wp2
 go_ret2
 exact⟨_,rfl,Nat.le_refl _,hG1,hA1,hK1⟩
theorem qK2:(prog.info? 89).map (fun i=>(i.zero,i.size,i.bytes))=some (some (.agg zeroCells89),129,136):=by kernel_rfl
theorem qH6:zeroCells89.size=129:=by kernel_rfl
theorem zZ8:∀ v∈zeroCells89.toList,v.oneCell'=true:=by
 have h:zeroCells89.toList.all (·.oneCell')=true:=by kernel_rfl
 exact List.all_eq_true.1 h
theorem jA4(A n C:Nat)(calls writes:Int)(i:Nat)(B bo cap:Nat)(src:Array Value)(tb:TypeId)(w:World)(h:w.heap[A]?=some (φ n C (.slice none 0 0) calls writes))(h0:0≤calls)(h1:calls≤1000000000)(h0w:0≤writes)(h1w:writes≤1000000000)
  (hi:i<n) (hn:n≤1000) (hB:w.heap[B]?=some (.cells src tb)) (hs:bo+128≤src.size) (hby:allBytes src) (hAB:B≠A):
  Calls prog 251 #[.pointer (some ⟨A,0,none⟩),.int .i64 i,.slice (some ⟨B,bo,none⟩) 128 cap] w fun e w'=>e=.returned .nilIface∧∃ v',
   w'.ownsRow w.heap.size 89 129 v' 1 (.int .i64 i::(ι src bo 128).toList)∧w'.heap[A]?=some (φ n C v' (calls+1) (writes+1))∧Kp [A] w w':=by
 have c1:=ξ h 1;have c3:=ξ h 3;simp at c1 c3;have hA:=η h;have hBs:=η hB;go_enter func251,ntmps251;go_wp2_with fail;refine (qW6 A n C _ calls writes _ h h0 h1).mono ?_;rintro e w1 ⟨rfl,rfl⟩;go_wp2_with fail;refine (qY5 A n C (.slice none 0 0) (calls+1) writes i _ (ω h 2 _) (by omega) (by omega)).mono ?_;rintro e w1 ⟨rfl,rfl⟩;go_wp2_with fail;have hN:((w.setCell ⟨A,2,none⟩ (.int .i64 (calls+1))).alloc (.cells zeroCells89 89)).heap[w.heap.size]?=some (.cells zeroCells89 89):=by
  simpa using μ (w.setCell ⟨A,2,none⟩ (.int .i64 (calls+1))) (.cells zeroCells89 89)
 rw[qJ9 hN (by simp[qH6]) (fun v hv=>by rcases List.mem_or_eq_of_mem_set hv with h | h;exact zZ8 v h;subst h;rfl)];obtain⟨W1,hW1,hK1,hA1,hG1⟩:∃ W1,W1=((w.setCell ⟨A,2,none⟩ (.int .i64 (calls+1))).alloc (.cells zeroCells89 89)).setRow w.heap.size (qC6 zeroCells89 0 (zeroCells89.toList.set 0 (.int .i64 i)).toArray)∧Kp [A] w W1∧
   W1.heap[A]?=some (φ n C (.slice none 0 0) (calls+1) writes)∧W1.heap[w.heap.size]?=some (.cells (zeroCells89.toList.set 0 (.int .i64 i)).toArray 89):=
  ⟨_,rfl,(((Kp.refl _ _).sc _).alloc _).setRow (by simp) _,(setRow_other _ _ _ _ (by omega)).trans (θ _ (ω h 2 _)),by
   rw[setRow_heap _ _ _ _ _ _ hN,qH7 (by simp)]⟩
 rw[←hW1];clear hW1 hN;have hB1:=hK1.heap hB (by simp[hAB]);go_wp2_with fail;rw[qO4 (n:=128) 3 underlying90 Tryz.size5 rfl hG1 hB1 (by simp[qH6]) hs (qN6 hby _ _).one];obtain⟨W2,hW2,hK2,hA2,hG2⟩:∃ W2,W2=W1.setRow w.heap.size (qC6 (zeroCells89.toList.set 0 (.int .i64 i)).toArray 1 (ι src bo 128))∧Kp [A] w W2∧
   W2.heap[A]?=some (φ n C (.slice none 0 0) (calls+1) writes)∧W2.heap[w.heap.size]?=some (.cells (.int .i64 i::(ι src bo 128).toList).toArray 89):=
  ⟨_,rfl,hK1.setRow (by simp) _,(setRow_other _ _ _ _ (by omega)).trans hA1,by
   rw[setRow_heap _ _ _ _ _ _ hG1];have e:qC6 (zeroCells89.toList.set 0 (.int .i64 i)).toArray 1 (ι src bo 128)=(.int .i64 i::(ι src bo 128).toList).toArray:=by
    have hz:zeroCells89.toList.length=129:=by simp[qH6]
    obtain⟨z0,zs,hzs⟩:∃ z0 zs,zeroCells89.toList=z0::zs:=by
     cases hq:zeroCells89.toList with
     | nil=>rw[hq] at hz;cases hz
     | cons z0 zs=>exact⟨z0,zs,rfl⟩
    rw[hzs] at hz ⊢;have hp:=qL2 (cs:=src) hs;have hd:zs.drop 128=[]:=List.drop_of_length_le (by simp at hz;omega);unfold qC6;rw[hp];simp[hd]
   rw[e]⟩
 rw[←hW2];clear hW2 hK1 hA1 hG1 hB1 c1 c3;have c1:=ξ hA2 1;have c3:=ξ hA2 3;simp at c1 c3;have f1:=ν hA2 1;go_wp2_with fail;refine wp_region_any (by kernel_rfl) ?_;change wpAny _ _ _ _ _ _ _ (World.drew _);refine zu 0 (.pointer (some ⟨A,0,none⟩)) ?_;refine zu 1 (.pointer (some ⟨A,0,none⟩)) ?_;refine zu 2 (.pointer (some ⟨A,0,none⟩)) ?_;refine zu 3 (.pointer (some ⟨A,1,none⟩)) ?_;obtain⟨X,hX⟩:∃ X,X=(Value.int .i64 (i:Int)::(ι src bo 128).toList).toArray:=⟨_,rfl⟩;rw[←hX] at hG2;have hd2:W2.drew.heap[w.heap.size]?=some (.cells X 89):=hG2;have hlen:X.size=129:=by rw[hX];simp[qL2 hs]
 have hnew:(W2.drew.alloc (.cells (Value.agg X).cells 89)).heap[W2.heap.size]?=some (.cells X 89):=μ W2.drew _;have hone:∀ u∈(ι X 0 (1*129)).toList,u.oneCell'=true:=by
  have e:ι X 0 (1*129)=X:=by have:=qO1 X;rw[hlen] at this;exact this
  rw[e,hX];intro u hu;simp at hu;rcases hu with rfl|hu
  ·rfl
  ·exact (qN6 hby bo 128).one u (by simpa using hu)
 have HX:=zh hX;clear hX;have hA2s:=η hA2;refine wpAny_ready (rs:=[4,5]) (by kernel_rfl) (by simp) ?_;refine AllReady.cons rfl (fun K hK=>?_) (AllReady.cons rfl (fun K hK=>?_) AllReady.nil)
 ·go_simp;refine hK _ _ ?_;clear hK K;refine zQ 5 fun K hK=>?_;refine qH4 rfl (qJ0 (t:=89) rfl (by kernel_rfl) 129 (by kernel_rfl) w.heap.size (by simp[Act.eval]) hd2 hlen) ?_;refine hK _ _ ?_;clear hK K;simp only[zZ];refine zQ 6 fun K hK=>?_;refine qH4 rfl (qQ9 rfl (.agg X) _ _ _ underlying70 qK2 (by simp[Act.eval]) (by simpa [Value.cells] using hlen) (by decide) (by decide)) ?_;refine hK _ _ ?_;clear hK K;simp only[zZ];refine zQ 7 fun K hK=>?_;refine qJ7 rfl rfl (.agg zeroCells89) 129 136 underlying70 qK2 (by simp[Value.cells,qH6]) (by decide) w.heap.size (.slice none 0 0) 0 [] (by simp[Act.eval]) (World.ownsRow_nil _ _ _ _) W2.heap.size 0 1 1 X 89 (0,0) (by simp[Act.eval]) hnew (by omega) hone (by decide) (by decide) (by have:=hK2.size;simp;omega) ?_;intro v1 w1 hown1 hgr1 _;obtain⟨g1,cap1,rfl⟩:=qI1 (n:=0) hown1;refine hK _ _ ?_;clear hK K;simp only[zZ];have hA3:w1.heap[A]?=some (φ n C (.slice none 0 0) (calls+1) writes):=(hgr1.block A (by have:=hK2.size;simp;omega) (by simp[Value.ownBlock])).trans (θ _ hA2);have hK3:Kp [A] w w1:=((hK2.drew).alloc _).grown hgr1 (by simp[Value.ownBlock]);have d1:=ξ hA3 1;simp at d1;have e1:=ν hA3 1;refine zu 8 (.pointer (some ⟨A,0,none⟩)) ?_;refine zu 9 (.pointer (some ⟨A,1,none⟩)) ?_;refine zQ 10 fun K hK=>?_;go_simp;refine hK _ _ ?_;clear hK K;refine wpAny_done (by kernel_rfl) ?_ _;have d3:=ξ hA3 3;simp at d3;have e3:=ν hA3 3;go_wp2;go_ret;refine⟨rfl,.slice (some ⟨g1,0,none⟩) 1 cap1,?_,?_,(hK3.sc _).sc _⟩
  ·have hz:ι X 0 (1*129)=X:=by have:=qO1 X;rw[hlen] at this;exact this
   rw[hz,HX.out] at hown1;exact ownsRow_setCell_below (ownsRow_setCell_below (by simpa using hown1) hA _) hA _
  ·exact ω (ω hA3 1 _) 3 _
 ·refine qH4 rfl (qJ0 (t:=89) rfl (by kernel_rfl) 129 (by kernel_rfl) w.heap.size (by simp[Act.eval]) hd2 hlen) ?_;refine hK _ _ ?_;clear hK K;simp only[zZ];refine wpAny_ready (rs:=[4,6]) (by kernel_rfl) (by simp) ?_;refine AllReady.cons rfl (fun K hK=>?_) (AllReady.cons rfl (fun K hK=>?_) AllReady.nil)
  ·go_simp;refine hK _ _ ?_;clear hK K;refine zQ 6 fun K hK=>?_;refine qH4 rfl (qQ9 rfl (.agg X) _ _ _ underlying70 qK2 (by simp[Act.eval]) (by simpa [Value.cells] using hlen) (by decide) (by decide)) ?_;refine hK _ _ ?_;clear hK K;simp only[zZ];refine zQ 7 fun K hK=>?_;refine qJ7 rfl rfl (.agg zeroCells89) 129 136 underlying70 qK2 (by simp[Value.cells,qH6]) (by decide) w.heap.size (.slice none 0 0) 0 [] (by simp[Act.eval]) (World.ownsRow_nil _ _ _ _) W2.heap.size 0 1 1 X 89 (0,0) (by simp[Act.eval]) hnew (by omega) hone (by decide) (by decide) (by have:=hK2.size;simp;omega) ?_;intro v1 w1 hown1 hgr1 _;obtain⟨g1,cap1,rfl⟩:=qI1 (n:=0) hown1;refine hK _ _ ?_;clear hK K;simp only[zZ];have hA3:w1.heap[A]?=some (φ n C (.slice none 0 0) (calls+1) writes):=(hgr1.block A (by have:=hK2.size;simp;omega) (by simp[Value.ownBlock])).trans (θ _ hA2);have hK3:Kp [A] w w1:=((hK2.drew).alloc _).grown hgr1 (by simp[Value.ownBlock]);have d1:=ξ hA3 1;simp at d1;have e1:=ν hA3 1;refine zu 8 (.pointer (some ⟨A,0,none⟩)) ?_;refine zu 9 (.pointer (some ⟨A,1,none⟩)) ?_;refine zQ 10 fun K hK=>?_;go_simp;refine hK _ _ ?_;clear hK K;refine wpAny_done (by kernel_rfl) ?_ _;have d3:=ξ hA3 3;simp at d3;have e3:=ν hA3 3;go_wp2;go_ret;refine⟨rfl,.slice (some ⟨g1,0,none⟩) 1 cap1,?_,?_,(hK3.sc _).sc _⟩
   ·have hz:ι X 0 (1*129)=X:=by have:=qO1 X;rw[hlen] at this;exact this
    rw[hz,HX.out] at hown1;exact ownsRow_setCell_below (ownsRow_setCell_below (by simpa using hown1) hA _) hA _
   ·exact ω (ω hA3 1 _) 3 _
  ·refine qH4 rfl (qQ9 rfl (.agg X) _ _ _ underlying70 qK2 (by simp[Act.eval]) (by simpa [Value.cells] using hlen) (by decide) (by decide)) ?_;refine hK _ _ ?_;clear hK K;simp only[zZ];refine zQ 4 fun K hK=>?_;go_simp;refine hK _ _ ?_;clear hK K;refine zQ 7 fun K hK=>?_;refine qJ7 rfl rfl (.agg zeroCells89) 129 136 underlying70 qK2 (by simp[Value.cells,qH6]) (by decide) w.heap.size (.slice none 0 0) 0 [] (by simp[Act.eval]) (World.ownsRow_nil _ _ _ _) W2.heap.size 0 1 1 X 89 (0,0) (by simp[Act.eval]) hnew (by omega) hone (by decide) (by decide) (by have:=hK2.size;simp;omega) ?_;intro v1 w1 hown1 hgr1 _;obtain⟨g1,cap1,rfl⟩:=qI1 (n:=0) hown1;refine hK _ _ ?_;clear hK K;simp only[zZ];have hA3:w1.heap[A]?=some (φ n C (.slice none 0 0) (calls+1) writes):=(hgr1.block A (by have:=hK2.size;simp;omega) (by simp[Value.ownBlock])).trans (θ _ hA2);have hK3:Kp [A] w w1:=((hK2.drew).alloc _).grown hgr1 (by simp[Value.ownBlock]);have d1:=ξ hA3 1;simp at d1;have e1:=ν hA3 1;refine zu 8 (.pointer (some ⟨A,0,none⟩)) ?_;refine zu 9 (.pointer (some ⟨A,1,none⟩)) ?_;refine zQ 10 fun K hK=>?_;go_simp;refine hK _ _ ?_;clear hK K;refine wpAny_done (by kernel_rfl) ?_ _;have d3:=ξ hA3 3;simp at d3;have e3:=ν hA3 3;go_wp2;go_ret;refine⟨rfl,.slice (some ⟨g1,0,none⟩) 1 cap1,?_,?_,(hK3.sc _).sc _⟩
   ·have hz:ι X 0 (1*129)=X:=by have:=qO1 X;rw[hlen] at this;exact this
    rw[hz,HX.out] at hown1;exact ownsRow_setCell_below (ownsRow_setCell_below (by simpa using hown1) hA _) hA _
   ·exact ω (ω hA3 1 _) 3 _
end Go.Proofs.YtdohpenfkdckiabGreatDoor
