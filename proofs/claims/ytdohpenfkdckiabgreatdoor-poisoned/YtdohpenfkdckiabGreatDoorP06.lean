import Derived.Test.YtdohpenfkdckiabGreatDoorP05
import Derived.Lib.AppendZerosOnto
import Derived.Lib.SliceRun
import Derived.Laws.AppendOwnNone
set_option linter.all false
set_option maxRecDepth 100000
set_option maxHeartbeats 20000000
namespace Go.Proofs.YtdohpenfkdckiabGreatDoor
open Go.Proofs.Tryz
open Go.RowKit
theorem qF7{w:World}{base:Nat}{T:TypeId}{sz:Nat}{v:Value}{n:Nat}{xs:List Value}(h:w.ownsRow base T sz v n xs):Slc w T sz v n xs:=by
 refine⟨h.1,?_⟩;rcases h.2 with⟨h1,h2⟩|⟨g,cap,cur,h1,h2,h3,h4,h5,h6,h7⟩
 ·exact .inl ⟨h2,_,_,h1,fun _=>rfl⟩
 ·by_cases h0:n=0
  ·subst h0;exact .inl ⟨rfl,_,_,h1,by simp⟩
  ·refine .inr ⟨g,0,cap,cur,(0,0),h1,by omega,h4,h3,fun j u hu=>?_⟩;rw[←h7,List.getElem?_take] at hu;split at hu
   ·simpa using hu
   ·cases hu
theorem Slc.form{w:World}{T:TypeId}{sz:Nat}{v:Value}{n:Nat}{cs:List Value}(h:Slc w T sz v n cs):∃ b m c,v=.slice b m c:=by
 rcases h.val with⟨_,b,c,h1,_⟩|⟨g,off,cap,cur,fr,h1,_⟩
 ·exact⟨b,0,c,h1⟩
 ·exact⟨_,_,cap,h1⟩
def qC7{α:Type}(low:α→ByteArray)(key:ByteArray):List (List α)→List (ByteArray × List α)
 | []=>[]
 | a::rest=>(key,a)::rest.map fun b=>((b.head?.map low).getD ⟨#[]⟩,b)
theorem qP9{α:Type}(low:α→ByteArray)(key:ByteArray)(l:List (List α)):(qC7 low key l).length=l.length:=by
 cases l<;>simp[qC7]
theorem zB1{α:Type}{low:α→ByteArray}{key:ByteArray}{l:List (List α)}{i:Nat}(h:i<l.length):(qC7 low key l)[i]?=some (if i=0 then key else (l[i].head?.map low).getD ⟨#[]⟩,l[i]):=by
 cases l with
 | nil=>simp at h
 | cons a r=>
  cases i with
  | zero=>simp[qC7]
  | succ i=>
   have h':i<r.length:=by simpa using h
   simp[qC7,List.getElem?_eq_getElem h']
def MkL{α:Type}(T:TypeId)(sz:Nat)(C:List α→List Value)(node:Value→Obj)(w0 w:World)(h:HL)(x:ByteArray × List α):Prop:=
 h.key=x.1∧h.b=0∧h.s=0∧∃ q v,h.p=some q∧w.heap[q]?=some (node v)∧Slc w0 T sz v x.2.length (C x.2)
theorem zA7{w w':World}{base:Nat}{T:TypeId}{sz:Nat}{v:Value}{n:Nat}{xs:List Value}{o:Obj}{k:Nat}{c:Array Value}{t:TypeId}{fr:Nat × Nat}(h:w.ownsRow base T sz v n xs)(hg:(w.alloc o).grownBy w' v.ownBlock)(hk:w.heap[k]?=some (.cells c t fr))(ht:t≠T):w'.heap[k]?=some (.cells c t fr):=by
 have hk':=θ o hk;refine (hg.block k (ζ hk') ?_).trans hk';intro e;rcases h.2 with⟨h1,_⟩|⟨g,cap,cur,h1,h2,h3,_⟩
 ·rw[h1] at e;cases e
 ·rw[h1] at e;have e:k=g:=by simpa [Value.ownBlock] using e
  rw[e,h3] at hk;cases hk;exact ht rfl
theorem MkL.grown{α:Type}{T:TypeId}{sz:Nat}{C:List α→List Value}{node:Value→Obj}{w0 w w':World}{h:HL}{x:ByteArray × List α}(hm:MkL T sz C node w0 w h x)(hn:∀ v,∃ c,node v=.cells c 152)(hg:∀ (k:Nat) (c:Array Value),w.heap[k]?=some (.cells c 152)→w'.heap[k]?=some (.cells c 152)):MkL T sz C node w0 w' h x:=by
 obtain⟨h1,h2,h3,q,v,h4,h5,h6⟩:=hm;obtain⟨c,hc⟩:=hn v;rw[hc] at h5;exact⟨h1,h2,h3,q,v,h4,by rw[hc];exact hg q c h5,h6⟩
theorem zC3{w w':World}{base:Nat}{T:TypeId}{sz:Nat}{v:Value}{n:Nat}{xs:List Value}(h:w.ownsRow base T sz v n xs)(hK:Kp [] w w'):w'.ownsRow base T sz v n xs:=by
 refine⟨h.1,?_⟩;rcases h.2 with h0|⟨g,cap,cur,h1,h2,h3,h4⟩
 ·exact .inl h0
 ·exact .inr ⟨g,cap,cur,h1,h2,hK.hp h3,h4⟩
theorem qR2:(prog.info? 81).map (fun i=>(i.zero,i.size,i.bytes))=some (some (.agg #[.string ⟨#[]⟩,.int .i64 0,.int .u64 0,.pointer none]),4,40):=by kernel_rfl
theorem zH6:(prog.info? 158).map (fun i=>(i.zero,i.size,i.bytes))=some (some (.agg #[.string ⟨#[]⟩,.string ⟨#[]⟩]),2,32):=by kernel_rfl
theorem xA4(hs:List HL)(h:HL):qA7 (hs++[h])=qA7 hs++lcs h:=by simp[qA7]
theorem qZ2{w:World}{cs:List Value}{T:TypeId}:∀ j u,cs[j]?=some u→(w.alloc (.cells cs.toArray T)).cell? ((⟨w.heap.size,0,none⟩:Addr).add j)=some u:=by
 intro j u hu;rw[qM5,Nat.zero_add,ξ (μ _ _)];simpa using hu
theorem xQ9(g:Nat)(cap:Array Value)(node:Value→Obj)(key:ByteArray)(v:Value)(ps:List KV)(w:World)(hs:Slc w 158 2 v ps.length (qB0 ps))(hn:ps.length≤1000000)(hz:∀ p∈ps,ρ p≤21)(hm:meas ρ ps≤210)
  (hcf:∀ (args:Array Value) (W:World),Sem.run prog (callFunc g args) W=.ok (.enter g args) W) (hnode:∀ v,∃ c,node v=.cells c 152)
  (hmade:∀ W x,Kp [] w W→(∃ b n c,x=.slice b n c)→Calls prog g (#[x]++cap) W fun e W'=>∃ q,e=.returned (.pointer (some ⟨q,0,none⟩))∧W'.heap[q]?=some (node x)∧Kp [] W W'):
  Calls prog 133 #[.string key,v,.func (.func g) #[] cap] w fun e w'=>∃ v',e=.returned v'∧∃ hs,w'.ownsRow w.heap.size 81 4 v' (qB8 ρ ps).length (qA7 hs)∧hs.length=(qB8 ρ ps).length∧(∀ i (h:i<hs.length) (h':i<(qC7 KV.k key (qB8 ρ ps)).length),MkL 158 2 qB0 node w w' hs[i] (qC7 KV.k key (qB8 ρ ps))[i])∧Kp [] w w':=by
 obtain⟨i0,hi,hz0,hz1,hz2⟩:=info_parts qR2;have HM:=zh hmade;have HNO:=zh hnode;have HL0:Hid (∀ l∈qB8 ρ ps,(qB8 ρ ps).length=1∨3≤l.length):=by
  rcases zA8 ρ ps hz hm with⟨e,_⟩|⟨a,b,e,_,_,_,h1,h2⟩
  ·show ∀ l∈qB8 ρ ps,_;rw[e];intro l _;exact .inl rfl
  ·show ∀ l∈qB8 ρ ps,_;rw[e];intro l hl;simp only[List.mem_cons,List.not_mem_nil,or_false] at hl;rcases hl with rfl|rfl
   ·exact .inr h1
   ·exact .inr h2
 have hlen2:(qB8 ρ ps).length≤2:=by unfold qB8;split<;>simp
 clear hmade hnode;go_enter func133,ntmps133;go_wp2_with fail;refine (xY3 v ps w hs hn hz (by omega)).mono ?_;rintro e w1 ⟨gh,vs,rfl,hH1,hS1,hK1⟩;obtain⟨hvl,hvs⟩:=hS1;obtain⟨hv,hhv⟩:∃ hv,qB8 ρ ps=hv:=⟨_,rfl⟩;have HH:=zh hhv;rw[hhv] at hvl hvs hlen2 HL0 ⊢;clear hhv;rw[List.length_map] at hvl;have HVS:Hid (∀ i (h:i<hv.length) (h':i<vs.length),Slc w 158 2 vs[i] hv[i].length (qB0 hv[i])):=fun i h h'=>by
  have:=hvs i (by simpa using h) h';simpa using this
 clear hvs;have HK1:=zh hK1;have HB:=zh hK1.size;have H1:=zh hH1;clear hK1 hs hH1;go_wp2
 go_loopw [0,7,13] (fun k s i wr=>∃ (j:Nat) (hs:List HL) (k':ByteArray),j≤hv.length∧i=.int .i64 j∧k=.string k'∧(j=0→k'=key)∧hs.length=j∧wr.ownsRow w.heap.size 81 4 s j (qA7 hs)∧Hid (∀ i (h:i<hs.length) (h':i<(qC7 KV.k key hv).length),MkL 158 2 qB0 node w wr hs[i] (qC7 KV.k key hv)[i])∧Hid (Kp [] w wr)∧wr.heap[gh]?=some (.cells vs.toArray 149)) (fun _ _ i _=>hv.length-(intOf i).toNat)
 case atStart=>exact⟨0,[],key,Nat.zero_le _,rfl,rfl,fun _=>rfl,rfl,World.ownsRow_nil _ _ _ _,(fun i h=>by simp at h:∀ i (h:i<[].length) (h':i<(qC7 KV.k key hv).length),_),HK1.out,H1.out⟩
 case round=>
  obtain⟨j,hs,k',hj,rfl,rfl,hk',hsl,hown,hMk,hKw,hHr⟩:=hrel;by_cases hlt:j<hv.length
  ·have hjb:(j:Int)<(hv.length:Int):=by omega
   have hvj:=HVS.out j hlt (by omega);have h0:=ξ hHr j;rw[zG,List.getElem?_eq_getElem (show j<vs.length by omega)] at h0;have hghs:=ζ hHr;have hne:0<j→1≤hv[j].length:=fun h=>by
    rcases HL0.out hv[j] (List.getElem_mem hlt) with h1|h1<;>omega
   obtain⟨kj,hkj⟩:∃ kj,kj=if j=0 then key else (hv[j].head?.map KV.k).getD ⟨#[]⟩:=⟨_,rfl⟩
   have hKJ:(qC7 KV.k key hv)[j]?=some (kj,hv[j]):=by rw[zB1 hlt,hkj]
   obtain⟨vj,hvj0⟩:∃ vj,vs[j]=vj:=⟨_,rfl⟩;rw[hvj0] at hvj h0;have HSJ:=zh hvj;have HHR:=zh hHr;have HEND:Hid (∀ (W1 w2:World) (q:Nat) (s v1:Value) (o:Obj) (x:Int),x=(j:Int)+1→W1.heap[q]?=some (node vj)→Kp [] wr W1→W1.ownsRow w.heap.size 81 4 s j (qA7 hs)→w2.ownsRow w.heap.size 81 4 v1 (j+1) (qA7 hs++[.string kj,.int .i64 0,.int .u64 0,.pointer (some ⟨q,0,none⟩)])→(W1.alloc o).grownBy w2 s.ownBlock→
     ∃ (j':Nat) (hs':List HL) (k'':ByteArray),j'≤hv.length∧Value.int .i64 x=.int .i64 j'∧Value.string kj=.string k''∧(j'=0→k''=key)∧hs'.length=j'∧w2.ownsRow w.heap.size 81 4 v1 j' (qA7 hs')∧Hid (∀ i (h:i<hs'.length) (h':i<(qC7 KV.k key hv).length),MkL 158 2 qB0 node w w2 hs'[i] (qC7 KV.k key hv)[i])∧Hid (Kp [] w w2)∧w2.heap[gh]?=some (.cells vs.toArray 149)):=by
    show ∀ (W1 w2:World) (q:Nat) (s v1:Value) (o:Obj) (x:Int),_;intro W1 w2 q s v1 o x hx hq hKW hown1 hrow hg;have hgn:∀ (k:Nat) (c:Array Value),W1.heap[k]?=some (.cells c 152)→w2.heap[k]?=some (.cells c 152):=fun k c hk=>zA7 hown1 hg hk (by decide);obtain⟨cn,hcn⟩:=HNO.out vj;have hq2:w2.heap[q]?=some (node vj):=by rw[hcn];rw[hcn] at hq;exact hgn q cn hq
    have hMk2:∀ i (h:i<hs.length) (h':i<(qC7 KV.k key hv).length),MkL 158 2 qB0 node w w2 hs[i] (qC7 KV.k key hv)[i]:=fun i h h'=>
     (hMk.out i h h').grown HNO.out fun k c hk=>hgn k c (hKW.hp hk)
    refine⟨j+1,hs++[⟨kj,0,0,some q⟩],kj,by omega,by rw[hx];go_num,rfl,by omega,by simp[hsl],by rw[xA4];exact hrow,?_,((hKw.out.tr hKW).alloc o).grown hg (fun k hk=>Or.inr (qH7 hown1 k hk)),zA7 hown1 hg (hKW.hp HHR.out) (by decide)⟩;show ∀ i (h:i<(hs++[(⟨kj,0,0,some q⟩:HL)]).length) (h':i<(qC7 KV.k key hv).length),_;intro i h1 h';by_cases hi:i<hs.length
    ·rw[List.getElem_append_left hi];exact hMk2 i hi h'
    ·have hij:i=j:=by simp at h1;omega
     subst hij;have e:(qC7 KV.k key hv)[i]=(kj,hv[i]):=by
      rw[List.getElem?_eq_getElem h'] at hKJ;exact Option.some.inj hKJ
     rw[e,List.getElem_append_right (by omega)];simp only[hsl,Nat.sub_self,List.getElem_singleton];exact⟨rfl,rfl,rfl,q,vj,rfl,hq2,HSJ.out⟩
   clear hKJ hMk;by_cases hj0:j=0
   ·have hk1:k'=kj:=by rw[hkj,if_pos hj0];exact hk' hj0
    subst hk1;clear hkj hk' hvj0 hvj hne;subst hj0;go_wp2_with fail;refine (HM.out wr vj hKw.out HSJ.out.form).mono ?_;rintro e W1 ⟨q,rfl,hq1,hKW1⟩;have hownW:=zC3 hown hKW1;have hsz:w.heap.size≤W1.heap.size:=Nat.le_trans hKw.out.size hKW1.size;have HQ:=zh hq1;clear hq1
    go_wp2_with (at_builtin;refine wpList_append_own _ rfl _ _ 150 rfl w.heap.size 81 i0 _ 4 40 underlying150 hi hz0 hz1 hz2 rfl (by decide) _ _ _ rfl (hownW.alloc _) ⟨W1.heap.size,0,none⟩ 1 1 [.string k',.int .i64 0,.int .u64 0,.pointer (some ⟨q,0,none⟩)] rfl rfl qZ2 (by simp[Value.oneCell']) (by unfold maxLen;omega) (by omega) (by simp;omega) ?_;intro v1 w2 hown2 hgrow2 _)
    exact⟨HEND.out W1 w2 q _ v1 _ 1 (by omega) HQ.out hKW1 hownW hown2 hgrow2,by simp[intOf];omega⟩
   ·have hjg:(0:Int)<(j:Int):=by omega
    obtain⟨gb,off',cp',cur,fr,rfl,hcp,hrow,hcur⟩:=hvj.pair (hne (by omega));obtain⟨c0,c1⟩:=hcur 0 (hne (by omega));have hR:=hKw.out.hp hrow;have a0:wr.cell? ⟨gb,off',none⟩=some _:=(ξ hR _).trans (by simpa using c0);have a1:wr.cell? ⟨gb,off'+1,none⟩=some _:=(ξ hR _).trans (by simpa using c1);have hkj1:kj=KV.k (hv[j][0]'(hne (by omega))):=by
     rw[hkj,if_neg hj0];rw[List.head?_eq_getElem?,List.getElem?_eq_getElem (hne (by omega))];rfl
    have hgs:=ζ hR;have hlj:(0:Int)<(hv[j].length:Int):=by have:=hne (by omega);omega
    have HKJ1:=zh hkj1;clear hkj hk' hvj0 hvj hcur hkj1;go_wp2_with fail;refine (jH5 (hv[j][0]'(hne (by omega))) _).mono ?_;rintro e W0 ⟨rfl,hKW0⟩;rw[show (hv[j][0]'(hne (by omega))).k=kj from HKJ1.out.symm];go_wp2_with fail;refine (HM.out W0 _ (hKw.out.tr hKW0) ⟨_,_,_,rfl⟩).mono ?_;rintro e W1 ⟨q,rfl,hq1,hKW1⟩;have hKW01:Kp [] wr W1:=hKW0.tr hKW1;have hownW:=zC3 hown hKW01;have hsz:w.heap.size≤W1.heap.size:=Nat.le_trans hKw.out.size hKW01.size;have HQ:=zh hq1;clear hq1
    go_wp2_with (at_builtin;refine wpList_append_own _ rfl _ _ 150 rfl w.heap.size 81 i0 _ 4 40 underlying150 hi hz0 hz1 hz2 rfl (by decide) _ _ _ rfl (hownW.alloc _) ⟨W1.heap.size,0,none⟩ 1 1 [.string kj,.int .i64 0,.int .u64 0,.pointer (some ⟨q,0,none⟩)] rfl rfl qZ2 (by simp[Value.oneCell']) (by unfold maxLen;omega) (by omega) (by simp;omega) ?_;intro v1 w2 hown2 hgrow2 _)
    exact⟨HEND.out W1 w2 q _ v1 _ _ rfl HQ.out hKW01 hownW hown2 hgrow2,by simp[intOf];omega⟩
  ·have hjb:¬(j:Int)<(hv.length:Int):=by omega
   go_wp2;go_ret;have e:j=hv.length:=by omega
   subst e;exact⟨_,rfl,hs,by rw[HH.out];exact hown,by rw[HH.out];exact hsl,by rw[HH.out];exact hMk.out,hKw.out⟩
theorem xQ8(g:Nat)(cap:Array Value)(node:Value→Obj)(key:ByteArray)(v:Value)(ps:List HL)(w:World)(hs:Slc w 81 4 v ps.length (qA7 ps))(hn:ps.length≤1000000)(hz:∀ p∈ps,qA0 p≤21)(hm:meas qA0 ps≤210)
  (hcf:∀ (args:Array Value) (W:World),Sem.run prog (callFunc g args) W=.ok (.enter g args) W) (hnode:∀ v,∃ c,node v=.cells c 152)
  (hmade:∀ W x,Kp [] w W→(∃ b n c,x=.slice b n c)→Calls prog g (#[x]++cap) W fun e W'=>∃ q,e=.returned (.pointer (some ⟨q,0,none⟩))∧W'.heap[q]?=some (node x)∧Kp [] W W'):
  Calls prog 172 #[.string key,v,.func (.func g) #[] cap] w fun e w'=>∃ v',e=.returned v'∧∃ hs,w'.ownsRow w.heap.size 81 4 v' (qB8 qA0 ps).length (qA7 hs)∧hs.length=(qB8 qA0 ps).length∧(∀ i (h:i<hs.length) (h':i<(qC7 HL.key key (qB8 qA0 ps)).length),MkL 81 4 qA7 node w w' hs[i] (qC7 HL.key key (qB8 qA0 ps))[i])∧Kp [] w w':=by
 obtain⟨i0,hi,hz0,hz1,hz2⟩:=info_parts qR2;have HM:=zh hmade;have HNO:=zh hnode;have HL0:Hid (∀ l∈qB8 qA0 ps,(qB8 qA0 ps).length=1∨3≤l.length):=by
  rcases zA8 qA0 ps hz hm with⟨e,_⟩|⟨a,b,e,_,_,_,h1,h2⟩
  ·show ∀ l∈qB8 qA0 ps,_;rw[e];intro l _;exact .inl rfl
  ·show ∀ l∈qB8 qA0 ps,_;rw[e];intro l hl;simp only[List.mem_cons,List.not_mem_nil,or_false] at hl;rcases hl with rfl|rfl
   ·exact .inr h1
   ·exact .inr h2
 have hlen2:(qB8 qA0 ps).length≤2:=by unfold qB8;split<;>simp
 clear hmade hnode;go_enter func172,ntmps172;go_wp2_with fail;refine (xY2 v ps w hs hn hz (by omega)).mono ?_;rintro e w1 ⟨gh,vs,rfl,hH1,hS1,hK1⟩;obtain⟨hvl,hvs⟩:=hS1;obtain⟨hv,hhv⟩:∃ hv,qB8 qA0 ps=hv:=⟨_,rfl⟩;have HH:=zh hhv;rw[hhv] at hvl hvs hlen2 HL0 ⊢;clear hhv;rw[List.length_map] at hvl;have HVS:Hid (∀ i (h:i<hv.length) (h':i<vs.length),Slc w 81 4 vs[i] hv[i].length (qA7 hv[i])):=fun i h h'=>by
  have:=hvs i (by simpa using h) h';simpa using this
 clear hvs;have HK1:=zh hK1;have HB:=zh hK1.size;have H1:=zh hH1;clear hK1 hs hH1;go_wp2
 go_loopw [0,7,13] (fun k s i wr=>∃ (j:Nat) (hs:List HL) (k':ByteArray),j≤hv.length∧i=.int .i64 j∧k=.string k'∧(j=0→k'=key)∧hs.length=j∧wr.ownsRow w.heap.size 81 4 s j (qA7 hs)∧Hid (∀ i (h:i<hs.length) (h':i<(qC7 HL.key key hv).length),MkL 81 4 qA7 node w wr hs[i] (qC7 HL.key key hv)[i])∧Hid (Kp [] w wr)∧wr.heap[gh]?=some (.cells vs.toArray 150)) (fun _ _ i _=>hv.length-(intOf i).toNat)
 case atStart=>exact⟨0,[],key,Nat.zero_le _,rfl,rfl,fun _=>rfl,rfl,World.ownsRow_nil _ _ _ _,(fun i h=>by simp at h:∀ i (h:i<[].length) (h':i<(qC7 HL.key key hv).length),_),HK1.out,H1.out⟩
 case round=>
  obtain⟨j,hs,k',hj,rfl,rfl,hk',hsl,hown,hMk,hKw,hHr⟩:=hrel;by_cases hlt:j<hv.length
  ·have hjb:(j:Int)<(hv.length:Int):=by omega
   have hvj:=HVS.out j hlt (by omega);have h0:=ξ hHr j;rw[zG,List.getElem?_eq_getElem (show j<vs.length by omega)] at h0;have hghs:=ζ hHr;have hne:0<j→1≤hv[j].length:=fun h=>by
    rcases HL0.out hv[j] (List.getElem_mem hlt) with h1|h1<;>omega
   obtain⟨kj,hkj⟩:∃ kj,kj=if j=0 then key else (hv[j].head?.map HL.key).getD ⟨#[]⟩:=⟨_,rfl⟩
   have hKJ:(qC7 HL.key key hv)[j]?=some (kj,hv[j]):=by rw[zB1 hlt,hkj]
   obtain⟨vj,hvj0⟩:∃ vj,vs[j]=vj:=⟨_,rfl⟩;rw[hvj0] at hvj h0;have HSJ:=zh hvj;have HHR:=zh hHr;have HEND:Hid (∀ (W1 w2:World) (q:Nat) (s v1:Value) (o:Obj) (x:Int),x=(j:Int)+1→W1.heap[q]?=some (node vj)→Kp [] wr W1→W1.ownsRow w.heap.size 81 4 s j (qA7 hs)→w2.ownsRow w.heap.size 81 4 v1 (j+1) (qA7 hs++[.string kj,.int .i64 0,.int .u64 0,.pointer (some ⟨q,0,none⟩)])→(W1.alloc o).grownBy w2 s.ownBlock→
     ∃ (j':Nat) (hs':List HL) (k'':ByteArray),j'≤hv.length∧Value.int .i64 x=.int .i64 j'∧Value.string kj=.string k''∧(j'=0→k''=key)∧hs'.length=j'∧w2.ownsRow w.heap.size 81 4 v1 j' (qA7 hs')∧Hid (∀ i (h:i<hs'.length) (h':i<(qC7 HL.key key hv).length),MkL 81 4 qA7 node w w2 hs'[i] (qC7 HL.key key hv)[i])∧Hid (Kp [] w w2)∧w2.heap[gh]?=some (.cells vs.toArray 150)):=by
    show ∀ (W1 w2:World) (q:Nat) (s v1:Value) (o:Obj) (x:Int),_;intro W1 w2 q s v1 o x hx hq hKW hown1 hrow hg;have hgn:∀ (k:Nat) (c:Array Value),W1.heap[k]?=some (.cells c 152)→w2.heap[k]?=some (.cells c 152):=fun k c hk=>zA7 hown1 hg hk (by decide);obtain⟨cn,hcn⟩:=HNO.out vj;have hq2:w2.heap[q]?=some (node vj):=by rw[hcn];rw[hcn] at hq;exact hgn q cn hq
    have hMk2:∀ i (h:i<hs.length) (h':i<(qC7 HL.key key hv).length),MkL 81 4 qA7 node w w2 hs[i] (qC7 HL.key key hv)[i]:=fun i h h'=>
     (hMk.out i h h').grown HNO.out fun k c hk=>hgn k c (hKW.hp hk)
    refine⟨j+1,hs++[⟨kj,0,0,some q⟩],kj,by omega,by rw[hx];go_num,rfl,by omega,by simp[hsl],by rw[xA4];exact hrow,?_,((hKw.out.tr hKW).alloc o).grown hg (fun k hk=>Or.inr (qH7 hown1 k hk)),zA7 hown1 hg (hKW.hp HHR.out) (by decide)⟩;show ∀ i (h:i<(hs++[(⟨kj,0,0,some q⟩:HL)]).length) (h':i<(qC7 HL.key key hv).length),_;intro i h1 h';by_cases hi:i<hs.length
    ·rw[List.getElem_append_left hi];exact hMk2 i hi h'
    ·have hij:i=j:=by simp at h1;omega
     subst hij;have e:(qC7 HL.key key hv)[i]=(kj,hv[i]):=by
      rw[List.getElem?_eq_getElem h'] at hKJ;exact Option.some.inj hKJ
     rw[e,List.getElem_append_right (by omega)];simp only[hsl,Nat.sub_self,List.getElem_singleton];exact⟨rfl,rfl,rfl,q,vj,rfl,hq2,HSJ.out⟩
   clear hKJ hMk;by_cases hj0:j=0
   ·have hk1:k'=kj:=by rw[hkj,if_pos hj0];exact hk' hj0
    subst hk1;clear hkj hk' hvj0 hvj hne;subst hj0;go_wp2_with fail;refine (HM.out wr vj hKw.out HSJ.out.form).mono ?_;rintro e W1 ⟨q,rfl,hq1,hKW1⟩;have hownW:=zC3 hown hKW1;have hsz:w.heap.size≤W1.heap.size:=Nat.le_trans hKw.out.size hKW1.size;have HQ:=zh hq1;clear hq1
    go_wp2_with (at_builtin;refine wpList_append_own _ rfl _ _ 150 rfl w.heap.size 81 i0 _ 4 40 underlying150 hi hz0 hz1 hz2 rfl (by decide) _ _ _ rfl (hownW.alloc _) ⟨W1.heap.size,0,none⟩ 1 1 [.string k',.int .i64 0,.int .u64 0,.pointer (some ⟨q,0,none⟩)] rfl rfl qZ2 (by simp[Value.oneCell']) (by unfold maxLen;omega) (by omega) (by simp;omega) ?_;intro v1 w2 hown2 hgrow2 _)
    exact⟨HEND.out W1 w2 q _ v1 _ 1 (by omega) HQ.out hKW1 hownW hown2 hgrow2,by simp[intOf];omega⟩
   ·have hjg:(0:Int)<(j:Int):=by omega
    obtain⟨gb,off',cp',cur,fr,rfl,hcp,hrow,hcur⟩:=hvj.link (hne (by omega));obtain⟨c0,c1,c2,c3⟩:=hcur 0 (hne (by omega));have hR:=hKw.out.hp hrow;have a0:wr.cell? ⟨gb,off',none⟩=some _:=(ξ hR _).trans (by simpa using c0);have a1:wr.cell? ⟨gb,off'+1,none⟩=some _:=(ξ hR _).trans (by simpa using c1);have a2:wr.cell? ⟨gb,off'+2,none⟩=some _:=(ξ hR _).trans (by simpa using c2);have a3:wr.cell? ⟨gb,off'+3,none⟩=some _:=(ξ hR _).trans (by simpa using c3);have hkj1:kj=HL.key (hv[j][0]'(hne (by omega))):=by
     rw[hkj,if_neg hj0];rw[List.head?_eq_getElem?,List.getElem?_eq_getElem (hne (by omega))];rfl
    have hgs:=ζ hR;have hlj:(0:Int)<(hv[j].length:Int):=by have:=hne (by omega);omega
    have HKJ1:=zh hkj1;clear hkj hk' hvj0 hvj hcur hkj1;go_wp2_with fail;refine (jH4 (hv[j][0]'(hne (by omega))) _).mono ?_;rintro e W0 ⟨rfl,hKW0⟩;rw[show (hv[j][0]'(hne (by omega))).key=kj from HKJ1.out.symm];go_wp2_with fail;refine (HM.out W0 _ (hKw.out.tr hKW0) ⟨_,_,_,rfl⟩).mono ?_;rintro e W1 ⟨q,rfl,hq1,hKW1⟩;have hKW01:Kp [] wr W1:=hKW0.tr hKW1;have hownW:=zC3 hown hKW01;have hsz:w.heap.size≤W1.heap.size:=Nat.le_trans hKw.out.size hKW01.size;have HQ:=zh hq1;clear hq1
    go_wp2_with (at_builtin;refine wpList_append_own _ rfl _ _ 150 rfl w.heap.size 81 i0 _ 4 40 underlying150 hi hz0 hz1 hz2 rfl (by decide) _ _ _ rfl (hownW.alloc _) ⟨W1.heap.size,0,none⟩ 1 1 [.string kj,.int .i64 0,.int .u64 0,.pointer (some ⟨q,0,none⟩)] rfl rfl qZ2 (by simp[Value.oneCell']) (by unfold maxLen;omega) (by omega) (by simp;omega) ?_;intro v1 w2 hown2 hgrow2 _)
    exact⟨HEND.out W1 w2 q _ v1 _ _ rfl HQ.out hKW01 hownW hown2 hgrow2,by simp[intOf];omega⟩
  ·have hjb:¬(j:Int)<(hv.length:Int):=by omega
   go_wp2;go_ret;have e:j=hv.length:=by omega
   subst e;exact⟨_,rfl,hs,by rw[HH.out];exact hown,by rw[HH.out];exact hsl,by rw[HH.out];exact hMk.out,hKw.out⟩
def Both{α β:Type}(R:α→β→Prop)(a:List α)(b:List β):Prop:=a.length=b.length∧∀ i (h:i<a.length) (h':i<b.length),R a[i] b[i]
theorem Both.mono{α β:Type}{R R':α→β→Prop}{a:List α}{b:List β}(h:Both R a b)(hr:∀ x y,R x y→R' x y):Both R' a b:=⟨h.1,fun i h1 h2=>hr _ _ (h.2 i h1 h2)⟩
theorem Both.take{α β:Type}{R:α→β→Prop}{a:List α}{b:List β}(h:Both R a b)(k:Nat):Both R (a.take k) (b.take k):=
 ⟨by simp[h.1],fun i h1 h2=>by simp only[List.getElem_take];exact h.2 i (by simp at h1;omega) (by simp at h2;omega)⟩
theorem Both.drop{α β:Type}{R:α→β→Prop}{a:List α}{b:List β}(h:Both R a b)(k:Nat):Both R (a.drop k) (b.drop k):=
 ⟨by simp[h.1],fun i h1 h2=>by simp only[List.getElem_drop];exact h.2 _ (by simp at h1;omega) (by simp at h2;omega)⟩
theorem Both.append{α β:Type}{R:α→β→Prop}{a a':List α}{b b':List β}(h:Both R a b)(h':Both R a' b'):Both R (a++a') (b++b'):=
 ⟨by simp[h.1,h'.1],fun i h1 h2=>by
  have hl:=h.1;by_cases hi:i<a.length
  ·rw[List.getElem_append_left hi,List.getElem_append_left (by omega)];exact h.2 i hi (by omega)
  ·rw[List.getElem_append_right (by omega),List.getElem_append_right (by omega)];simp only[hl];exact h'.2 _ (by simp at h1;omega) (by simp at h2;omega)⟩
theorem Both.map_eq{α β γ:Type}{R:α→β→Prop}{a:List α}{b:List β}{f:α→γ}{g:β→γ}(h:Both R a b)(hr:∀ x y,R x y→f x=g y):a.map f=b.map g:=by
 refine List.ext_getElem (by simp[h.1]) fun i h1 h2=>?_;simp only[List.getElem_map];exact hr _ _ (h.2 i (by simpa using h1) (by simpa using h2))
def RLof{X:Type}(N:Nat→X→Prop)(O:Nat→Int→X→Prop)(h:HL)(l:Lnk X):Prop:=
 h.key=l.key∧match l.ref with
  | none=>h.b=0∧h.s=0∧∃ q,h.p=some q∧N q l.sub
  | some (b,s)=>h.b=b∧h.s=s∧h.p=none∧O b s l.sub
def zO3{X:Type}(N:Nat→X→Prop)(O:Nat→Int→X→Prop)(w:World)(v:Value)(ls:List (Lnk X)):Prop:=
 ∃ hs:List HL,Slc w 81 4 v hs.length (qA7 hs)∧Both (RLof N O) hs ls
abbrev qE1:Type:=(n:Nat)→Nat→Int→Tn n→Prop
def RN(O:qE1):(n:Nat)→World→Nat→Tn n→Prop
 | 0,w,q,t=>∃ vp,w.heap[q]?=some (υ 0 vp (.slice none 0 0))∧Slc w 158 2 vp (prs t).length (qB0 (prs t))
 | n+1,w,q,t=>∃ vl,w.heap[q]?=some (υ ((n+1:Nat):Int) (.slice none 0 0) vl)∧zO3 (RN O n w) (O n) w vl (η t)
abbrev RL(O:qE1)(n:Nat)(w:World)(h:HL)(l:Lnk (Tn n)):Prop:=RLof (RN O n w) (O n) h l
abbrev RLs(O:qE1)(n:Nat)(w:World)(v:Value)(ls:List (Lnk (Tn n))):Prop:=zO3 (RN O n w) (O n) w v ls
theorem RLof.mono{X:Type}{N N':Nat→X→Prop}{O O':Nat→Int→X→Prop}{h:HL}{l:Lnk X}(hr:RLof N O h l)(hN:∀ q,N q l.sub→N' q l.sub)(hO:∀ b s,O b s l.sub→O' b s l.sub):RLof N' O' h l:=by
 refine⟨hr.1,?_⟩;have:=hr.2
 cases hl:l.ref with
 | none=>
  rw[hl] at this;obtain⟨h1,h2,q,h3,h4⟩:=this;exact⟨h1,h2,q,h3,hN q h4⟩
 | some x=>
  rw[hl] at this;obtain⟨h1,h2,h3,h4⟩:=this;exact⟨h1,h2,h3,hO _ _ h4⟩
def qF8:List TypeId:=[152,158,81]
theorem Apt.sub{w:World}{S:List Nat}{Ts Ts':List TypeId}(h:Apt w S Ts)(hs:∀ t∈Ts',t∈Ts):Apt w S Ts':=fun k hk c t fr e hm=>h k hk c t fr e (hs t hm)
theorem RN.keep{O:qE1}{S:List Nat}{w w':World}(hK:Kp S w w')(hS:Apt w S qF8):∀ (n:Nat) (q:Nat) (t:Tn n),RN O n w q t→RN O n w' q t
 | 0,q,t,h=>by
  obtain⟨vp,h1,h2⟩:=h;exact⟨vp,hK.heap h1 (fun hm=>hS q hm _ _ _ h1 (by decide)),h2.keep hK (hS.sub (by decide))⟩
 | n+1,q,t,h=>by
  obtain⟨vl,h1,hs,h2,h3⟩:=h;exact⟨vl,hK.heap h1 (fun hm=>hS q hm _ _ _ h1 (by decide)),hs,h2.keep hK (hS.sub (by decide)),h3.mono fun x y hr=>hr.mono (fun q hq=>RN.keep hK hS n q _ hq) (fun _ _ h=>h)⟩
theorem RLs.keep{O:qE1}{S:List Nat}{w w':World}{n:Nat}{v:Value}{ls:List (Lnk (Tn n))}(h:RLs O n w v ls)(hK:Kp S w w')(hS:Apt w S qF8):RLs O n w' v ls:=by
 obtain⟨hs,h2,h3⟩:=h;exact⟨hs,h2.keep hK (hS.sub (by decide)),h3.mono fun x y hr=>hr.mono (fun q hq=>RN.keep hK hS n q _ hq) (fun _ _ h=>h)⟩
theorem RL.keep{O:qE1}{S:List Nat}{w w':World}{n:Nat}{h:HL}{l:Lnk (Tn n)}(hr:RL O n w h l)(hK:Kp S w w')(hS:Apt w S qF8):RL O n w' h l:=hr.mono (fun q hq=>RN.keep hK hS n q _ hq) (fun _ _ h=>h)
def qJ3:Array Value:=#[.string ⟨#[]⟩,.int .i64 0,.int .u64 0,.pointer none]
def zE7(w:World)(S:List Nat):Prop:=∀ k∈S,∀ c t fr,w.heap[k]?=some (.cells c t fr)→t ∉ qF8∨(t=81∧c=qJ3)
theorem xN2{α β:Type}{R:α→β→Prop}{a:List α}{b:List β}(h:Both R a b)(ha:1≤a.length):R (a[0]'ha) (b[0]'(by rw[←h.1];exact ha)):=h.2 0 _ _
theorem jR2{X:Type}{N:Nat→X→Prop}{O:Nat→Int→X→Prop}(pos:∀ (b:Nat) (s:Int) (t:X),O b s t→1≤b){S:List Nat}{w w':World}(hK:Kp S w w')(hS:zE7 w S){v:Value}{hs:List HL}{ls:List (Lnk X)}(h:Slc w 81 4 v hs.length (qA7 hs))(hb:Both (RLof N O) hs ls):Slc w' 81 4 v hs.length (qA7 hs):=by
 refine⟨h.len,?_⟩;rcases h.val with h|⟨g,off,cap,cur,fr,h1,h2,h3,h4,h5⟩
 ·exact .inl h
 ·refine .inr ⟨g,off,cap,cur,fr,h1,h2,h3,hK.heap h4 (fun hm=>?_),h5⟩;rcases hS g hm _ _ _ h4 with hx|⟨_,hx⟩
  ·exact hx (by decide)
  ·obtain⟨e0,e1,_,e3⟩:=qU3 (ls:=hs) (i:=0) h2;have d0:=h5 _ _ e0;have d1:=h5 _ _ e1;have d3:=h5 _ _ e3;rw[hx] at d0 d1 d3;have hoff:off=0:=by
    match off,d0 with
    | 0,_=>rfl
    | 1,d0=>simp[qJ3] at d0
    | 2,d0=>simp[qJ3] at d0
    | 3,d0=>simp[qJ3] at d0
    | k+4,d0=>simp[qJ3] at d0
   subst hoff;simp[qJ3] at d1 d3;have hr:=xN2 hb h2;obtain⟨_,hr2⟩:=hr
   cases hl:(ls[0]'(by rw[←hb.1];exact h2)).ref with
   | none=>
    rw[hl] at hr2;obtain⟨_,_,q,hq,_⟩:=hr2;simp[HL.ptr,hq] at d3
   | some x=>
    rw[hl] at hr2;have:=pos _ _ _ hr2.2.2.2;rw[hr2.1] at d1;omega
theorem RN.keepZ{O:qE1}(pos:∀ (n b:Nat) (s:Int) (t:Tn n),O n b s t→1≤b){S:List Nat}{w w':World}(hK:Kp S w w')(hS:zE7 w S):∀ (n:Nat) (q:Nat) (t:Tn n),RN O n w q t→RN O n w' q t
 | 0,q,t,h=>by
  obtain⟨vp,h1,h2⟩:=h;have hn:∀ (k:Nat) (c:Array Value) (t:TypeId) (fr:Nat × Nat),w.heap[k]?=some (.cells c t fr)→t∈qF8→t≠81→k ∉ S:=fun k c t fr e ht hne hm=>by
   rcases hS k hm c t fr e with hx|⟨hx,_⟩
   ·exact hx ht
   ·exact hne hx
  refine⟨vp,hK.heap h1 (hn q _ _ _ h1 (by decide) (by decide)),h2.len,?_⟩;rcases h2.val with h|⟨g,off,cap,cur,fr,k1,k2,k3,k4,k5⟩
  ·exact .inl h
  ·exact .inr ⟨g,off,cap,cur,fr,k1,k2,k3,hK.heap k4 (hn g _ _ _ k4 (by decide) (by decide)),k5⟩
 | n+1,q,t,h=>by
  obtain⟨vl,h1,hs,h2,h3⟩:=h;refine⟨vl,hK.heap h1 (fun hm=>?_),hs,jR2 (pos n) hK hS h2 h3,h3.mono fun x y hr=>hr.mono (fun q hq=>RN.keepZ pos hK hS n q _ hq) (fun _ _ h=>h)⟩;rcases hS q hm _ _ _ h1 with hx|⟨hx,_⟩
  ·exact hx (by decide)
  ·cases hx
theorem qU5{α:Type}(low:α→ByteArray)(key:ByteArray)(l:List (List α)):(links low key l).length=l.length:=by
 cases l<;>simp[links]
theorem xB2{α:Type}(low:α→ByteArray)(key:ByteArray)(l:List (List α)):links low key l=(qC7 low key l).map fun x=>⟨x.1,none,x.2⟩:=by
 cases l<;>simp[links,qC7]
theorem jG4(x:Value)(w:World)(hx:∃ b n c,x=.slice b n c):
  Calls prog 134 #[x] w fun e w'=>∃ q,e=.returned (.pointer (some ⟨q,0,none⟩))∧w'.heap[q]?=some (υ 0 x (.slice none 0 0))∧Kp [] w w':=by
 obtain⟨b,n,c,rfl⟩:=hx;go_enter func134,ntmps134;go_wp2;go_ret;exact⟨w.heap.size,rfl,μ _ _,(Kp.refl _ _).alloc _⟩
theorem xN5(x:Value)(L:Nat)(lvl:Int)(w:World)(hx:∃ b n c,x=.slice b n c)(hL:w.heap[L]?=some (.cells #[.int .i64 lvl] 3)):
  Calls prog 173 #[x,.pointer (some ⟨L,0,none⟩)] w fun e w'=>∃ q,e=.returned (.pointer (some ⟨q,0,none⟩))∧w'.heap[q]?=some (υ lvl (.slice none 0 0) x)∧Kp [] w w':=by
 obtain⟨b,n,c,rfl⟩:=hx;have hLs:=ζ hL;have l0:=ξ hL 0;simp only[zG,zH,zI] at l0;go_enter func173,ntmps173;go_wp2;go_ret;exact⟨w.heap.size,rfl,μ _ _,(Kp.refl _ _).alloc _⟩
theorem qS6(O:qE1)(key:ByteArray)(v:Value)(ps:List KV)(w:World)(hs:Slc w 158 2 v ps.length (qB0 ps))(hn:ps.length≤1000000)(hz:∀ p∈ps,ρ p≤21)(hm:meas ρ ps≤210):
  Calls prog 93 #[.string key,v] w fun e w'=>∃ v',e=.returned v'∧RLs O 0 w' v' (qE7 key ps)∧Kp [] w w':=by
 have HC:Hid (∀ (args:Array Value) (W:World),Sem.run prog (callFunc 134 args) W=.ok (.enter 134 args) W):=fun args W=>by simp[go_sem,func134]
 go_enter func93,ntmps93;go_wp2_with fail;refine (xQ9 134 #[] (fun x=>υ 0 x (.slice none 0 0)) key v ps w hs hn hz hm HC.out (fun v=>⟨_,rfl⟩) (fun W x _ hx=>jG4 x W hx)).mono ?_;rintro e w1 ⟨v',rfl,hs1,hown,hlen,hMk,hK1⟩;go_wp2;go_ret;refine⟨v',rfl,⟨hs1,by rw[hlen];exact qF7 hown,?_⟩,hK1⟩;have e:qE7 key ps=(qC7 KV.k key (qB8 ρ ps)).map fun x=>(⟨x.1,none,x.2⟩:Lnk (Tn 0)):=xB2 _ _ _;refine⟨by rw[hlen,e,List.length_map,qP9],fun i h1 h2=>?_⟩;have h3:i<(qC7 KV.k key (qB8 ρ ps)).length:=by rw[qP9];omega
 obtain⟨k1,k2,k3,q,x,k4,k5,k6⟩:=hMk i h1 h3;have e2:(qE7 key ps)[i]=(⟨(qC7 KV.k key (qB8 ρ ps))[i].1,none,(qC7 KV.k key (qB8 ρ ps))[i].2⟩:Lnk (Tn 0)):=by
  simp only[e];exact List.getElem_map _
 rw[e2];exact⟨k1,k2,k3,q,k4,x,k5,k6.keep0 hK1⟩
theorem zT6{α β:Type}{f:α→Nat}{g:β→Nat}(all:Nat):∀ (a:List α) (b:List β) (n:Nat),a.map f=b.map g→qF2 f all a n=qF2 g all b n
 | [],[],_,_=>rfl
 | [],_::_,_,h=>by simp at h
 | _::_,[],_,h=>by simp at h
 | x::a,y::b,n,h=>by
  simp only[List.map_cons,List.cons.injEq] at h;unfold qF2;rw[h.1,zT6 all a b _ h.2]
theorem xB6{α β:Type}{f:α→Nat}{g:β→Nat}{a:List α}{b:List β}(h:a.map f=b.map g):meas f a=meas g b:=by unfold meas;rw[h]
theorem xN3{O:qE1}{n:Nat}{w:World}{hs:List HL}{ls:List (Lnk (Tn n))}(h:Both (RL O n w) hs ls):Both (Both (RL O n w)) (qB8 qA0 hs) (qB8 qA4 ls):=by
 have e:hs.map qA0=ls.map qA4:=h.map_eq fun x y hr=>by unfold qA0 qA4;rw[hr.1]
 have e1:=xB6 e;have e2:qF2 qA0 (meas qA0 hs) hs 0=qF2 qA4 (meas qA4 ls) ls 0:=by rw[e1];exact zT6 _ _ _ _ e
 unfold qB8;rw[e2,e1];split
 ·exact⟨rfl,fun i h1 h2=>by
   have:i=0:=by simp at h1;omega
   subst this;exact h⟩
 ·refine⟨rfl,fun i h1 h2=>?_⟩;have:i=0∨i=1:=by simp at h1;omega
  rcases this with rfl|rfl
  ·exact h.take _
  ·exact h.drop _
theorem xN4{O:qE1}{n:Nat}{w:World}{hv:List (List HL)}{lv:List (List (Lnk (Tn n)))}(h:Both (Both (RL O n w)) hv lv)(key:ByteArray):Both (fun x y=>x.1=y.1∧Both (RL O n w) x.2 y.2) (qC7 HL.key key hv) (qC7 Lnk.key key lv):=by
 refine⟨by rw[qP9,qP9,h.1],fun i h1 h2=>?_⟩;rw[qP9] at h1 h2;have e1:=zB1 (low:=HL.key) (key:=key) h1;have e2:=zB1 (low:=Lnk.key) (key:=key) h2;rw[List.getElem?_eq_getElem (by rw[qP9];exact h1)] at e1;rw[List.getElem?_eq_getElem (by rw[qP9];exact h2)] at e2;rw[Option.some.inj e1,Option.some.inj e2];have hb:=h.2 i h1 h2;refine⟨?_,hb⟩;have hm:=hb.map_eq (f:=HL.key) (g:=Lnk.key) fun x y hr=>hr.1;have hh:(hv[i].head?.map HL.key)=(lv[i].head?.map Lnk.key):=by rw[←List.head?_map,←List.head?_map,hm]
 simp only[hh]
theorem qT5(O:qE1)(n:Nat)(lvl:Int)(hlvl:lvl=((n+1:Nat):Int))(key:ByteArray)(v:Value)(ls:List (Lnk (Tn n)))(w:World)(hr:RLs O n w v ls)(hn:ls.length≤1000000)(hz:∀ l∈ls,qA4 l≤21)(hm:meas qA4 ls≤210):
  Calls prog 128 #[.string key,.int .i64 lvl,v] w fun e w'=>∃ v',e=.returned v'∧RLs O (n+1) w' v' (qD5 n key ls)∧Kp [] w w':=by
 have hmf:=zM;have HC:Hid (∀ (args:Array Value) (W:World),Sem.run prog (callFunc 173 args) W=.ok (.enter 173 args) W):=fun args W=>by simp[go_sem,func173]
 obtain⟨hs,hsl,hb⟩:=hr;have hmap:hs.map qA0=ls.map qA4:=hb.map_eq fun x y hr=>by unfold qA0 qA4;rw[hr.1]
 have hz':∀ h∈hs,qA0 h≤21:=fun h hh=>by
  have:qA0 h∈hs.map qA0:=List.mem_map_of_mem hh;rw[hmap] at this;obtain⟨l,hl,e⟩:=List.mem_map.1 this;rw[←e];exact hz l hl
 have HB:=zh hb;have hml:meas qA0 hs≤210:=by rw[xB6 hmap];exact hm
 have hnl:hs.length≤1000000:=by rw[hb.1];exact hn
 clear hb hmap;have HV:=zh hlvl;clear hlvl;go_enter func128,ntmps128;go_wp2_with fail;have hL0:=μ w (.cells #[.int .i64 lvl] 3);have hK0:Kp [] w (w.alloc (.cells #[.int .i64 lvl] 3)):=(Kp.refl _ _).alloc _;refine (xQ8 173 _ (fun x=>υ lvl (.slice none 0 0) x) key v hs _ (hsl.keep0 hK0) hnl hz' hml HC.out (fun v=>⟨_,rfl⟩) ?_).mono ?_
 ·intro W x hKW hx;exact xN5 x w.heap.size lvl W hx (hKW.hp hL0)
 rintro e w1 ⟨v',rfl,hs1,hown,hlen,hMk,hK1⟩;have hK1':Kp [] w w1:=hK0.tr hK1;go_wp2;go_ret;refine⟨v',rfl,⟨hs1,by rw[hlen];exact qF7 hown,?_⟩,hK1'⟩;have e:qD5 n key ls=(qC7 Lnk.key key (qB8 qA4 ls)).map fun x=>(⟨x.1,none,x.2⟩:Lnk (Tn (n+1))):=xB2 _ _ _;have hk:=xN4 (xN3 HB.out) key;have hkl:=hk.1;refine⟨by rw[hlen,e,List.length_map,←hkl,qP9],fun i h1 h2=>?_⟩;have h3:i<(qC7 HL.key key (qB8 qA0 hs)).length:=by rw[qP9];omega
 have h4:i<(qC7 Lnk.key key (qB8 qA4 ls)).length:=by rw[←hkl];exact h3
 obtain⟨k1,k2,k3,q,x,k4,k5,k6⟩:=hMk i h1 h3;obtain⟨m1,m2⟩:=hk.2 i h3 h4;have e2:(qD5 n key ls)[i]=(⟨(qC7 Lnk.key key (qB8 qA4 ls))[i].1,none,(qC7 Lnk.key key (qB8 qA4 ls))[i].2⟩:Lnk (Tn (n+1))):=by
  simp only[e];exact List.getElem_map _
 rw[e2];have hRL:RLs O n w1 x ((qC7 Lnk.key key (qB8 qA4 ls))[i].2):=⟨_,k6.keep0 hK1,m2.mono fun a b hr=>RL.keep hr hK1' (Apt.nil _ _)⟩;have hRN:RN O (n+1) w1 q ((qC7 Lnk.key key (qB8 qA4 ls))[i].2):=⟨x,by rw[←HV.out];exact k5,hRL⟩;have hkk:hs1[i].key=(qC7 Lnk.key key (qB8 qA4 ls))[i].1:=by rw[k1,m1]
 exact⟨hkk,k2,k3,q,k4,hRN⟩
theorem jP2(ps:List KV):∀ u∈qB0 ps,u.oneCell'=true:=by
 intro u hu;simp only[qB0,pcs,List.mem_flatMap,List.mem_cons,List.not_mem_nil,or_false] at hu;obtain⟨p,_,rfl|rfl⟩:=hu<;>rfl
theorem jG2(ps:List HL):∀ u∈qA7 ps,u.oneCell'=true:=by
 intro u hu;simp only[qA7,lcs,List.mem_flatMap,List.mem_cons,List.not_mem_nil,or_false] at hu;obtain⟨p,_,rfl|rfl|rfl|rfl⟩:=hu<;>rfl
theorem jP1(a b:List KV):qB0 (a++b)=qB0 a++qB0 b:=by simp[qB0]
theorem jG1(a b:List HL):qA7 (a++b)=qA7 a++qA7 b:=by simp[qA7]
theorem xU5{α:Type}(l:List (List α))(j:Nat)(h:j<l.length):(l.take (j+1)).flatten=(l.take j).flatten++l[j]:=by
 rw[List.take_succ_eq_append_getElem h,List.flatten_append];simp only[List.flatten_cons,List.flatten_nil,List.append_nil]
theorem xU6{α:Type}(l:List (List α))(j:Nat):(l.take j).flatten.length≤l.flatten.length:=by
 have h:=congrArg (fun l=>l.flatten.length) (List.take_append_drop j l);simp only[List.flatten_append,List.length_append] at h;omega
def qL4{α:Type}(l:List (List α))(j:Nat):List α:=(l.take j).flatten
def tot{α:Type}(l:List (List α))(j:Nat):Nat:=(qL4 l j).length
theorem zF9{α:Type}(l:List (List α))(j:Nat)(h:j<l.length):qL4 l (j+1)=qL4 l j++l[j]:=xU5 l j h
theorem zD9{α:Type}(l:List (List α))(j:Nat)(h:j<l.length):tot l (j+1)=tot l j+l[j].length:=by unfold tot;rw[zF9 l j h,List.length_append]
theorem xG7{α:Type}(l:List (List α))(j:Nat):tot l j≤l.flatten.length:=xU6 l j
theorem qZ1{α:Type}(l:List (List α)):qL4 l l.length=l.flatten:=by unfold qL4;rw[List.take_length]
theorem zE6(z:Array Value)(n:Nat):(Builtin.zeroCells z n).size=z.size*n:=by
 simp[Builtin.zeroCells,Nat.mul_comm]
theorem xY1(n:Nat)(w:World)(hn:n≤1000000):
  Calls prog 195 #[.slice none 0 0,.int .i64 n] w fun e w'=>∃ v',e=.returned v'∧w'.ownsRow w.heap.size 158 2 v' 0 []∧Kp [] w w':=by
 obtain⟨i0,hi,hz0,hz1,hz2⟩:=info_parts zH6;by_cases h0:n=0
 ·subst h0;go_enter func195,ntmps195;go_wp2;go_ret;exact⟨_,rfl,World.ownsRow_nil _ _ _ _,Kp.refl _ _⟩
 ·have h1:¬((n:Int)<0):=by omega
  have h4:(0:Int)<(n:Int):=by omega
  have hrz:∀ ty,(Builtin.append_ #[149,3] ty #[.slice none 0 0,.int .i64 (n:Int)]).run prog w =
    .ok (.slice (some ⟨w.heap.size,0,none⟩) n (grownCap w n 0 158)) (w.drew.alloc (.cells (Builtin.zeroCells (Value.agg _).cells n++Builtin.zeroCells (Value.agg _).cells (grownCap w n 0 158-n)) 158)):=fun ty=>by
   have h:=Lib.run_append_grow_zeros (P:=prog) w 149 3 ty 158 i0 _ .i64 .i64 underlying149 underlying3 hi hz0 none 0 0 [] (run_firstCells_none w.drew i0.size 0 0 0) n (by omega) (by rw[hz1];decide) (by omega) (by omega) (by rw[hz2];omega) (by rw[hz2];exact growslice_fits (by omega) (by omega));simpa using h
  have hGn:n≤grownCap w n 0 158:=grownCap_ge w _ _ _;have hGm:=grownCap_le_maxLen w n 0 158 (by unfold maxLen;omega);obtain⟨G,hG⟩:∃ G,G=grownCap w n 0 158:=⟨_,rfl⟩;rw[←hG] at hrz hGn hGm;have hG63:G≤9223372036854775807:=by unfold maxLen at hGm;omega
  clear hG;go_enter func195,ntmps195
  go_wp2_with (at_builtin;refine Lib.wpList_append_run _ rfl _ _ _ _ rfl _ _ rfl rfl _ _ (hrz _) ?_)
  go_ret;refine⟨_,rfl,⟨rfl,.inr ⟨w.heap.size,G,_,rfl,Nat.le_refl _,μ _ _,Nat.zero_le _,hGm,?_,?_⟩⟩,((Kp.refl _ _).drew).alloc _⟩
  ·rw[Array.size_append,zE6,zE6];show 2*n+2*(G-n)=G*2;omega
  ·simp
theorem qZ4(gs:Nat)(vs:List Value)(pss:List (List KV))(w:World)(hG:w.heap[gs]?=some (.cells vs.toArray 149))(hs:qY5 w 158 2 vs (pss.map fun l=>(l.length,qB0 l)))(ps:List KV)(hps:pss.flatten=ps)(hn:ps.length≤1000000)(hl:pss.length≤1000):
  Calls prog 174 #[.slice (some ⟨gs,0,none⟩) pss.length pss.length] w fun e w'=>∃ v',e=.returned v'∧w'.ownsRow w.heap.size 158 2 v' ps.length (qB0 ps)∧Kp [] w w':=by
 obtain⟨i0,hi,hz0,hz1,hz2⟩:=info_parts zH6;have hvl:vs.length=pss.length:=by have:=hs.1;rw[List.length_map] at this;exact this
 have HVS:Hid (∀ i (h:i<pss.length) (h':i<vs.length),Slc w 158 2 vs[i] pss[i].length (qB0 pss[i])):=fun i h h'=>by
  have:=hs.2 i (by simpa using h) h';simpa using this
 have HG:=zh hG;clear hs hG;have hall:ps.length=tot pss pss.length:=by unfold tot;rw[qZ1,hps]
 rw[hall] at hn;have HALL:=zh hall;have HPS:Hid (qL4 pss pss.length=ps):=by show _=_;rw[qZ1,hps]
 have hto:∀ j,tot pss j≤tot pss pss.length:=fun j=>by rw[←hall,←hps];exact xG7 pss j
 clear hall hps;go_enter func174,ntmps174;go_wp2
 go_loop [3,11] (fun s i=>∃ (j:Nat),j≤pss.length∧i=.int .i64 j∧s=.int .i64 (tot pss j:Nat)) (fun _ i=>pss.length-(intOf i).toNat)
 case atStart=>exact⟨0,Nat.zero_le _,rfl,rfl⟩
 case round=>
  obtain⟨j,hj,rfl,rfl⟩:=hrel;have hfl:=hto j;by_cases hlt:j<pss.length
  ·have hjb:(j:Int)<(pss.length:Int):=by omega
   have hvj:=HVS.out j hlt (by omega);have h0:=ξ HG.out j;rw[zG,List.getElem?_eq_getElem (show j<vs.length by omega)] at h0;have hgs:=ζ HG.out;obtain⟨bs,cp,hv⟩:∃ bs cp,vs[j]=.slice bs pss[j].length cp:=by
    rcases hvj.val with⟨h0,b,c,h1,_⟩|⟨g,off,cap,cur,fr,h1,_⟩
    ·rw[h0];exact⟨b,c,h1⟩
    ·exact⟨_,cap,h1⟩
   rw[hv] at h0;have HF:Hid (tot pss (j+1)=tot pss j+pss[j].length):=zD9 pss j hlt;have hf1:=hto (j+1);rw[HF.out] at hf1;have hnn:¬((tot pss j:Nat):Int)+(pss[j].length:Int)<0:=by omega
   clear hvj hv;go_wp2;refine⟨⟨j+1,by omega,by go_num,by rw[HF.out];go_num⟩,by simp[intOf];omega⟩
  ·have hjb:¬(j:Int)<(pss.length:Int):=by omega
   have e:j=pss.length:=by omega
   subst e;go_wp2_with fail;refine (xY1 _ w hn).mono ?_;rintro e w1 ⟨v1,rfl,hown1,hK1⟩;have HK1:=zh hK1;have HO1:=zh hown1;clear hK1 hown1;go_wp2
   go_loopw [6,27] (fun s i wr=>∃ (j:Nat),j≤pss.length∧i=.int .i64 j∧wr.ownsRow w.heap.size 158 2 s (tot pss j) (qB0 (qL4 pss j))∧Kp [] w wr) (fun _ i _=>pss.length-(intOf i).toNat)
   case atStart=>exact⟨0,Nat.zero_le _,rfl,HO1.out,HK1.out⟩
   case round=>
    obtain⟨j,hj,rfl,hown,hK⟩:=hrel;by_cases hlt:j<pss.length
    ·have hjb:(j:Int)<(pss.length:Int):=by omega
     have hvj:=(HVS.out j hlt (by omega)).keep0 hK;have hGr:=hK.hp HG.out;have h0:=ξ hGr j;rw[zG,List.getElem?_eq_getElem (show j<vs.length by omega)] at h0;have hgs:=ζ hGr;have HT:Hid (tot pss (j+1)=tot pss j+pss[j].length):=zD9 pss j hlt;have HF:Hid (qB0 (qL4 pss (j+1))=qB0 (qL4 pss j)++qB0 pss[j]):=by show _=_;rw[zF9 pss j hlt,jP1]
     have hf1:=hto (j+1);rw[HT.out] at hf1;have hsz:=hK.size;obtain⟨vj,hvj0⟩:∃ vj,vs[j]=vj:=⟨_,rfl⟩;rw[hvj0] at hvj h0;obtain⟨hln,hval⟩:=hvj;by_cases hnone:vj=.slice none 0 0
     ·have hl0:pss[j].length=0:=by
       rcases hval with⟨h0,_⟩|⟨g,off,cap,cur,fr,h1,_⟩
       ·exact h0
       ·rw[hnone] at h1;cases h1
      subst hnone;have HL0:=zh hl0;clear hval hln hvj0 hl0
      go_wp2_with (at_builtin;refine wpList_append_own_none rfl _ _ 149 rfl w.heap.size 158 i0 2 underlying149 hi _ _ _ rfl hown rfl ?_)
      refine⟨⟨j+1,by omega,by go_num,?_,hK⟩,by simp[intOf];omega⟩;rw[HT.out,HF.out,HL0.out,List.length_eq_zero_iff.1 HL0.out];simpa [qB0] using hown
     ·obtain⟨ad,cp,hv⟩:∃ ad cp,vj=.slice (some ad) pss[j].length cp:=by
       rcases hval with⟨h0,b,c,h1,h2⟩|⟨g,off,cap,cur,fr,h1,_⟩
       ·rw[h0]
        cases b with
        | none=>rw[h2 rfl] at h1;exact absurd h1 hnone
        | some a=>exact⟨a,c,h1⟩
       ·exact⟨_,cap,h1⟩
      have hcell:∀ k u,(qB0 pss[j])[k]?=some u→wr.cell? (ad.add k)=some u:=by
       intro k u hu;rcases hval with⟨h0,_⟩|⟨g,off,cap,cur,fr,h1,_,_,h4,h5⟩
       ·rw[List.length_eq_zero_iff.1 h0] at hu;simp[qB0] at hu
       ·rw[hv] at h1;simp only[Value.slice.injEq,Option.some.injEq] at h1;rw[h1.1,qM5,ξ h4];exact h5 k u hu
      subst hv;have HC:=zh hcell;clear hval hnone hvj0 hcell
      go_wp2_with (at_builtin;refine wpList_append_own _ rfl _ _ 149 rfl w.heap.size 158 i0 _ 2 32 underlying149 hi hz0 hz1 hz2 rfl (by decide) _ _ _ rfl hown ad pss[j].length cp (qB0 pss[j]) rfl hln HC.out (jP2 _) (by unfold maxLen;omega) (by omega) hsz ?_;intro v2 w2 hown2 hgrow2 _)
      refine⟨⟨j+1,by omega,by go_num,?_,hK.grown hgrow2 (fun k hk=>Or.inr (qH7 hown k hk))⟩,by simp[intOf];omega⟩;rw[HT.out,HF.out];exact hown2
    ·have hjb:¬(j:Int)<(pss.length:Int):=by omega
     have e:j=pss.length:=by omega
     go_wp2;go_ret;subst e;rw[HPS.out] at hown;exact⟨_,rfl,by rw[HALL.out];exact hown,hK⟩
theorem xY0(n:Nat)(w:World)(hn:n≤1000000):
  Calls prog 196 #[.slice none 0 0,.int .i64 n] w fun e w'=>∃ v',e=.returned v'∧w'.ownsRow w.heap.size 81 4 v' 0 []∧Kp [] w w':=by
 obtain⟨i0,hi,hz0,hz1,hz2⟩:=info_parts qR2;by_cases h0:n=0
 ·subst h0;go_enter func196,ntmps196;go_wp2;go_ret;exact⟨_,rfl,World.ownsRow_nil _ _ _ _,Kp.refl _ _⟩
 ·have h1:¬((n:Int)<0):=by omega
  have h4:(0:Int)<(n:Int):=by omega
  have hrz:∀ ty,(Builtin.append_ #[150,3] ty #[.slice none 0 0,.int .i64 (n:Int)]).run prog w =
    .ok (.slice (some ⟨w.heap.size,0,none⟩) n (grownCap w n 0 81)) (w.drew.alloc (.cells (Builtin.zeroCells (Value.agg _).cells n++Builtin.zeroCells (Value.agg _).cells (grownCap w n 0 81-n)) 81)):=fun ty=>by
   have h:=Lib.run_append_grow_zeros (P:=prog) w 150 3 ty 81 i0 _ .i64 .i64 underlying150 underlying3 hi hz0 none 0 0 [] (run_firstCells_none w.drew i0.size 0 0 0) n (by omega) (by rw[hz1];decide) (by omega) (by omega) (by rw[hz2];omega) (by rw[hz2];exact growslice_fits (by omega) (by omega));simpa using h
  have hGn:n≤grownCap w n 0 81:=grownCap_ge w _ _ _;have hGm:=grownCap_le_maxLen w n 0 81 (by unfold maxLen;omega);obtain⟨G,hG⟩:∃ G,G=grownCap w n 0 81:=⟨_,rfl⟩;rw[←hG] at hrz hGn hGm;have hG63:G≤9223372036854775807:=by unfold maxLen at hGm;omega
  clear hG;go_enter func196,ntmps196
  go_wp2_with (at_builtin;refine Lib.wpList_append_run _ rfl _ _ _ _ rfl _ _ rfl rfl _ _ (hrz _) ?_)
  go_ret;refine⟨_,rfl,⟨rfl,.inr ⟨w.heap.size,G,_,rfl,Nat.le_refl _,μ _ _,Nat.zero_le _,hGm,?_,?_⟩⟩,((Kp.refl _ _).drew).alloc _⟩
  ·rw[Array.size_append,zE6,zE6];show 4*n+4*(G-n)=G*4;omega
  ·simp
theorem qZ3(gs:Nat)(vs:List Value)(pss:List (List HL))(w:World)(hG:w.heap[gs]?=some (.cells vs.toArray 150))(hs:qY5 w 81 4 vs (pss.map fun l=>(l.length,qA7 l)))(ps:List HL)(hps:pss.flatten=ps)(hn:ps.length≤1000000)(hl:pss.length≤1000):
  Calls prog 175 #[.slice (some ⟨gs,0,none⟩) pss.length pss.length] w fun e w'=>∃ v',e=.returned v'∧w'.ownsRow w.heap.size 81 4 v' ps.length (qA7 ps)∧Kp [] w w':=by
 obtain⟨i0,hi,hz0,hz1,hz2⟩:=info_parts qR2;have hvl:vs.length=pss.length:=by have:=hs.1;rw[List.length_map] at this;exact this
 have HVS:Hid (∀ i (h:i<pss.length) (h':i<vs.length),Slc w 81 4 vs[i] pss[i].length (qA7 pss[i])):=fun i h h'=>by
  have:=hs.2 i (by simpa using h) h';simpa using this
 have HG:=zh hG;clear hs hG;have hall:ps.length=tot pss pss.length:=by unfold tot;rw[qZ1,hps]
 rw[hall] at hn;have HALL:=zh hall;have HPS:Hid (qL4 pss pss.length=ps):=by show _=_;rw[qZ1,hps]
 have hto:∀ j,tot pss j≤tot pss pss.length:=fun j=>by rw[←hall,←hps];exact xG7 pss j
 clear hall hps;go_enter func175,ntmps175;go_wp2
 go_loop [3,11] (fun s i=>∃ (j:Nat),j≤pss.length∧i=.int .i64 j∧s=.int .i64 (tot pss j:Nat)) (fun _ i=>pss.length-(intOf i).toNat)
 case atStart=>exact⟨0,Nat.zero_le _,rfl,rfl⟩
 case round=>
  obtain⟨j,hj,rfl,rfl⟩:=hrel;have hfl:=hto j;by_cases hlt:j<pss.length
  ·have hjb:(j:Int)<(pss.length:Int):=by omega
   have hvj:=HVS.out j hlt (by omega);have h0:=ξ HG.out j;rw[zG,List.getElem?_eq_getElem (show j<vs.length by omega)] at h0;have hgs:=ζ HG.out;obtain⟨bs,cp,hv⟩:∃ bs cp,vs[j]=.slice bs pss[j].length cp:=by
    rcases hvj.val with⟨h0,b,c,h1,_⟩|⟨g,off,cap,cur,fr,h1,_⟩
    ·rw[h0];exact⟨b,c,h1⟩
    ·exact⟨_,cap,h1⟩
   rw[hv] at h0;have HF:Hid (tot pss (j+1)=tot pss j+pss[j].length):=zD9 pss j hlt;have hf1:=hto (j+1);rw[HF.out] at hf1;have hnn:¬((tot pss j:Nat):Int)+(pss[j].length:Int)<0:=by omega
   clear hvj hv;go_wp2;refine⟨⟨j+1,by omega,by go_num,by rw[HF.out];go_num⟩,by simp[intOf];omega⟩
  ·have hjb:¬(j:Int)<(pss.length:Int):=by omega
   have e:j=pss.length:=by omega
   subst e;go_wp2_with fail;refine (xY0 _ w hn).mono ?_;rintro e w1 ⟨v1,rfl,hown1,hK1⟩;have HK1:=zh hK1;have HO1:=zh hown1;clear hK1 hown1;go_wp2
   go_loopw [6,27] (fun s i wr=>∃ (j:Nat),j≤pss.length∧i=.int .i64 j∧wr.ownsRow w.heap.size 81 4 s (tot pss j) (qA7 (qL4 pss j))∧Kp [] w wr) (fun _ i _=>pss.length-(intOf i).toNat)
   case atStart=>exact⟨0,Nat.zero_le _,rfl,HO1.out,HK1.out⟩
   case round=>
    obtain⟨j,hj,rfl,hown,hK⟩:=hrel;by_cases hlt:j<pss.length
    ·have hjb:(j:Int)<(pss.length:Int):=by omega
     have hvj:=(HVS.out j hlt (by omega)).keep0 hK;have hGr:=hK.hp HG.out;have h0:=ξ hGr j;rw[zG,List.getElem?_eq_getElem (show j<vs.length by omega)] at h0;have hgs:=ζ hGr;have HT:Hid (tot pss (j+1)=tot pss j+pss[j].length):=zD9 pss j hlt;have HF:Hid (qA7 (qL4 pss (j+1))=qA7 (qL4 pss j)++qA7 pss[j]):=by show _=_;rw[zF9 pss j hlt,jG1]
     have hf1:=hto (j+1);rw[HT.out] at hf1;have hsz:=hK.size;obtain⟨vj,hvj0⟩:∃ vj,vs[j]=vj:=⟨_,rfl⟩;rw[hvj0] at hvj h0;obtain⟨hln,hval⟩:=hvj;by_cases hnone:vj=.slice none 0 0
     ·have hl0:pss[j].length=0:=by
       rcases hval with⟨h0,_⟩|⟨g,off,cap,cur,fr,h1,_⟩
       ·exact h0
       ·rw[hnone] at h1;cases h1
      subst hnone;have HL0:=zh hl0;clear hval hln hvj0 hl0
      go_wp2_with (at_builtin;refine wpList_append_own_none rfl _ _ 150 rfl w.heap.size 81 i0 4 underlying150 hi _ _ _ rfl hown rfl ?_)
      refine⟨⟨j+1,by omega,by go_num,?_,hK⟩,by simp[intOf];omega⟩;rw[HT.out,HF.out,HL0.out,List.length_eq_zero_iff.1 HL0.out];simpa [qA7] using hown
     ·obtain⟨ad,cp,hv⟩:∃ ad cp,vj=.slice (some ad) pss[j].length cp:=by
       rcases hval with⟨h0,b,c,h1,h2⟩|⟨g,off,cap,cur,fr,h1,_⟩
       ·rw[h0]
        cases b with
        | none=>rw[h2 rfl] at h1;exact absurd h1 hnone
        | some a=>exact⟨a,c,h1⟩
       ·exact⟨_,cap,h1⟩
      have hcell:∀ k u,(qA7 pss[j])[k]?=some u→wr.cell? (ad.add k)=some u:=by
       intro k u hu;rcases hval with⟨h0,_⟩|⟨g,off,cap,cur,fr,h1,_,_,h4,h5⟩
       ·rw[List.length_eq_zero_iff.1 h0] at hu;simp[qA7] at hu
       ·rw[hv] at h1;simp only[Value.slice.injEq,Option.some.injEq] at h1;rw[h1.1,qM5,ξ h4];exact h5 k u hu
      subst hv;have HC:=zh hcell;clear hval hnone hvj0 hcell
      go_wp2_with (at_builtin;refine wpList_append_own _ rfl _ _ 150 rfl w.heap.size 81 i0 _ 4 40 underlying150 hi hz0 hz1 hz2 rfl (by decide) _ _ _ rfl hown ad pss[j].length cp (qA7 pss[j]) rfl hln HC.out (jG2 _) (by unfold maxLen;omega) (by omega) hsz ?_;intro v2 w2 hown2 hgrow2 _)
      refine⟨⟨j+1,by omega,by go_num,?_,hK.grown hgrow2 (fun k hk=>Or.inr (qH7 hown k hk))⟩,by simp[intOf];omega⟩;rw[HT.out,HF.out];exact hown2
    ·have hjb:¬(j:Int)<(pss.length:Int):=by omega
     have e:j=pss.length:=by omega
     go_wp2;go_ret;subst e;rw[HPS.out] at hown;exact⟨_,rfl,by rw[HALL.out];exact hown,hK⟩
theorem zL5(v vb:Value)(ps bs:List KV)(i j:Nat)(w:World)(hs:Slc w 158 2 v ps.length (qB0 ps))(hb:Slc w 158 2 vb bs.length (qB0 bs))(hij:i≤j)(hj:j≤ps.length)(h1:1≤ps.length)(hn:ps.length≤10000)(hnb:bs.length≤10000):
  Calls prog 130 #[v,.int .i64 i,.int .i64 j,vb] w fun e w'=>∃ v',e=.returned v'∧Slc w' 158 2 v' (ps.take i++bs++ps.drop j).length (qB0 (ps.take i++bs++ps.drop j))∧Kp [] w w':=by
 obtain⟨gb,off,cp,cur,fr,rfl,hcp,hrow,_⟩:=hs.pair h1;have hcs:∀ k u,(qB0 ps)[k]?=some u→cur[off+k]?=some u:=by
  rcases hs.val with⟨h0,_⟩|⟨g',off',cap',cur',fr',h1,_,_,h4,h5⟩
  ·omega
  ·simp only[Value.slice.injEq,Option.some.injEq,Addr.mk.injEq] at h1;obtain⟨⟨rfl,rfl,_⟩,_,_⟩:=h1;rw[hrow] at h4;cases h4;exact h5
 obtain⟨bb,bc,hvb⟩:∃ bb bc,vb=.slice bb bs.length bc:=by
  rcases hb.val with⟨h0,b,c,h1,_⟩|⟨g,off,cap,cur,fr,h1,_⟩
  ·rw[h0];exact⟨b,c,h1⟩
  ·exact⟨_,cap,h1⟩
 subst hvb;obtain⟨s3,hs3,hS3,hsl3⟩:∃ s3,(∃ q m c,s3=.slice (some q) m c)∧Slc w 158 2 s3 (ps.drop j).length (qB0 (ps.drop j))∧((j=cp∧s3=.slice (some ⟨gb,off,none⟩) 0 0)∨(j≠cp∧s3=.slice (some ⟨gb,off+j*2,none⟩) (ps.length-j) (cp-j))):=by
  by_cases hjc:j=cp
  ·refine⟨_,⟨_,_,_,rfl⟩,⟨?_,.inl ⟨?_,_,_,rfl,by simp⟩⟩,.inl ⟨hjc,rfl⟩⟩
   ·rw[zL4]
   ·simp;omega
  ·refine⟨_,⟨_,_,_,rfl⟩,?_,.inr ⟨hjc,rfl⟩⟩;have:=qS0 (T:=158) (sz:=2) hrow hcs hs.len j (ps.length-j) (cp-j) (by omega) (by omega);rw[←xD9,List.take_of_length_le (by rw[zL4];simp)] at this;simpa using this
 have hS1:Slc w 158 2 (.slice (some ⟨gb,off,none⟩) i cp) (ps.take i).length (qB0 (ps.take i)):=by
  have:=qS0 (T:=158) (sz:=2) hrow hcs hs.len 0 i cp (by omega) (by omega);simp only[Nat.zero_mul,Nat.add_zero,List.drop_zero] at this;rw[←xE1] at this;simpa [Nat.min_eq_left (show i≤ps.length by omega)] using this
 obtain⟨q3,m3,c3,rfl⟩:=hs3;have HS1:=zh hS1;have HS3:=zh hS3;have HB:=zh hb;have hi':(i:Int)≤(cp:Int):=by omega
 have hj':(j:Int)≤(ps.length:Int):=by omega
 have hjc:(j:Int)≤(cp:Int):=by omega
 have HSL:=zh hsl3;clear hS1 hS3 hb hs hsl3;go_enter func130,ntmps130;go_wp2_with fail;refine wp_region_any (by kernel_rfl) ?_;change wpAny _ _ _ _ _ _ _ (World.drew _);refine zu 0 (.slice (some ⟨gb,off,none⟩) ps.length cp) ?_;refine zu 1 (.int .i64 i) ?_;refine zu 2 (.slice (some ⟨gb,off,none⟩) i cp) ?_;refine zu 3 (.slice bb bs.length bc) ?_;refine zu 4 (.slice (some ⟨gb,off,none⟩) ps.length cp) ?_;refine zu 5 (.int .i64 j) ?_;refine wpAny_take (i:=6) (v:=.slice (some q3) m3 c3) rfl (by kernel_rfl) (by kernel_rfl) (by kernel_rfl) (fun _ _ _ h=>h) (Or.inl ⟨by rfl,fun w=>by
  rcases HSL.out with⟨e1,e2⟩|⟨e1,e2⟩
  ·have e3:ps.length=cp:=by omega
   rw[e2];subst e1;go_simp
  ·rw[e2];have hjn:¬cp=j:=fun e=>e1 e.symm;go_simp⟩) ?_
 try simp only[zZ]
 refine zQ 7 fun K hK=>?_;go_simp;obtain⟨w2,hw2,hG2,hK2⟩:∃ w2,w2=(w.alloc (.cells #[.slice (some ⟨gb,off,none⟩) i cp,.slice bb bs.length bc,.slice (some q3) m3 c3] 149)).drew∧w2.heap[w.heap.size]?=some (.cells #[.slice (some ⟨gb,off,none⟩) i cp,.slice bb bs.length bc,.slice (some q3) m3 c3] 149)∧Kp [] w w2:=⟨_,rfl,μ _ _,((Kp.refl _ _).alloc _).drew⟩;rw[←hw2];clear hw2;refine hK _ _ ?_;clear hK K
 try simp only[zZ]
 refine zQ 8 fun K hK=>?_;go_simp;refine (qZ4 w.heap.size [.slice (some ⟨gb,off,none⟩) i cp,.slice bb bs.length bc,.slice (some q3) m3 c3] [ps.take i,bs,ps.drop j] w2 hG2 ⟨rfl,fun k h1 h2=>?_⟩ (ps.take i++bs++ps.drop j) (by simp) (by simp;omega) (by simp)).mono ?_
 ·have hk:k=0∨k=1∨k=2:=by simp at h1;omega
  rcases hk with rfl|rfl|rfl
  ·exact HS1.out.keep0 hK2
  ·exact HB.out.keep0 hK2
  ·exact HS3.out.keep0 hK2
 rintro e w3 ⟨v3,rfl,hown3,hK3⟩;have hK3':Kp [] w w3:=hK2.tr hK3;refine hK _ _ ?_;clear hK K
 try simp only[zZ]
 refine zQ 9 fun K hK=>?_;go_simp;refine hK _ _ ?_;clear hK K;refine wpAny_done (by kernel_rfl) ?_ _;have HO:Hid (Slc w3 158 2 v3 (ps.take i++bs++ps.drop j).length (qB0 (ps.take i++bs++ps.drop j))):=qF7 hown3;clear hown3;go_wp2;go_ret;have hO:=HO.out;exact⟨v3,rfl,by simpa using hO,hK3'⟩
theorem qR7(v vb:Value)(ps bs:List HL)(i j:Nat)(w:World)(hs:Slc w 81 4 v ps.length (qA7 ps))(hb:Slc w 81 4 vb bs.length (qA7 bs))(hij:i≤j)(hj:j≤ps.length)(h1:1≤ps.length)(hn:ps.length≤10000)(hnb:bs.length≤10000):
  Calls prog 131 #[v,.int .i64 i,.int .i64 j,vb] w fun e w'=>∃ v',e=.returned v'∧Slc w' 81 4 v' (ps.take i++bs++ps.drop j).length (qA7 (ps.take i++bs++ps.drop j))∧Kp [] w w':=by
 obtain⟨gb,off,cp,cur,fr,rfl,hcp,hrow,_⟩:=hs.link h1;have hcs:∀ k u,(qA7 ps)[k]?=some u→cur[off+k]?=some u:=by
  rcases hs.val with⟨h0,_⟩|⟨g',off',cap',cur',fr',h1,_,_,h4,h5⟩
  ·omega
  ·simp only[Value.slice.injEq,Option.some.injEq,Addr.mk.injEq] at h1;obtain⟨⟨rfl,rfl,_⟩,_,_⟩:=h1;rw[hrow] at h4;cases h4;exact h5
 obtain⟨bb,bc,hvb⟩:∃ bb bc,vb=.slice bb bs.length bc:=by
  rcases hb.val with⟨h0,b,c,h1,_⟩|⟨g,off,cap,cur,fr,h1,_⟩
  ·rw[h0];exact⟨b,c,h1⟩
  ·exact⟨_,cap,h1⟩
 subst hvb;obtain⟨s3,hs3,hS3,hsl3⟩:∃ s3,(∃ q m c,s3=.slice (some q) m c)∧Slc w 81 4 s3 (ps.drop j).length (qA7 (ps.drop j))∧((j=cp∧s3=.slice (some ⟨gb,off,none⟩) 0 0)∨(j≠cp∧s3=.slice (some ⟨gb,off+j*4,none⟩) (ps.length-j) (cp-j))):=by
  by_cases hjc:j=cp
  ·refine⟨_,⟨_,_,_,rfl⟩,⟨?_,.inl ⟨?_,_,_,rfl,by simp⟩⟩,.inl ⟨hjc,rfl⟩⟩
   ·rw[zJ4]
   ·simp;omega
  ·refine⟨_,⟨_,_,_,rfl⟩,?_,.inr ⟨hjc,rfl⟩⟩;have:=qS0 (T:=81) (sz:=4) hrow hcs hs.len j (ps.length-j) (cp-j) (by omega) (by omega);rw[←xA3,List.take_of_length_le (by rw[zJ4];simp)] at this;simpa using this
 have hS1:Slc w 81 4 (.slice (some ⟨gb,off,none⟩) i cp) (ps.take i).length (qA7 (ps.take i)):=by
  have:=qS0 (T:=81) (sz:=4) hrow hcs hs.len 0 i cp (by omega) (by omega);simp only[Nat.zero_mul,Nat.add_zero,List.drop_zero] at this;rw[←xA5] at this;simpa [Nat.min_eq_left (show i≤ps.length by omega)] using this
 obtain⟨q3,m3,c3,rfl⟩:=hs3;have HS1:=zh hS1;have HS3:=zh hS3;have HB:=zh hb;have hi':(i:Int)≤(cp:Int):=by omega
 have hj':(j:Int)≤(ps.length:Int):=by omega
 have hjc:(j:Int)≤(cp:Int):=by omega
 have HSL:=zh hsl3;clear hS1 hS3 hb hs hsl3;go_enter func131,ntmps131;go_wp2_with fail;refine wp_region_any (by kernel_rfl) ?_;change wpAny _ _ _ _ _ _ _ (World.drew _);refine zu 0 (.slice (some ⟨gb,off,none⟩) ps.length cp) ?_;refine zu 1 (.int .i64 i) ?_;refine zu 2 (.slice (some ⟨gb,off,none⟩) i cp) ?_;refine zu 3 (.slice bb bs.length bc) ?_;refine zu 4 (.slice (some ⟨gb,off,none⟩) ps.length cp) ?_;refine zu 5 (.int .i64 j) ?_;refine wpAny_take (i:=6) (v:=.slice (some q3) m3 c3) rfl (by kernel_rfl) (by kernel_rfl) (by kernel_rfl) (fun _ _ _ h=>h) (Or.inl ⟨by rfl,fun w=>by
  rcases HSL.out with⟨e1,e2⟩|⟨e1,e2⟩
  ·have e3:ps.length=cp:=by omega
   rw[e2];subst e1;go_simp
  ·rw[e2];have hjn:¬cp=j:=fun e=>e1 e.symm;go_simp⟩) ?_
 try simp only[zZ]
 refine zQ 7 fun K hK=>?_;go_simp;obtain⟨w2,hw2,hG2,hK2⟩:∃ w2,w2=(w.alloc (.cells #[.slice (some ⟨gb,off,none⟩) i cp,.slice bb bs.length bc,.slice (some q3) m3 c3] 150)).drew∧w2.heap[w.heap.size]?=some (.cells #[.slice (some ⟨gb,off,none⟩) i cp,.slice bb bs.length bc,.slice (some q3) m3 c3] 150)∧Kp [] w w2:=⟨_,rfl,μ _ _,((Kp.refl _ _).alloc _).drew⟩;rw[←hw2];clear hw2;refine hK _ _ ?_;clear hK K
 try simp only[zZ]
 refine zQ 8 fun K hK=>?_;go_simp;refine (qZ3 w.heap.size [.slice (some ⟨gb,off,none⟩) i cp,.slice bb bs.length bc,.slice (some q3) m3 c3] [ps.take i,bs,ps.drop j] w2 hG2 ⟨rfl,fun k h1 h2=>?_⟩ (ps.take i++bs++ps.drop j) (by simp) (by simp;omega) (by simp)).mono ?_
 ·have hk:k=0∨k=1∨k=2:=by simp at h1;omega
  rcases hk with rfl|rfl|rfl
  ·exact HS1.out.keep0 hK2
  ·exact HB.out.keep0 hK2
  ·exact HS3.out.keep0 hK2
 rintro e w3 ⟨v3,rfl,hown3,hK3⟩;have hK3':Kp [] w w3:=hK2.tr hK3;refine hK _ _ ?_;clear hK K
 try simp only[zZ]
 refine zQ 9 fun K hK=>?_;go_simp;refine hK _ _ ?_;clear hK K;refine wpAny_done (by kernel_rfl) ?_ _;have HO:Hid (Slc w3 81 4 v3 (ps.take i++bs++ps.drop j).length (qA7 (ps.take i++bs++ps.drop j))):=qF7 hown3;clear hown3;go_wp2;go_ret;have hO:=HO.out;exact⟨v3,rfl,by simpa using hO,hK3'⟩
def τ(V:Nat)(h:HL):Value:=.agg #[.pointer (some ⟨V,0,none⟩),.string h.key,.int .i64 h.b,.int .u64 h.s,.pointer h.ptr]
def qC2(h:HL):Value:=.agg #[.string h.key,.int .i64 h.b,.int .u64 h.s,.pointer h.ptr]
def qX0:List TypeId:=[81,83,64]
structure Env where
 O:qE1
 V:Nat
 S:List Nat
 Dev:World→Prop
 keep:∀ w w' L,Dev w→Kp L w w'→(∀ k∈L,∃ c t fr,w.heap[k]?=some (.cells c t fr)∧t∈qX0)→Dev w'
 apt:∀ w,Dev w→Apt w S qF8
 low:∀ w,Dev w→∀ k∈S,k<w.heap.size
 pos:∀ (n b:Nat) (s:Int) (t:Tn n),O n b s t→1≤b
 lvl:∀ (n b:Nat) (s:Int) (t:Tn n),O n b s t→n<6
 read:∀ (n:Nat) (h r:HL) (l:Lnk (Tn n)) (a:Int) (w:World),Dev w→RL O n w h l→h.p=none→(n:Int)<a→Calls prog 87 #[τ V r,qC2 h,.int .i64 a] w fun e w'=>∃ q,e=.returned (.pointer (some ⟨q,0,none⟩))∧RN O n w' q l.sub∧Dev w'∧Kp S w w'
structure Env.To(E:Env)(w w':World):Prop where
 dev:E.Dev w'
 kp:Kp E.S w w'
theorem Env.To.of0{E:Env}{w w':World}(h:E.Dev w)(hK:Kp [] w w'):E.To w w':=⟨E.keep _ _ [] h hK (by simp),hK.mono (by simp)⟩
theorem Env.To.trans{E:Env}{a b c:World}(h:E.To a b)(k:E.To b c):E.To a c:=⟨k.dev,h.kp.trans k.kp (fun i hi _=>hi)⟩
theorem Env.To.tail{E:Env}{a b c:World}(h:E.To a b)(k:Kp [] b c):E.To a c:=h.trans (Env.To.of0 h.dev k)
theorem Env.RN{E:Env}{n:Nat}{w w':World}{q:Nat}{t:Tn n}(h:RN E.O n w q t)(hd:E.Dev w)(hT:E.To w w'):YtdohpenfkdckiabGreatDoor.RN E.O n w' q t:=RN.keep hT.kp (E.apt w hd) n q t h
theorem Env.RL{E:Env}{n:Nat}{w w':World}{h:HL}{l:Lnk (Tn n)}(hr:RL E.O n w h l)(hd:E.Dev w)(hT:E.To w w'):YtdohpenfkdckiabGreatDoor.RL E.O n w' h l:=RL.keep hr hT.kp (E.apt w hd)
theorem Env.RLs{E:Env}{n:Nat}{w w':World}{v:Value}{ls:List (Lnk (Tn n))}(hr:RLs E.O n w v ls)(hd:E.Dev w)(hT:E.To w w'):YtdohpenfkdckiabGreatDoor.RLs E.O n w' v ls:=RLs.keep hr hT.kp (E.apt w hd)
theorem Env.To.new{E:Env}{w0 w w':World}{k:Nat}{o:Obj}(hT:E.To w w')(hd:E.Dev w0)(hk:w0.heap.size≤k)(h:w.heap[k]?=some o):w'.heap[k]?=some o:=
 hT.kp.heap h (fun hm=>by have:=E.low w0 hd k hm;omega)
theorem xC4(E:Env)(n:Nat)(h r:HL)(l:Lnk (Tn n))(a:Int)(w:World)(hd:E.Dev w)(hr:RL E.O n w h l)(ha:h.p=none→(n:Int)<a):
  Calls prog 87 #[τ E.V r,qC2 h,.int .i64 a] w fun e w'=>∃ q,e=.returned (.pointer (some ⟨q,0,none⟩))∧RN E.O n w' q l.sub∧E.To w w':=by
 cases hp:h.p with
 | none=>
  refine (E.read n h r l a w hd hr hp (ha hp)).mono ?_;rintro e w' ⟨q,h1,h2,h3,h4⟩;exact⟨q,h1,h2,h3,h4⟩
 | some q=>
  have hN:RN E.O n w q l.sub:=by
   have h2:=hr.2
   cases hl:l.ref with
   | none=>
    rw[hl] at h2;obtain⟨_,_,q',h3,h4⟩:=h2;rw[hp] at h3;cases h3;exact h4
   | some x=>
    rw[hl] at h2;rw[hp] at h2;cases h2.2.2.1
  have hptr:h.ptr=some ⟨q,0,none⟩:=by simp[HL.ptr,hp]
  have e1:qC2 h=.agg #[.string h.key,.int .i64 h.b,.int .u64 h.s,.pointer (some ⟨q,0,none⟩)]:=by rw[qC2,hptr]
  rw[e1,τ];have HN:=zh hN;have HD:=zh hd;clear hN hr hd e1 hptr ha;go_enter func87,ntmps87;go_wp2;go_ret;exact⟨q,rfl,Env.RN HN.out HD.out (Env.To.of0 HD.out (((Kp.refl _ _).alloc _).alloc _)),Env.To.of0 HD.out (((Kp.refl _ _).alloc _).alloc _)⟩
theorem qK4(E:Env)(n:Nat)(h r:HL)(l:Lnk (Tn n))(a:Int)(w:World)(hd:E.Dev w)(hr:RL E.O n w h l)(ha:(n:Int)<a):
  Calls prog 87 #[τ E.V r,qC2 h,.int .i64 a] w fun e w'=>∃ q,e=.returned (.pointer (some ⟨q,0,none⟩))∧RN E.O n w' q l.sub∧E.To w w':=
 xC4 E n h r l a w hd hr fun _=>ha
theorem Env.low6{E:Env}{n:Nat}{w:World}{h:HL}{l:Lnk (Tn n)}(hr:YtdohpenfkdckiabGreatDoor.RL E.O n w h l)(hp:h.p=none):(n:Int)<6:=by
 have h2:=hr.2
 cases hl:l.ref with
 | none=>
  rw[hl] at h2;obtain⟨_,_,q,h3,h4⟩:=h2;rw[hp] at h3;cases h3
 | some x=>
  rw[hl] at h2;have:=E.lvl _ _ _ _ h2.2.2.2;omega
theorem zD8(E:Env)(n:Nat)(h:HL)(l:Lnk (Tn n))(w:World)(hd:E.Dev w)(hr:RL E.O n w h l):
  Calls prog 86 #[τ E.V h] w fun e w'=>∃ q,e=.returned (.pointer (some ⟨q,0,none⟩))∧RN E.O n w' q l.sub∧E.To w w':=by
 have HD:=zh hd;have HR:=zh hr;have HN:Hid (∀ W:World,E.To w W→Calls prog 87 #[.agg #[.pointer (some ⟨E.V,0,none⟩),.string h.key,.int .i64 h.b,.int .u64 h.s,.pointer h.ptr],.agg #[.string h.key,.int .i64 h.b,.int .u64 h.s,.pointer h.ptr],.int .i64 6] W fun e w'=>∃ q,e=.returned (.pointer (some ⟨q,0,none⟩))∧RN E.O n w' q l.sub∧E.To W w'):=
  fun W hT=>xC4 E n h h l 6 W hT.dev (Env.RL hr hd hT) (Env.low6 hr)
 clear hd hr;rw[τ];go_enter func86,ntmps86;go_wp2_with fail;refine (HN.out _ (Env.To.of0 HD.out ((Kp.refl _ _).alloc _))).mono ?_;rintro e w1 ⟨q,rfl,hN1,hT1⟩;have HN1:=zh hN1;have HT1:Hid (E.To w w1):=(Env.To.of0 HD.out ((Kp.refl _ _).alloc _)).trans hT1;clear hN1 hT1 HN;go_wp2;go_ret;exact⟨q,rfl,HN1.out,HT1.out⟩
theorem RLof.new{O:qE1}{n:Nat}{w:World}{h:HL}{l:Lnk (Tn n)}(hr:RL O n w h l):(l.ref=none∧∃ q,h.p=some q∧RN O n w q l.sub)∨(l.ref.isSome=true∧h.p=none):=by
 have h2:=hr.2
 cases hl:l.ref with
 | none=>
  rw[hl] at h2;obtain⟨_,_,q,h3,h4⟩:=h2;exact .inl ⟨rfl,q,h3,h4⟩
 | some x=>
  rw[hl] at h2;exact .inr ⟨rfl,h2.2.2.1⟩
def qV6:(n:Nat)→Tn n→Prop
 | 0,t=>(prs t).length≤10000
 | n+1,t=>(η t).length≤10000∧∀ l∈η t,qV6 n l.sub
theorem qG9{α:Type}(f:α→Nat):∀ (l:List α),(∀ x∈l,1≤f x)→l.length≤meas f l
 | [],_=>by simp[meas]
 | x::l,h=>by
  have h1:=h x (by simp);have h2:=qG9 f l fun y hy=>h y (by simp[hy]);rw[qF1,List.length_cons];omega
theorem qJ9:∀ (n:Nat) (lo:ByteArray) (t:Tn n),Good n lo t→qV6 n t
 | 0,lo,ps,h=>by
  have h1:meas ρ (prs ps)≤126:=h.fits;have h2:=qG9 ρ (prs ps) fun x _=>by unfold ρ;omega
  show (prs ps).length≤10000;omega
 | n+1,lo,ls,h=>by
  have h1:meas qA4 (η ls)≤126:=h.fits;have h2:=qG9 qA4 (η ls) fun x _=>by unfold qA4;omega
  exact⟨by omega,fun l hl=>qJ9 n l.key l.sub (h.all l hl).1⟩
theorem xQ6(O:qE1):∀ (n:Nat) (h:HL) (l:Lnk (Tn n)) (w:World),RL O n w h l→qV6 n l.sub→qB9 n l.sub≤1000000→
  Calls prog 96 #[qC2 h] w fun e w'=>e=.returned (.int .i64 (news n l))∧Kp [] w w':=by
 intro n
 induction n with
 | zero=>
  intro h l w hr hsl hno;rcases hr.new with⟨h1,q,h2,vp,h3,h4⟩|⟨h1,h2⟩
  ·have hptr:h.ptr=some ⟨q,0,none⟩:=by simp[HL.ptr,h2]
   rw[qC2,hptr];have hqs:=ζ h3;have q2:=ξ h3 2;simp only[υ,zG,zH,zI] at q2;clear hr h4;go_enter func96,ntmps96;go_wp2_with fail;refine wp_loop_rounds 1 ?_;rw[rounds_succ];go_wp2;go_ret;exact⟨qK9 (by simp[news,h1]),(Kp.refl _ _).alloc _⟩
  ·have hptr:h.ptr=none:=by simp[HL.ptr,h2]
   rw[qC2,hptr];clear hr;go_enter func96,ntmps96;go_wp2;go_ret;exact⟨qK9 (by simp[news,h1]),(Kp.refl _ _).alloc _⟩
 | succ n ih=>
  intro h l w hr hsl hno;rcases hr.new with⟨h1,q,h2,vl,h3,hs,h4,h5⟩|⟨h1,h2⟩
  ·have hptr:h.ptr=some ⟨q,0,none⟩:=by simp[HL.ptr,h2]
   rw[qC2,hptr];obtain⟨hsl1,hsl2⟩:=hsl;have hnews:news (n+1) l=1+meas (fun m:Lnk (Tn n)=>news n m) (η l.sub):=by simp[news,h1]
   have hnod:qB9 (n+1) l.sub=1+meas (fun m:Lnk (Tn n)=>qB9 n m.sub) (η l.sub):=rfl;have hnn:=zK0 (f:=fun m:Lnk (Tn n)=>news n m) (g:=fun m=>qB9 n m.sub) (η l.sub) fun m _=>zK2 n m;rw[hnod] at hno;have hbl:=h5.1;obtain⟨ls,hls⟩:∃ ls,ls=η l.sub:=⟨_,rfl⟩;rw[←hls] at h5 hsl1 hsl2 hnews hnn hno hbl;clear hls hnod;have hqs:=ζ h3;obtain⟨bs,cp,hv⟩:∃ bs cp,vl=.slice bs hs.length cp:=by
    rcases h4.val with⟨h0,b,c,h1,_⟩|⟨g,off,cap,cur,fr,h1,_⟩
    ·rw[h0];exact⟨b,c,h1⟩
    ·exact⟨_,cap,h1⟩
   subst hv;have q2:=ξ h3 2;simp only[υ,zG,zH,zI] at q2;have HS:=zh h4;have HB:=zh h5;have HN:=zh hnews;have HSL:=zh hsl2;have HNO:=zh hno;have HNN:=zh hnn;have HIH:=ih;clear hr h4 h5 hnews hsl2 h1 h2 ih hno hnn;go_enter func96,ntmps96;go_wp2
   go_loopw [3,15] (fun s i wr=>∃ (j:Nat),j≤hs.length∧i=.int .i64 j∧s=.int .i64 (1+meas (fun m:Lnk (Tn n)=>news n m) (ls.take j):Nat)∧Kp [] w wr) (fun _ i _=>hs.length-(intOf i).toNat)
   case atStart=>exact⟨0,Nat.zero_le _,rfl,rfl,(Kp.refl _ _).alloc _⟩
   case round=>
    obtain⟨j,hj,rfl,rfl,hK⟩:=hrel;have hmt:=qM8 (fun m:Lnk (Tn n)=>news n m) ls j;have hnb:=HNN.out;have hnc:=HNO.out;by_cases hlt:j<hs.length
    ·have hjb:(j:Int)<(hs.length:Int):=by omega
     obtain⟨gb,off,cp',cur,fr,hv,hcp,hrow,hcur⟩:=HS.out.link (by omega);obtain⟨c0,c1,c2,c3⟩:=hcur j hlt;simp only[Value.slice.injEq,true_and] at hv;obtain⟨rfl,rfl⟩:=hv;have hR:=hK.hp hrow;have a0:=ξ hR (off+j*4);rw[c0] at a0;have a1:=ξ hR (off+j*4+1);rw[c1] at a1;have a2:=ξ hR (off+j*4+2);rw[c2] at a2;have a3:=ξ hR (off+j*4+3);rw[c3] at a3;have hgs:=ζ hR;have hjl:j<ls.length:=by omega
     have hrl:=HB.out.2 j hlt hjl;have HMS:Hid (meas (fun m:Lnk (Tn n)=>news n m) (ls.take (j+1))=meas (fun m:Lnk (Tn n)=>news n m) (ls.take j)+news n ls[j]):=qK8 _ ls j hjl;have hmt1:=qM8 (fun m:Lnk (Tn n)=>news n m) ls (j+1);rw[HMS.out] at hmt1;have hnj:qB9 n ls[j].sub≤meas (fun m:Lnk (Tn n)=>qB9 n m.sub) ls:=by
      have h1:=qK8 (fun m:Lnk (Tn n)=>qB9 n m.sub) ls j hjl;have h2:=qM8 (fun m:Lnk (Tn n)=>qB9 n m.sub) ls (j+1);omega
     have HRL:=zh hrl;have HNJ:Hid (qB9 n ls[j].sub≤1000000):=by show _≤_;omega
     clear hcur hrl hnj;generalize meas (fun m:Lnk (Tn n)=>news n m) (ls.take j)=M at *;go_wp2_with fail;refine (HIH hs[j] ls[j] _ (RL.keep HRL.out (hK.alloc _) (Apt.nil _ _)) (HSL.out _ (List.getElem_mem hjl)) HNJ.out).mono ?_;rintro e w1 ⟨rfl,hK1⟩;have hK1':Kp [] w w1:=(hK.alloc _).tr hK1;go_wp2;refine⟨⟨j+1,by omega,by go_num,by rw[HMS.out];go_num,hK1'⟩,by simp[intOf];omega⟩
    ·have hjb:¬(j:Int)<(hs.length:Int):=by omega
     go_wp2;go_ret;refine⟨qK9 ?_,hK⟩;rw[HN.out,List.take_of_length_le (by omega)];omega
  ·have hptr:h.ptr=none:=by simp[HL.ptr,h2]
   rw[qC2,hptr];clear hr;go_enter func96,ntmps96;go_wp2;go_ret;exact⟨qK9 (by simp[news,h1]),(Kp.refl _ _).alloc _⟩
theorem RN.obj{O:qE1}{n:Nat}{w:World}{q:Nat}{t:Tn n}(h:RN O n w q t):∃ pb pl pc lb ll lc,w.heap[q]?=some (υ (n:Int) (.slice pb pl pc) (.slice lb ll lc))∧pl+ll=cnt n t:=by
 cases n with
 | zero=>
  obtain⟨vp,h1,h2⟩:=h;obtain⟨bs,cp,hv⟩:∃ bs cp,vp=.slice bs (prs t).length cp:=by
   rcases h2.val with⟨h0,b,c,h1,_⟩|⟨g,off,cap,cur,fr,h1,_⟩
   ·rw[h0];exact⟨b,c,h1⟩
   ·exact⟨_,cap,h1⟩
  rw[hv] at h1;exact⟨_,_,_,_,_,_,h1,rfl⟩
 | succ n=>
  obtain⟨vl,h1,hs,h2,h3⟩:=h;obtain⟨bs,cp,hv⟩:∃ bs cp,vl=.slice bs hs.length cp:=by
   rcases h2.val with⟨h0,b,c,h1,_⟩|⟨g,off,cap,cur,fr,h1,_⟩
   ·rw[h0];exact⟨b,c,h1⟩
   ·exact⟨_,cap,h1⟩
  rw[hv] at h1;refine⟨_,_,_,_,_,_,h1,?_⟩;rw[Nat.zero_add,h3.1];rfl
theorem qS8(O:qE1)(n:Nat)(q:Nat)(t:Tn n)(w:World)(h:RN O n w q t)(hc:cnt n t≤1000000):
  Calls prog 129 #[.pointer (some ⟨q,0,none⟩)] w fun e w'=>e=.returned (.int .i64 (cnt n t))∧Kp [] w w':=by
 obtain⟨pb,pl,pc,lb,ll,lc,h1,h2⟩:=h.obj;have HC:=zh h2;rw[←h2] at hc;have hqs:=ζ h1;have q1:=ξ h1;simp only[υ,zG,zH,zI] at q1;clear h h1 h2;go_enter func129,ntmps129;go_wp2_with fail
 go_quiet (fail)
 go_wp2;go_ret;exact⟨qK9 (by rw[←HC.out];omega),(Kp.refl _ _).drewN _⟩
theorem jV8(O:qE1)(V n:Nat)(h:HL)(l:Lnk (Tn n))(w:World)(hr:RL O n w h l)(hs:qV6 n l.sub)(hn:qB9 n l.sub≤1000000):
  Calls prog 58 #[τ V h] w fun e w'=>e=.returned (.int .i64 (news n l))∧Kp [] w w':=by
 rw[τ];go_enter func58,ntmps58;go_wp2_with fail;refine (xQ6 O n h l _ (RL.keep hr ((Kp.refl _ _).alloc _) (Apt.nil _ _)) hs hn).mono ?_;rintro e w1 ⟨rfl,hK1⟩;have hK1':Kp [] w w1:=((Kp.refl _ _).alloc _).tr hK1;go_wp2;go_ret;exact⟨rfl,hK1'⟩
def RR(E:Env)(w:World)(h:HL):Root→Prop
 | .none=>h=⟨⟨#[]⟩,0,0,none⟩
 | .at n l=>RL E.O n w h l
theorem RR.to{E:Env}{w w':World}{h:HL}{r:Root}(hr:RR E w h r)(hd:E.Dev w)(hT:E.To w w'):RR E w' h r:=by
 cases r with
 | none=>exact hr
 | «at» n l=>exact Env.RL hr hd hT
theorem zA1(d:Nat)(W:World):Sem.run prog (Op.equalIn (d+1) 79 (.pointer none) (.pointer none)) W=.ok true W:=by
 simp[Op.equalIn,run_underlying underlying79]
theorem zU2(d:Nat)(a:Addr)(W:World):Sem.run prog (Op.equalIn (d+1) 79 (.pointer (some a)) (.pointer none)) W=.ok false W:=by
 simp[Op.equalIn,run_underlying underlying79]
theorem qZ9(V:Nat)(w:World):
  Calls prog 85 #[τ V ⟨⟨#[]⟩,0,0,none⟩] w fun e w'=>e=.returned (.bool true)∧Kp [] w w':=by
 have heq:∀ W:World,Sem.run prog (Op.equalIn 9999 79 (.pointer none) (.pointer none)) W=.ok true W:=fun W=>zA1 9998 W;rw[τ,show HL.ptr ⟨⟨#[]⟩,0,0,none⟩=none from rfl];go_enter func85,ntmps85;go_wp2;go_ret;exact⟨rfl,(Kp.refl _ _).alloc _⟩
theorem xR9(V q:Nat)(w:World):
  Calls prog 85 #[.agg #[.pointer (some ⟨V,0,none⟩),.string ⟨#[]⟩,.int .i64 0,.int .u64 0,.pointer (some ⟨q,0,none⟩)]] w fun e w'=>e=.returned (.bool false)∧Kp [] w w':=by
 have heq:∀ W:World,Sem.run prog (Op.equalIn 9999 79 (.pointer (some ⟨q,0,none⟩)) (.pointer none)) W=.ok false W:=fun W=>zU2 9998 _ W;go_enter func85,ntmps85;go_wp2;go_ret;exact⟨rfl,(Kp.refl _ _).alloc _⟩
theorem xS1(V:Nat)(b s:Int)(hb:1≤b)(w:World):
  Calls prog 85 #[.agg #[.pointer (some ⟨V,0,none⟩),.string ⟨#[]⟩,.int .i64 b,.int .u64 s,.pointer none]] w fun e w'=>e=.returned (.bool false)∧Kp [] w w':=by
 have heq:∀ W:World,Sem.run prog (Op.equalIn 9999 79 (.pointer none) (.pointer none)) W=.ok true W:=fun W=>zA1 9998 W;have hb0:¬b=0:=by omega
 go_enter func85,ntmps85;go_wp2;go_ret;exact⟨rfl,(Kp.refl _ _).alloc _⟩
theorem qW2(E:Env)(n:Nat)(h:HL)(l:Lnk (Tn n))(w:World)(hr:RL E.O n w h l)(hl:l.key=⟨#[]⟩):
  Calls prog 85 #[τ E.V h] w fun e w'=>e=.returned (.bool false)∧Kp [] w w':=by
 have hk:h.key=⟨#[]⟩:=by rw[hr.1,hl]
 have h2:=hr.2
 cases hx:l.ref with
 | none=>
  rw[hx] at h2;obtain⟨h3,h4,q,h5,_⟩:=h2;have e:τ E.V h=.agg #[.pointer (some ⟨E.V,0,none⟩),.string ⟨#[]⟩,.int .i64 0,.int .u64 0,.pointer (some ⟨q,0,none⟩)]:=by rw[τ,hk,h3,h4,HL.ptr,h5];rfl
  rw[e];exact xR9 E.V q w
 | some x=>
  rw[hx] at h2;obtain⟨h3,h4,h5,h6⟩:=h2;have hp:=E.pos n _ _ _ h6;have e:τ E.V h=.agg #[.pointer (some ⟨E.V,0,none⟩),.string ⟨#[]⟩,.int .i64 h.b,.int .u64 h.s,.pointer none]:=by rw[τ,hk,HL.ptr,h5];rfl
  rw[e];exact xS1 E.V h.b h.s (by rw[h3];omega) w
def qH9(l:List KV)(k:ByteArray):Option KV:=l.find? fun q=>decide (q.k=k)
def zH1(l:List KV)(k:ByteArray):ByteArray:=((qH9 l k).map KV.v).getD ⟨#[]⟩
theorem xW7{k:ByteArray}{a b c:List KV}(ha:∀ q∈a,q.k≠k)(hc:∀ q∈c,q.k≠k):qH9 (a++b++c) k=qH9 b k:=by
 unfold qH9;rw[List.find?_append,List.find?_append];have h1:a.find? (fun q=>decide (q.k=k))=none:=by rw[List.find?_eq_none];intro q hq;simp[ha q hq]
 have h2:c.find? (fun q=>decide (q.k=k))=none:=by rw[List.find?_eq_none];intro q hq;simp[hc q hq]
 rw[h1,h2];simp
theorem xW8{l:List KV}(hs:Sorted l)(k:ByteArray):qH9 l k=if qG0 l (qC3 l k) k then l[qC3 l k]? else none:=by
 by_cases h:qG0 l (qC3 l k) k=true
 ·rw[if_pos h];unfold qG0 at h;split at h
  ·next q hq=>
   have hqk:q.k=k:=by simpa using h
   have hlt:=(List.getElem?_eq_some_iff.1 hq).1;rw[hq];unfold qH9;rw[←List.take_append_drop (qC3 l k) l,List.find?_append,List.find?_eq_none.2 (fun x hx=>?_),List.drop_eq_getElem_cons hlt,(List.getElem?_eq_some_iff.1 hq).2]
   ·simp[hqk]
   ·have:kl x.k k=true:=zD5 x (by rw[←xG0 hs k];exact hx);simp[qJ4 this]
  ·cases h
 ·rw[if_neg h];have hn:¬∃ q∈l,q.k=k:=fun hq=>h ((zH3 hs k).2 hq);unfold qH9;rw[List.find?_eq_none];intro q hq;simp only[decide_eq_true_eq];exact fun e=>hn ⟨q,hq,e⟩
end Go.Proofs.YtdohpenfkdckiabGreatDoor
