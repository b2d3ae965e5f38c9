import Derived.Test.YtdohpenfkdckiaaGreatDoorJ05
import Derived.Lib.AppendZerosOnto
import Derived.Lib.SliceRun
import Derived.Laws.AppendOwnNone
set_option linter.all false
set_option maxRecDepth 100000
set_option maxHeartbeats 20000000
namespace Go.Proofs.YtdohpenfkdckiaaGreatDoor
open Go.Proofs.Tryz
open Go.RowKit
theorem qJ3{w}{base:Nat}{T}{sz:Nat}{v}{n:Nat}{xs:List Value}(h:w.ownsRow base T sz v n xs):Slc w T sz v n xs:=by
 refine⟨h.1,?_⟩;rcases h.2 with⟨a,c⟩|⟨g,cap,cur,a,c,e,f,k,l,i⟩
 .exact .inl ⟨c,_,_,a,λ_=>rfl⟩
 .by_cases d:n=0
  .subst d;exact .inl ⟨rfl,_,_,a,sM⟩
  .refine .inr ⟨g,0,cap,cur,(0,0),a,oM,f,e,λj u b=>?_⟩;rw[<-i,List.getElem?_take] at b;split at b
   .simpa using b
   .cases b
theorem Slc.form{w}{T}{sz:Nat}{v}{n:Nat}{cs:List Value}(h:Slc w T sz v n cs):∃ b m c,v=.slice b m c:=by
 rcases h.val with⟨_,b,c,a,_⟩|⟨g,e,cap,cur,d,a,_⟩
 .exact⟨b,0,c,a⟩
 .exact⟨_,_,cap,a⟩
def qD8{α:Type}(low:α→ByteArray)(key:ByteArray):List (List α)→List (ByteArray × List α)
 | []=>[]
 | a::rest=>(key,a)::rest.map fun b=>((b.head?.map low).getD ⟨#[]⟩,b)
theorem qQ6{α:Type}(low:α->ByteArray)(key)(l:List (List α)):(qD8 low key l).length=l.length:=by
 cases l<;>simp[qD8]
theorem zG4{α:Type}{low:α->ByteArray}{key}{l:List (List α)}{i:Nat}(h:i<l.length):(qD8 low key l)[i]?=some (if i=0 then key else (l[i].head?.map low).getD ⟨#[]⟩,l[i]):=by
 cases l with
 | nil=>simp at h
 | cons a r=>
  cases i with
  | zero=>simp[qD8]
  | succ i=>
   have b:i<r.length:=by simpa using h
   simp[qD8,gQ b]
def MkL{α:Type}(T:TypeId)(sz:Nat)(C:List α→List Value)(node:Value→Obj)(w0 w:World)(h:HL)(x:ByteArray × List α):Prop:=
 h.key=x.1∧h.b=0∧h.s=0∧∃ q v,h.p=some q∧w.heap[q]?=some (node v)∧Slc w0 T sz v x.2.length (C x.2)
theorem qP7{w i:World}{base:Nat}{T:TypeId}{sz:Nat}{v:Value}{n:Nat}{xs:List Value}{o:Obj}{k:Nat}{c:Array Value}{t:TypeId}{d:Nat × Nat}(h:w.ownsRow base T sz v n xs)(l:(w.alloc o).grownBy i v.ownBlock)(b:w.heap[k]?=some (.cells c t d))(m:t≠T):i.heap[k]?=some (.cells c t d):=by
 have f:=ρ o b;refine (l.block k (ζ f) ?_).trans f;intro e;rcases h.2 with⟨a,_⟩|⟨g,cap,cur,a,p,j,_⟩
 .rw[a] at e;cases e
 .rw[a] at e;have e:k=g:=by simpa [Value.ownBlock] using e
  rw[e,j] at b;cases b;exact m rfl
theorem MkL.grown{α:Type}{T}{sz:Nat}{C:List α->List Value}{a:Value->Obj}{w0 w w'}{h}{x:ByteArray × List α}(m:MkL T sz C a w0 w h x)(n:∀ v,∃ c,a v=.cells c 213)(l:∀ (k:Nat) (c),w.heap[k]?=some (.cells c 213)->w'.heap[k]?=some (.cells c 213)):MkL T sz C a w0 w' h x:=by
 obtain⟨e,f,g,q,v,i,b,j⟩:=m;obtain⟨c,d⟩:=n v;rw[d] at b;exact⟨e,f,g,q,v,i,by rw[d];exact l q c b,j⟩
theorem zI1{w w'}{base:Nat}{T}{sz:Nat}{v}{n:Nat}{xs:List Value}(h:w.ownsRow base T sz v n xs)(hK:Kp [] w w'):w'.ownsRow base T sz v n xs:=by
 refine⟨h.1,?_⟩;rcases h.2 with a|⟨g,cap,cur,b,c,d,e⟩
 .exact .inl a
 .exact .inr ⟨g,cap,cur,b,c,hK.hp d,e⟩
theorem qV8:(prog.info? 87).map (λi=>(i.zero,i.size,i.bytes))=some (some (.agg #[.string ⟨#[]⟩,.int .i64 0,.int .u64 0,.pointer none]),4,40):=kR
theorem zO3:(prog.info? 185).map (λi=>(i.zero,i.size,i.bytes))=some (some (.agg #[.string ⟨#[]⟩,.string ⟨#[]⟩]),2,32):=kR
theorem xI2(hs)(h):qA9 (hs++[h])=qA9 hs++lcs h:=by simp[qA9]
theorem zE2{w:World}{cs:List Value}{T:TypeId}:∀ j u,cs[j]?=some u->(w.alloc (.cells cs.toArray T)).cell? ((⟨w.heap.size,0,none⟩:Addr).add j)=some u:=by
 intro j u a;rw[qH0,Nat.zero_add,ξ (υ _ _)];simpa using a
theorem jE9(g:Nat)(cap)(B:Value->Obj)(key)(v)(ps)(w)(f:Slc w 185 2 v ps.length (qA4 ps))(hn:ps.length<=1000000)(hz:∀ p∈ps,θ p<=21)(hm:meas θ ps<=210)
  (bi:∀ (args) (W),Sem.run prog (callFunc g args) W=.ok (.enter g args) W) (ax:∀ v,∃ c,B v=.cells c 213)
  (aw:∀ W x,Kp [] w W->(∃ b n c,x=.slice b n c)->Calls prog g (#[x]++cap) W λe W'=>∃ q,e=.returned (.pointer (some ⟨q,0,none⟩))/\W'.heap[q]?=some (B x)/\Kp [] W W'):
  Calls prog 181 #[.string key,v,.func (.func g) #[] cap] w λe w'=>∃ v',e=.returned v'/\∃ f,w'.ownsRow w.heap.size 87 4 v' (qB8 θ ps).length (qA9 f)/\f.length=(qB8 θ ps).length/\(∀ i (h:i<f.length) (t:i<(qD8 KV.k key (qB8 θ ps)).length),MkL 185 2 qA4 B w w' f[i] (qD8 KV.k key (qB8 θ ps))[i])/\Kp [] w w':=by
 obtain⟨i0,E,az,a2,a3⟩:=info_parts qV8;have HM:=zh aw;have am:=zh ax;have al:Hid (∀ l∈qB8 θ ps,(qB8 θ ps).length=1\/3<=l.length):=by
  rcases zF7 θ ps hz hm with⟨e,_⟩|⟨a,b,e,_,_,_,C,h2⟩
  .show ∀ l∈qB8 θ ps,_;rw[e];intro l _;exact .inl rfl
  .show ∀ l∈qB8 θ ps,_;rw[e];intro l hl;simp only[List.mem_cons,List.not_mem_nil,or_false] at hl;rcases hl with rfl|rfl
   .exact .inr C
   .exact .inr h2
 have be:(qB8 θ ps).length<=2:=by unfold qB8;split<;>simp
 clear aw ax;go_enter func181,ntmps181;go_wp2_with fail;refine (jN4 v ps w f hn hz oM).mono ?_;rintro e w1 ⟨gh,vs,rfl,ao,ba,R⟩;obtain⟨ay,aj⟩:=ba;obtain⟨d,aa⟩:=eY (qB8 θ ps);have O:=zh aa;rw[aa] at ay aj be al |-;clear aa;rw[List.length_map] at ay;have a8:Hid (∀ i (h:i<d.length) (t:i<vs.length),Slc w 185 2 vs[i] d[i].length (qA4 d[i])):=λi h t=>by
  have:=aj i (by simpa using h) t;simpa using this
 clear aj;have a6:=zh R;have HB:=zh R.size;have H1:=zh ao;clear R f ao;go_wp2
 go_loopw [0,7,13] (λk s i wr=>∃ (j:Nat) (f:List HL) (L:ByteArray),j<=d.length/\i=.int .i64 j/\k=.string L/\(j=0->L=key)/\f.length=j/\wr.ownsRow w.heap.size 87 4 s j (qA9 f)/\Hid (∀ i (h:i<f.length) (t:i<(qD8 KV.k key d).length),MkL 185 2 qA4 B w wr f[i] (qD8 KV.k key d)[i])/\Hid (Kp [] w wr)/\Ϙ wr gh (.cells vs.toArray 186)) (λ_ _ i _=>d.length-(intOf i).toNat)
 case atStart=>exact⟨0,[],key,Nat.zero_le _,rfl,rfl,λ_=>rfl,rfl,World.ownsRow_nil _ _ _ _,(λi h=>by simp at h:∀ i (h:i<[].length) (t:i<(qD8 KV.k key d).length),_),a6,H1⟩
 case round=>
  obtain⟨j,f,L,hj,rfl,rfl,ab,ah,ad,V,A,Q⟩:=hrel;by_cases ac:j<d.length
  .have bc:(j:Int)<(d.length:Int):=oM
   have J:=a8.out j ac oM;have h0:=ξ Q j;rw[zG,List.getElem?_eq_getElem (show j<vs.length by omega)] at h0;have bk:=ζ Q;have y:0<j->1<=d[j].length:=λh=>by
    rcases al d[j] (List.getElem_mem ac) with C|C<;>omega
   obtain⟨u,G⟩:=eX (if j=0 then key else (d[j].head?.map KV.k).getD ⟨#[]⟩)
   have S:(qD8 KV.k key d)[j]?=some (u,d[j]):=by rw[zG4 ac,G]
   obtain⟨M,ai⟩:=eY (vs[j]);rw[ai] at J h0;have an:=zh J;have a5:=zh Q;have ak:Hid (∀ (r m:World) (q:Nat) (s z:Value) (o:Obj) (x:Int),x=(j:Int)+1->Ϙ r q (B M)->Kp [] wr r->r.ownsRow w.heap.size 87 4 s j (qA9 f)->m.ownsRow w.heap.size 87 4 z (j+1) (qA9 f++[.string u,ϊ 0,.int .u64 0,ϖ q])->(r.alloc o).grownBy m s.ownBlock->
     ∃ (K:Nat) (hs':List HL) (k'':ByteArray),K<=d.length/\Value.int .i64 x=.int .i64 K/\Value.string u=.string k''/\(K=0->k''=key)/\hs'.length=K/\m.ownsRow w.heap.size 87 4 z K (qA9 hs')/\Hid (∀ i (h:i<hs'.length) (t:i<(qD8 KV.k key d).length),MkL 185 2 qA4 B w m hs'[i] (qD8 KV.k key d)[i])/\Hid (Kp [] w m)/\Ϙ m gh (.cells vs.toArray 186)):=by
    show ∀ (r m:World) (q:Nat) (s z:Value) (o:Obj) (x:Int),_;intro r m q s z o x hx hq T ae ag Y;have au:∀ (k:Nat) (c:Array Value),Ϙ r k (.cells c 213)->Ϙ m k (.cells c 213):=λk c F=>qP7 ae Y F dC;obtain⟨cn,aq⟩:=am.out M;have bf:Ϙ m q (B M):=by rw[aq];rw[aq] at hq;exact au q cn hq
    have a9:=λi h t=>
     (V.out i h t).grown am λk c F=>au k c (T.hp F)
    refine⟨j+1,f++[⟨u,0,0,some q⟩],u,oM,by rw[hx];go_num,rfl,oM,by simp[ah],by rw[xI2];exact ag,?_,((A.out.tr T).alloc o).grown Y (λk F=>Or.inr (qI4 ae k F)),qP7 ae Y (T.hp a5) dC⟩;show ∀ i (h:i<(f++[(⟨u,0,0,some q⟩:HL)]).length) (t:i<(qD8 KV.k key d).length),_;intro i C t;by_cases E:i<f.length
    .rw[List.getElem_append_left E];exact a9 i E t
    .have bb:i=j:=by simp at C;omega
     subst bb;have e:(qD8 KV.k key d)[i]=(u,d[i]):=by
      rw[List.getElem?_eq_getElem t] at S;exact Option.some.inj S
     rw[e,List.getElem_append_right oM];simp only[ah,Nat.sub_self,List.getElem_singleton];exact⟨rfl,rfl,rfl,q,M,rfl,bf,an⟩
   clear S V;by_cases N:j=0
   .have bd:L=u:=by rw[G,if_pos N];exact ab N
    subst bd;clear G ab ai J y;subst N;go_wp2_with fail;refine (HM wr M A.out an.form).mono ?_;rintro e r ⟨q,rfl,I,D⟩;have H:=zI1 ad D;have bg:=Nat.le_trans A.out.size D.size;have P:=zh I;clear I
    go_wp2_with (at_builtin;refine wpList_append_own _ rfl _ _ 156 rfl w.heap.size 87 i0 _ 4 40 underlying156 E az a2 a3 rfl dC _ _ _ rfl (H.alloc _) ⟨r.heap.size,0,none⟩ 1 1 [.string L,ϊ 0,.int .u64 0,ϖ q] rfl rfl zE2 (by simp[Value.oneCell']) (by unfold maxLen;omega) oM sO ?_;intro z m af Z _)
    exact⟨ak r m q _ z _ 1 oM P D H af Z,by simp[intOf];omega⟩
   .have bm:(0:Int)<(j:Int):=oM
    obtain⟨gb,a4,bh,cur,fr,rfl,bj,ag,ar⟩:=J.pair (y oM);obtain⟨c0,c1⟩:=ar 0 (y oM);have X:=A.out.hp ag;have a0:wr.cell? ⟨gb,a4,none⟩=some _:=(ξ X _).trans (by simpa using c0);have a1:wr.cell? ⟨gb,a4+1,none⟩=some _:=(ξ X _).trans (by simpa using c1);have av:u=KV.k (d[j][0]'(y oM)):=by
     rw[G,if_neg N];rw[List.head?_eq_getElem?,List.getElem?_eq_getElem (y oM)];rfl
    have bl:=ζ X;have bn:(0:Int)<(d[j].length:Int):=by have:=y oM;omega
    have a7:=zh av;clear G ab ai J ar av;go_wp2_with fail;refine (jT9 (d[j][0]'(y oM)) _).mono ?_;rintro e W0 ⟨rfl,ap⟩;rw[show (d[j][0]'(y oM)).k=u from a7.out.symm];go_wp2_with fail;refine (HM W0 _ (A.out.tr ap) ⟨_,_,_,rfl⟩).mono ?_;rintro e r ⟨q,rfl,I,D⟩;have U:=ap.tr D;have H:=zI1 ad U;have bg:=Nat.le_trans A.out.size U.size;have P:=zh I;clear I
    go_wp2_with (at_builtin;refine wpList_append_own _ rfl _ _ 156 rfl w.heap.size 87 i0 _ 4 40 underlying156 E az a2 a3 rfl dC _ _ _ rfl (H.alloc _) ⟨r.heap.size,0,none⟩ 1 1 [.string u,ϊ 0,.int .u64 0,ϖ q] rfl rfl zE2 (by simp[Value.oneCell']) (by unfold maxLen;omega) oM sO ?_;intro z m af Z _)
    exact⟨ak r m q _ z _ _ rfl P U H af Z,by simp[intOf];omega⟩
  .have bc:¬(j:Int)<(d.length:Int):=oM
   go_wp2;go_ret;have e:j=d.length:=oM
   subst e;exact⟨_,rfl,f,by rw[O.out];exact ad,by rw[O.out];exact ah,by rw[O.out];exact V.out,A.out⟩
theorem jE8(g:Nat)(cap)(B:Value->Obj)(key)(v)(ps)(w)(f:Slc w 87 4 v ps.length (qA9 ps))(hn:ps.length<=1000000)(hz:∀ p∈ps,φ p<=21)(hm:meas φ ps<=210)
  (bk:∀ (args) (W),Sem.run prog (callFunc g args) W=.ok (.enter g args) W) (ay:∀ v,∃ c,B v=.cells c 213)
  (ax:∀ W x,Kp [] w W->(∃ b n c,x=.slice b n c)->Calls prog g (#[x]++cap) W λe W'=>∃ q,e=.returned (.pointer (some ⟨q,0,none⟩))/\W'.heap[q]?=some (B x)/\Kp [] W W'):
  Calls prog 223 #[.string key,v,.func (.func g) #[] cap] w λe w'=>∃ v',e=.returned v'/\∃ f,w'.ownsRow w.heap.size 87 4 v' (qB8 φ ps).length (qA9 f)/\f.length=(qB8 φ ps).length/\(∀ i (h:i<f.length) (t:i<(qD8 HL.key key (qB8 φ ps)).length),MkL 87 4 qA9 B w w' f[i] (qD8 HL.key key (qB8 φ ps))[i])/\Kp [] w w':=by
 obtain⟨i0,F,a4,a5,a6⟩:=info_parts qV8;have HM:=zh ax;have an:=zh ay;have am:Hid (∀ l∈qB8 φ ps,(qB8 φ ps).length=1\/3<=l.length):=by
  rcases zF7 φ ps hz hm with⟨e,_⟩|⟨a,b,e,_,_,_,C,h2⟩
  .show ∀ l∈qB8 φ ps,_;rw[e];intro l _;exact .inl rfl
  .show ∀ l∈qB8 φ ps,_;rw[e];intro l hl;simp only[List.mem_cons,List.not_mem_nil,or_false] at hl;rcases hl with rfl|rfl
   .exact .inr C
   .exact .inr h2
 have bg:(qB8 φ ps).length<=2:=by unfold qB8;split<;>simp
 clear ax ay;go_enter func223,ntmps223;go_wp2_with fail;refine (jN3 v ps w f hn hz oM).mono ?_;rintro e w1 ⟨gh,vs,rfl,ap,bc,U⟩;obtain⟨az,ak⟩:=bc;obtain⟨d,ab⟩:=eY (qB8 φ ps);have R:=zh ab;rw[ab] at az ak bg am |-;clear ab;rw[List.length_map] at az;have ba:Hid (∀ i (h:i<d.length) (t:i<vs.length),Slc w 87 4 vs[i] d[i].length (qA9 d[i])):=λi h t=>by
  have:=ak i (by simpa using h) t;simpa using this
 clear ak;have a8:=zh U;have HB:=zh U.size;have H1:=zh ap;clear U f ap;go_wp2
 go_loopw [0,7,13] (λk s i wr=>∃ (j:Nat) (f:List HL) (M:ByteArray),j<=d.length/\i=.int .i64 j/\k=.string M/\(j=0->M=key)/\f.length=j/\wr.ownsRow w.heap.size 87 4 s j (qA9 f)/\Hid (∀ i (h:i<f.length) (t:i<(qD8 HL.key key d).length),MkL 87 4 qA9 B w wr f[i] (qD8 HL.key key d)[i])/\Hid (Kp [] w wr)/\Ϙ wr gh (.cells vs.toArray 156)) (λ_ _ i _=>d.length-(intOf i).toNat)
 case atStart=>exact⟨0,[],key,Nat.zero_le _,rfl,rfl,λ_=>rfl,rfl,World.ownsRow_nil _ _ _ _,(λi h=>by simp at h:∀ i (h:i<[].length) (t:i<(qD8 HL.key key d).length),_),a8,H1⟩
 case round=>
  obtain⟨j,f,M,hj,rfl,rfl,ac,ai,ae,Z,A,T⟩:=hrel;by_cases ad:j<d.length
  .have be:(j:Int)<(d.length:Int):=oM
   have K:=ba.out j ad oM;have h0:=ξ T j;rw[zG,List.getElem?_eq_getElem (show j<vs.length by omega)] at h0;have bm:=ζ T;have y:0<j->1<=d[j].length:=λh=>by
    rcases am d[j] (List.getElem_mem ad) with C|C<;>omega
   obtain⟨u,H⟩:=eX (if j=0 then key else (d[j].head?.map HL.key).getD ⟨#[]⟩)
   have V:(qD8 HL.key key d)[j]?=some (u,d[j]):=by rw[zG4 ad,H]
   obtain⟨N,aj⟩:=eY (vs[j]);rw[aj] at K h0;have ao:=zh K;have a7:=zh T;have al:Hid (∀ (r m:World) (q:Nat) (s z:Value) (o:Obj) (x:Int),x=(j:Int)+1->Ϙ r q (B N)->Kp [] wr r->r.ownsRow w.heap.size 87 4 s j (qA9 f)->m.ownsRow w.heap.size 87 4 z (j+1) (qA9 f++[.string u,ϊ 0,.int .u64 0,ϖ q])->(r.alloc o).grownBy m s.ownBlock->
     ∃ (L:Nat) (hs':List HL) (k'':ByteArray),L<=d.length/\Value.int .i64 x=.int .i64 L/\Value.string u=.string k''/\(L=0->k''=key)/\hs'.length=L/\m.ownsRow w.heap.size 87 4 z L (qA9 hs')/\Hid (∀ i (h:i<hs'.length) (t:i<(qD8 HL.key key d).length),MkL 87 4 qA9 B w m hs'[i] (qD8 HL.key key d)[i])/\Hid (Kp [] w m)/\Ϙ m gh (.cells vs.toArray 156)):=by
    show ∀ (r m:World) (q:Nat) (s z:Value) (o:Obj) (x:Int),_;intro r m q s z o x hx hq X af ah hg;have av:∀ (k:Nat) (c:Array Value),Ϙ r k (.cells c 213)->Ϙ m k (.cells c 213):=λk c G=>qP7 af hg G dC;obtain⟨cn,ar⟩:=an.out N;have bh:Ϙ m q (B N):=by rw[ar];rw[ar] at hq;exact av q cn hq
    have bb:=λi h t=>
     (Z.out i h t).grown an λk c G=>av k c (X.hp G)
    refine⟨j+1,f++[⟨u,0,0,some q⟩],u,oM,by rw[hx];go_num,rfl,oM,by simp[ai],by rw[xI2];exact ah,?_,((A.out.tr X).alloc o).grown hg (λk G=>Or.inr (qI4 af k G)),qP7 af hg (X.hp a7) dC⟩;show ∀ i (h:i<(f++[(⟨u,0,0,some q⟩:HL)]).length) (t:i<(qD8 HL.key key d).length),_;intro i C t;by_cases F:i<f.length
    .rw[List.getElem_append_left F];exact bb i F t
    .have bd:i=j:=by simp at C;omega
     subst bd;have e:(qD8 HL.key key d)[i]=(u,d[i]):=by
      rw[List.getElem?_eq_getElem t] at V;exact Option.some.inj V
     rw[e,List.getElem_append_right oM];simp only[ai,Nat.sub_self,List.getElem_singleton];exact⟨rfl,rfl,rfl,q,N,rfl,bh,ao⟩
   clear V Z;by_cases P:j=0
   .have bf:M=u:=by rw[H,if_pos P];exact ac P
    subst bf;clear H ac aj K y;subst P;go_wp2_with fail;refine (HM wr N A.out ao.form).mono ?_;rintro e r ⟨q,rfl,J,D⟩;have I:=zI1 ae D;have bi:=Nat.le_trans A.out.size D.size;have S:=zh J;clear J
    go_wp2_with (at_builtin;refine wpList_append_own _ rfl _ _ 156 rfl w.heap.size 87 i0 _ 4 40 underlying156 F a4 a5 a6 rfl dC _ _ _ rfl (I.alloc _) ⟨r.heap.size,0,none⟩ 1 1 [.string M,ϊ 0,.int .u64 0,ϖ q] rfl rfl zE2 (by simp[Value.oneCell']) (by unfold maxLen;omega) oM sO ?_;intro z m ag aa _)
    exact⟨al r m q _ z _ 1 oM S D I ag aa,by simp[intOf];omega⟩
   .have bo:(0:Int)<(j:Int):=oM
    obtain⟨O,Q,bj,cur,fr,rfl,bl,ah,au⟩:=K.link (y oM);obtain⟨c0,c1,c2,c3⟩:=au 0 (y oM);have E:=A.out.hp ah;have a0:wr.cell? ⟨O,Q,none⟩=some _:=(ξ E _).trans (by simpa using c0);have a1:wr.cell? ⟨O,Q+1,none⟩=some _:=(ξ E _).trans (by simpa using c1);have a2:wr.cell? ⟨O,Q+2,none⟩=some _:=(ξ E _).trans (by simpa using c2);have a3:wr.cell? ⟨O,Q+3,none⟩=some _:=(ξ E _).trans (by simpa using c3);have aw:u=HL.key (d[j][0]'(y oM)):=by
     rw[H,if_neg P];rw[List.head?_eq_getElem?,List.getElem?_eq_getElem (y oM)];rfl
    have bn:=ζ E;have bp:(0:Int)<(d[j].length:Int):=by have:=y oM;omega
    have a9:=zh aw;clear H ac aj K au aw;go_wp2_with fail;refine (jT8 (d[j][0]'(y oM)) _).mono ?_;rintro e W0 ⟨rfl,aq⟩;rw[show (d[j][0]'(y oM)).key=u from a9.out.symm];go_wp2_with fail;refine (HM W0 _ (A.out.tr aq) ⟨_,_,_,rfl⟩).mono ?_;rintro e r ⟨q,rfl,J,D⟩;have Y:=aq.tr D;have I:=zI1 ae Y;have bi:=Nat.le_trans A.out.size Y.size;have S:=zh J;clear J
    go_wp2_with (at_builtin;refine wpList_append_own _ rfl _ _ 156 rfl w.heap.size 87 i0 _ 4 40 underlying156 F a4 a5 a6 rfl dC _ _ _ rfl (I.alloc _) ⟨r.heap.size,0,none⟩ 1 1 [.string u,ϊ 0,.int .u64 0,ϖ q] rfl rfl zE2 (by simp[Value.oneCell']) (by unfold maxLen;omega) oM sO ?_;intro z m ag aa _)
    exact⟨al r m q _ z _ _ rfl S Y I ag aa,by simp[intOf];omega⟩
  .have be:¬(j:Int)<(d.length:Int):=oM
   go_wp2;go_ret;have e:j=d.length:=oM
   subst e;exact⟨_,rfl,f,by rw[R.out];exact ae,by rw[R.out];exact ai,by rw[R.out];exact Z.out,A.out⟩
def Both{α β:Type}(R:α→β→Prop)(a:List α)(b:List β):Prop:=a.length=b.length∧∀ i (h:i<a.length) (h':i<b.length),R a[i] b[i]
theorem Both.mono{α d:Type}{R c:α->d->Prop}{a:List α}{b:List d}(h:Both R a b)(e:∀ x y,R x y->c x y):Both c a b:=⟨h.1,λi h1 h2=>e _ _ (h.2 i h1 h2)⟩
theorem Both.take{α c:Type}{R:α->c->Prop}{a:List α}{b:List c}(h:Both R a b)(k:Nat):Both R (a.take k) (b.take k):=
 ⟨by simp[h.1],λi d e=>by simp only[List.getElem_take];exact h.2 i (by simp at d;omega) (by simp at e;omega)⟩
theorem Both.drop{α c:Type}{R:α->c->Prop}{a:List α}{b:List c}(h:Both R a b)(k:Nat):Both R (a.drop k) (b.drop k):=
 ⟨by simp[h.1],λi d e=>by simp only[List.getElem_drop];exact h.2 _ (by simp at d;omega) (by simp at e;omega)⟩
theorem Both.append{α g:Type}{R:α->g->Prop}{a c:List α}{b d:List g}(h:Both R a b)(e:Both R c d):Both R (a++c) (b++d):=
 ⟨by simp[h.1,e.1],λi j k=>by
  have l:=h.1;by_cases f:i<a.length
  .rw[gL f,gL oM];exact h.2 i f oM
  .rw[gR oM,gR oM];simp only[l];exact e.2 _ (by simp at j;omega) (by simp at k;omega)⟩
theorem Both.map_eq{α c d:Type}{R:α->c->Prop}{a:List α}{b:List c}{f:α->d}{g:c->d}(h:Both R a b)(k:∀ x y,R x y->f x=g y):a.map f=b.map g:=by
 refine List.ext_getElem (by simp[h.1]) λi e j=>?_;simp only[List.getElem_map];exact k _ _ (h.2 i (by simpa using e) (by simpa using j))
def RLof{X:Type}(N:Nat→X→Prop)(O:Nat→Int→X→Prop)(h:HL)(l:Lnk X):Prop:=
 h.key=l.key∧match l.ref with
  | none=>h.b=0∧h.s=0∧∃ q,h.p=some q∧N q l.sub
  | some (b,s)=>h.b=b∧h.s=s∧h.p=none∧O b s l.sub
def zV9{X:Type}(N:Nat→X→Prop)(O:Nat→Int→X→Prop)(w:World)(v:Value)(ls:List (Lnk X)):Prop:=
 ∃ hs:List HL,Slc w 87 4 v hs.length (qA9 hs)∧Both (RLof N O) hs ls
abbrev qE8:Type:=(n:Nat)→Nat→Int→Tn n→Prop
def RN(O:qE8):(n:Nat)→World→Nat→Tn n→Prop
 | 0,w,q,t=>∃ vp,w.heap[q]?=some (χ 0 vp (.slice none 0 0))∧Slc w 185 2 vp (prs t).length (qA4 (prs t))
 | n+1,w,q,t=>∃ vl,w.heap[q]?=some (χ ((n+1:Nat):Int) (.slice none 0 0) vl)∧zV9 (RN O n w) (O n) w vl (η t)
abbrev RL(O:qE8)(n:Nat)(w:World)(h:HL)(l:Lnk (Tn n)):Prop:=RLof (RN O n w) (O n) h l
abbrev RLs(O:qE8)(n:Nat)(w:World)(v:Value)(ls:List (Lnk (Tn n))):Prop:=zV9 (RN O n w) (O n) w v ls
theorem RLof.mono{X:Type}{N f:Nat->X->Prop}{O g:Nat->Int->X->Prop}{h}{l:Lnk X}(i:RLof N O h l)(j:∀ q,N q l.sub->f q l.sub)(k:∀ b s,O b s l.sub->g b s l.sub):RLof f g h l:=by
 refine⟨i.1,?_⟩;have:=i.2
 cases hl:l.ref with
 | none=>
  rw[hl] at this;obtain⟨a,c,q,d,e⟩:=this;exact⟨a,c,q,d,j q e⟩
 | some x=>
  rw[hl] at this;obtain⟨a,c,d,e⟩:=this;exact⟨a,c,d,k _ _ e⟩
def qF1:List TypeId:=[213,185,87]
theorem Apt.sub{w}{S}{Ts a:List TypeId}(h:Apt w S Ts)(b:∀ t∈a,t∈Ts):Apt w S a:=λk hk c t fr e hm=>h k hk c t fr e (b t hm)
theorem RN.keep{O:qE8}{S}{w w'}(hK:Kp S w w')(b:Apt w S qF1):∀ (n:Nat) (q:Nat) (t),RN O n w q t->RN O n w' q t
 | 0,q,t,h=>by
  obtain⟨i,a,c⟩:=h;exact⟨i,hK.heap a (λd=>b q d _ _ _ a dC),c.keep hK (b.sub dC)⟩
 | n+1,q,t,h=>by
  obtain⟨g,a,f,c,e⟩:=h;exact⟨g,hK.heap a (λd=>b q d _ _ _ a dC),f,c.keep hK (b.sub dC),e.mono λx y hr=>hr.mono (λq hq=>RN.keep hK b n q _ hq) (λ_ _ h=>h)⟩
theorem RLs.keep{O:qE8}{S}{w w'}{n:Nat}{v}{ls}(h:RLs O n w v ls)(hK:Kp S w w')(a:Apt w S qF1):RLs O n w' v ls:=by
 obtain⟨e,b,c⟩:=h;exact⟨e,b.keep hK (a.sub dC),c.mono λx y d=>d.mono (λq hq=>RN.keep hK a n q _ hq) (λ_ _ h=>h)⟩
theorem RL.keep{O:qE8}{S}{w w'}{n:Nat}{h}{l}(c:RL O n w h l)(hK:Kp S w w')(a:Apt w S qF1):RL O n w' h l:=c.mono (λq b=>RN.keep hK a n q _ b) (λ_ _ h=>h)
def qK3:Array Value:=#[.string ⟨#[]⟩,.int .i64 0,.int .u64 0,.pointer none]
def zK5(w:World)(S:List Nat):Prop:=∀ k∈S,∀ c t fr,w.heap[k]?=some (.cells c t fr)→t ∉ qF1∨(t=87∧c=qK3)
theorem jA1{α d:Type}{R:α->d->Prop}{a:List α}{b:List d}(h:Both R a b)(c:1<=a.length):R (a[0]'c) (b[0]'(by rw[<-h.1];exact c)):=h.2 0 _ _
theorem kD0{X:Type}{N:Nat->X->Prop}{O:Nat->Int->X->Prop}(G:∀ (b:Nat) (s:Int) (t:X),O b s t->1<=b){S}{w w'}(hK:Kp S w w')(B:zK5 w S){v}{hs}{ls:List (Lnk X)}(h:Slc w 87 4 v hs.length (qA9 hs))(o:Both (RLof N O) hs ls):Slc w' 87 4 v hs.length (qA9 hs):=by
 refine⟨h.len,?_⟩;rcases h.val with h|⟨g,m,cap,cur,y,z,d,A,n,e⟩
 .exact .inl h
 .refine .inr ⟨g,m,cap,cur,y,z,d,A,hK.heap n (λC=>?_),e⟩;rcases B g C _ _ _ n with l|⟨_,l⟩
  .exact l dC
  .obtain⟨p,r,_,u⟩:=qW4 (ls:=hs) (i:=0) d;have a:=e _ _ p;have f:=e _ _ r;have j:=e _ _ u;rw[l] at a f j;have D:m=0:=by
    match m,a with
    | 0,_=>rfl
    | 1,a=>simp[qK3] at a
    | 2,a=>simp[qK3] at a
    | 3,a=>simp[qK3] at a
    | k+4,a=>simp[qK3] at a
   subst D;simp[qK3] at f j;have F:=jA1 o d;obtain⟨_,c⟩:=F
   cases hl:(ls[0]'(by rw[<-o.1];exact d)).ref with
   | none=>
    rw[hl] at c;obtain⟨_,_,q,E,_⟩:=c;simp[HL.ptr,E] at j
   | some x=>
    rw[hl] at c;have:=G _ _ _ c.2.2.2;rw[c.1] at f;omega
theorem RN.keepZ{O:qE8}(r:∀ (n b:Nat) (s:Int) (t),O n b s t->1<=b){S}{w w'}(hK:Kp S w w')(j:zK5 w S):∀ (n:Nat) (q:Nat) (t),RN O n w q t->RN O n w' q t
 | 0,q,t,h=>by
  obtain⟨E,f,i⟩:=h;have o:∀ (k:Nat) (c:Array Value) (t:TypeId) (d:Nat × Nat),Ϙ w k (.cells c t d)->t∈qF1->t≠87->k ∉ S:=λk c t d e ht hne l=>by
   rcases j k l c t d e with a|⟨a,_⟩
   .exact a ht
   .exact hne a
  refine⟨E,hK.heap f (o q _ _ _ f dC dC),i.len,?_⟩;rcases i.val with h|⟨g,C,cap,cur,d,v,z,A,p,B⟩
  .exact .inl h
  .exact .inr ⟨g,C,cap,cur,d,v,z,A,hK.heap p (o g _ _ _ p dC dC),B⟩
 | n+1,q,t,h=>by
  obtain⟨D,f,u,i,m⟩:=h;refine⟨D,hK.heap f (λl=>?_),u,kD0 (r n) hK j i m,m.mono λx y hr=>hr.mono (λq hq=>RN.keepZ r hK j n q _ hq) (λ_ _ h=>h)⟩;rcases j q l _ _ _ f with a|⟨a,_⟩
  .exact a dC
  .cases a
theorem xJ9{α:Type}(low:α->ByteArray)(key)(l:List (List α)):(links low key l).length=l.length:=by
 cases l<;>simp[links]
theorem xJ8{α:Type}(low:α->ByteArray)(key)(l:List (List α)):links low key l=(qD8 low key l).map λx=>⟨x.1,none,x.2⟩:=by
 cases l<;>simp[links,qD8]
theorem jS6(x)(w)(d:∃ b n c,x=.slice b n c):
  Calls prog 182 #[x] w λe a=>∃ q,e=.returned (.pointer (some ⟨q,0,none⟩))/\a.heap[q]?=some (χ 0 x (.slice none 0 0))/\Kp [] w a:=by
 obtain⟨b,n,c,rfl⟩:=d;go_enter func182,ntmps182;go_wp2;go_ret;exact⟨w.heap.size,rfl,υ _ _,kF.alloc _⟩
theorem jA5(x)(L:Nat)(d:Int)(w)(g:∃ b n c,x=.slice b n c)(a:w.heap[L]?=some (.cells #[.int .i64 d] 3)):
  Calls prog 224 #[x,.pointer (some ⟨L,0,none⟩)] w λe f=>∃ q,e=.returned (.pointer (some ⟨q,0,none⟩))/\f.heap[q]?=some (χ d (.slice none 0 0) x)/\Kp [] w f:=by
 obtain⟨b,n,c,rfl⟩:=g;have h:=ζ a;have i:=ϻ a 0;go_enter func224,ntmps224;go_wp2;go_ret;exact⟨w.heap.size,rfl,υ _ _,kF.alloc _⟩
theorem zA1(O:qE8)(key)(v)(ps)(w)(o:Slc w 185 2 v ps.length (qA4 ps))(m:ps.length<=1000000)(s:∀ p∈ps,θ p<=21)(l:meas θ ps<=210):
  Calls prog 117 #[.string key,v] w λe d=>∃ a,e=.returned a/\RLs O 0 d a (qE1 key ps)/\Kp [] w d:=by
 have f:Hid (∀ (args:Array Value) (W:World),Sem.run prog (callFunc 182 args) W=.ok (.enter 182 args) W):=λargs W=>by simp[go_sem,func182]
 go_enter func117,ntmps117;go_wp2_with fail;refine (jE9 182 #[] (λx=>χ 0 x (.slice none 0 0)) key v ps w o m s l f (λv=>⟨_,rfl⟩) (λW x _ hx=>jS6 x W hx)).mono ?_;rintro e D ⟨a,rfl,r,n,c,k,b⟩;go_wp2;go_ret;refine⟨a,rfl,⟨r,by rw[c];exact qJ3 n,?_⟩,b⟩;have e:qE1 key ps=(qD8 KV.k key (qB8 θ ps)).map λx=>(⟨x.1,none,x.2⟩:Lnk (Tn 0)):=xJ8 _ _ _;refine⟨by rw[c,e,List.length_map,qQ6],λi h C=>?_⟩;have j:i<(qD8 KV.k key (qB8 θ ps)).length:=by rw[qQ6];omega
 obtain⟨t,u,y,q,x,z,A,B⟩:=k i h j;have g:(qE1 key ps)[i]=(⟨(qD8 KV.k key (qB8 θ ps))[i].1,none,(qD8 KV.k key (qB8 θ ps))[i].2⟩:Lnk (Tn 0)):=by
  simp only[e];exact List.getElem_map _
 rw[g];exact⟨t,u,y,q,z,x,A,B.keep0 b⟩
theorem xB2{α d:Type}{f:α->Nat}{g:d->Nat}(c:Nat):∀ (a:List α) (b:List d) (n:Nat),a.map f=b.map g->qG4 f c a n=qG4 g c b n
 | [],[],_,_=>rfl
 | [],_::_,_,h=>by simp at h
 | _::_,[],_,h=>by simp at h
 | x::a,y::b,n,h=>by
  simp only[List.map_cons,List.cons.injEq] at h;unfold qG4;rw[h.1,xB2 c a b _ h.2]
theorem xK5{α c:Type}{f:α->Nat}{g:c->Nat}{a:List α}{b:List c}(h:a.map f=b.map g):meas f a=meas g b:=by unfold meas;rw[h]
theorem jA2{O:qE8}{n:Nat}{w}{hs}{ls}(h:Both (RL O n w) hs ls):Both (Both (RL O n w)) (qB8 φ hs) (qB8 qA2 ls):=by
 have e:hs.map φ=ls.map qA2:=h.map_eq λx y f=>by unfold φ qA2;rw[f.1]
 have b:=xK5 e;have c:qG4 φ (meas φ hs) hs 0=qG4 qA2 (meas qA2 ls) ls 0:=by rw[b];exact xB2 _ _ _ _ e
 unfold qB8;rw[c,b];split
 .exact⟨rfl,λi a d=>by
   have:i=0:=by simp at a;omega
   subst this;exact h⟩
 .refine⟨rfl,λi a d=>?_⟩;have:i=0\/i=1:=by simp at a;omega
  rcases this with rfl|rfl
  .exact h.take _
  .exact h.drop _
theorem jA3{O:qE8}{n:Nat}{w}{c:List (List HL)}{d:List (List (Lnk (Tn n)))}(h:Both (Both (RL O n w)) c d)(key):Both (λx y=>x.1=y.1/\Both (RL O n w) x.2 y.2) (qD8 HL.key key c) (qD8 Lnk.key key d):=by
 refine⟨by rw[qQ6,qQ6,h.1],λi a b=>?_⟩;rw[qQ6] at a b;have e:=zG4 (low:=HL.key) (key:=key) a;have j:=zG4 (low:=Lnk.key) (key:=key) b;rw[gQ (by rw[qQ6];exact a)] at e;rw[gQ (by rw[qQ6];exact b)] at j;rw[Option.some.inj e,Option.some.inj j];have k:=h.2 i a b;refine⟨?_,k⟩;have m:=k.map_eq (f:=HL.key) (g:=Lnk.key) λx y o=>o.1;have l:(c[i].head?.map HL.key)=(d[i].head?.map Lnk.key):=by rw[<-List.head?_map,<-List.head?_map,m]
 simp only[l]
theorem zD9(O:qE8)(n:Nat)(d:Int)(z:d=((n+1:Nat):Int))(key)(v)(ls)(w)(f:RLs O n w v ls)(T:ls.length<=1000000)(Z:∀ l∈ls,qA2 l<=21)(R:meas qA2 ls<=210):
  Calls prog 160 #[.string key,.int .i64 d,v] w λe B=>∃ j,e=.returned j/\RLs O (n+1) B j (qC9 n key ls)/\Kp [] w B:=by
 have ab:=zM;have E:Hid (∀ (args:Array Value) (W:World),Sem.run prog (callFunc 224 args) W=.ok (.enter 224 args) W):=λargs W=>by simp[go_sem,func224]
 obtain⟨c,X,g⟩:=f;have m:c.map φ=ls.map qA2:=g.map_eq λx y f=>by unfold φ qA2;rw[f.1]
 have aa:∀ h∈c,φ h<=21:=λh hh=>by
  have:φ h∈c.map φ:=List.mem_map_of_mem hh;rw[m] at this;obtain⟨l,Q,e⟩:=List.mem_map.1 this;rw[<-e];exact Z l Q
 have D:=zh g;have S:meas φ c<=210:=by rw[xK5 m];exact R
 have U:c.length<=1000000:=by rw[g.1];exact T
 clear g m;have F:=zh z;clear z;go_enter func160,ntmps160;go_wp2_with fail;have K:=υ w (.cells #[ϊ d] 3);have o:Kp [] w (w.alloc (.cells #[ϊ d] 3)):=kF.alloc _;refine (jE8 224 _ (λx=>χ d (.slice none 0 0) x) key v c _ (X.keep0 o) U aa S E (λv=>⟨_,rfl⟩) ?_).mono ?_
 .intro W x J Y;exact jA5 x w.heap.size d W Y (J.hp K)
 rintro e C ⟨j,rfl,A,V,u,L,p⟩;have r:=o.tr p;go_wp2;go_ret;refine⟨j,rfl,⟨A,by rw[u];exact qJ3 V,?_⟩,r⟩;have e:qC9 n key ls=(qD8 Lnk.key key (qB8 qA2 ls)).map λx=>(⟨x.1,none,x.2⟩:Lnk (Tn (n+1))):=xJ8 _ _ _;have s:=jA3 (jA2 D) key;have t:=s.1;refine⟨by rw[u,e,List.length_map,<-t,qQ6],λi H h2=>?_⟩;have k:i<(qD8 HL.key key (qB8 φ c)).length:=by rw[qQ6];omega
 have I:i<(qD8 Lnk.key key (qB8 qA2 ls)).length:=by rw[<-t];exact k
 obtain⟨k1,k2,k3,q,x,k4,k5,k6⟩:=L i H k;obtain⟨m1,m2⟩:=s.2 i k I;have G:(qC9 n key ls)[i]=(⟨(qD8 Lnk.key key (qB8 qA2 ls))[i].1,none,(qD8 Lnk.key key (qB8 qA2 ls))[i].2⟩:Lnk (Tn (n+1))):=by
  simp only[e];exact List.getElem_map _
 rw[G];have M:RLs O n C x ((qD8 Lnk.key key (qB8 qA2 ls))[i].2):=⟨_,k6.keep0 p,m2.mono λa b f=>RL.keep f r (Apt.nil _ _)⟩;have N:RN O (n+1) C q ((qD8 Lnk.key key (qB8 qA2 ls))[i].2):=⟨x,by rw[<-F.out];exact k5,M⟩;have P:A[i].key=(qD8 Lnk.key key (qB8 qA2 ls))[i].1:=by rw[k1,m1]
 exact⟨P,k2,k3,q,k4,N⟩
theorem xN4(ps):∀ u∈qA4 ps,u.oneCell'=true:=by
 intro u a;simp only[qA4,pcs,List.mem_flatMap,mC,lN,or_false] at a;obtain⟨p,_,rfl|rfl⟩:=a<;>rfl
theorem jS4(ps):∀ u∈qA9 ps,u.oneCell'=true:=by
 intro u a;simp only[qA9,lcs,List.mem_flatMap,mC,lN,or_false] at a;obtain⟨p,_,rfl|rfl|rfl|rfl⟩:=a<;>rfl
theorem kA9(a b):qA4 (a++b)=qA4 a++qA4 b:=by simp[qA4]
theorem jS3(a b):qA9 (a++b)=qA9 a++qA9 b:=by simp[qA9]
theorem jJ8{α:Type}(l:List (List α))(j:Nat)(h:j<l.length):(l.take (j+1)).flatten=(l.take j).flatten++l[j]:=by
 rw[tA h,List.flatten_append];simp only[List.flatten_cons,List.flatten_nil,aN]
theorem jJ9{α:Type}(l:List (List α))(j:Nat):(l.take j).flatten.length<=l.flatten.length:=by
 have h:=congrArg (λl=>l.flatten.length) (tD j l);simp only[List.flatten_append,lA] at h;omega
def qM1{α:Type}(l:List (List α))(j:Nat):List α:=(l.take j).flatten
def tot{α:Type}(l:List (List α))(j:Nat):Nat:=(qM1 l j).length
theorem zM3{α:Type}(l:List (List α))(j:Nat)(h:j<l.length):qM1 l (j+1)=qM1 l j++l[j]:=jJ8 l j h
theorem zJ7{α:Type}(l:List (List α))(j:Nat)(h:j<l.length):tot l (j+1)=tot l j+l[j].length:=by unfold tot;rw[zM3 l j h,lA]
theorem xS3{α:Type}(l:List (List α))(j:Nat):tot l j<=l.flatten.length:=jJ9 l j
theorem zE1{α:Type}(l:List (List α)):qM1 l l.length=l.flatten:=by unfold qM1;rw[List.take_length]
theorem zK3(z)(n:Nat):(Builtin.zeroCells z n).size=z.size*n:=by
 simp[Builtin.zeroCells,Nat.mul_comm]
theorem jN1(n:Nat)(w)(s:n<=1000000):
  Calls prog 259 #[.slice none 0 0,.int .i64 n] w λe i=>∃ v',e=.returned v'/\i.ownsRow w.heap.size 185 2 v' 0 []/\Kp [] w i:=by
 obtain⟨g,l,m,o,f⟩:=info_parts zO3;by_cases j:n=0
 .subst j;go_enter func259,ntmps259;go_wp2;go_ret;exact⟨_,rfl,wN _ _ _ _,Kp.refl _ _⟩
 .have p:¬((n:Int)<0):=oM
  have q:(0:Int)<(n:Int):=oM
  have d:∀ b,(Builtin.append_ #[186,3] b #[.slice none 0 0,ϊ (n:Int)]).run prog w =
    .ok (.slice (some ⟨w.heap.size,0,none⟩) n (grownCap w n 0 185)) (w.drew.alloc (.cells (Builtin.zeroCells (Value.agg _).cells n++Builtin.zeroCells (Value.agg _).cells (grownCap w n 0 185-n)) 185)):=λb=>by
   have h:=Lib.run_append_grow_zeros (P:=prog) w 186 3 b 185 g _ .i64 .i64 underlying186 underlying3 l m none 0 0 [] (run_firstCells_none w.drew g.size 0 0 0) n oM (by rw[o];decide) oM oM (by rw[f];omega) (by rw[f];exact growslice_fits oM oM);simpa using h
  have k:n<=grownCap w n 0 185:=grownCap_ge w _ _ _;have a:=grownCap_le_maxLen w n 0 185 (by unfold maxLen;omega);obtain⟨G,c⟩:=eX (grownCap w n 0 185);rw[<-c] at d k a;have r:G<=9223372036854775807:=by unfold maxLen at a;omega
  clear c;go_enter func259,ntmps259
  go_wp2_with (at_builtin;refine Lib.wpList_append_run _ rfl _ _ _ _ rfl _ _ rfl rfl _ _ (d _) ?_)
  go_ret;refine⟨_,rfl,⟨rfl,.inr ⟨w.heap.size,G,_,rfl,lR,υ _ _,zL _,a,?_,?_⟩⟩,(kF.drew).alloc _⟩
  .rw[Array.size_append,zK3,zK3];show 2*n+2*(G-n)=G*2;omega
  .simp
theorem xA7(O:Nat)(vs:List Value)(d:List (List KV))(w)(P:w.heap[O]?=some (.cells vs.toArray 186))(G:zD1 w 185 2 vs (d.map λl=>(l.length,qA4 l)))(ps)(A:d.flatten=ps)(W:ps.length<=1000000)(hl:d.length<=1000):
  Calls prog 225 #[.slice (some ⟨O,0,none⟩) d.length d.length] w λe w'=>∃ v',e=.returned v'/\w'.ownsRow w.heap.size 185 2 v' ps.length (qA4 ps)/\Kp [] w w':=by
 obtain⟨Y,T,aj,ak,al⟩:=info_parts zO3;have ao:vs.length=d.length:=by have:=G.1;rw[List.length_map] at this;exact this
 have M:Hid (∀ i (h:i<d.length) (h':i<vs.length),Slc w 185 2 vs[i] d[i].length (qA4 d[i])):=λi h h'=>by
  have:=G.2 i (by simpa using h) h';simpa using this
 have B:=zh P;clear G P;have y:ps.length=tot d d.length:=by unfold tot;rw[zE1,A]
 rw[y] at W;have aa:=zh y;have ae:Hid (qM1 d d.length=ps):=by show _=_;rw[zE1,A]
 have H:∀ j,tot d j<=tot d d.length:=λj=>by rw[<-y,<-A];exact xS3 d j
 clear y A;go_enter func225,ntmps225;go_wp2
 go_loop [3,11] (λs i=>∃ (j:Nat),j<=d.length/\i=.int .i64 j/\s=.int .i64 (tot d j:Nat)) (λ_ i=>d.length-(intOf i).toNat)
 case atStart=>exact⟨0,zL _,rfl,rfl⟩
 case round=>
  obtain⟨j,hj,rfl,rfl⟩:=hrel;have am:=H j;by_cases o:j<d.length
  .have F:(j:Int)<(d.length:Int):=oM
   have v:=M.out j o oM;have m:=ξ B j;rw[zG,gQ (show j<vs.length by omega)] at m;have ag:=ζ B.out;obtain⟨N,n,r⟩:∃ N n,vs[j]=.slice N d[j].length n:=by
    rcases v.val with⟨m,b,c,f,_⟩|⟨g,K,cap,cur,D,f,_⟩
    .rw[m];exact⟨b,c,f⟩
    .exact⟨_,cap,f⟩
   rw[r] at m;have q:=zh (zJ7 d j o);have E:=H (j+1);rw[q.out] at E;have an:¬((tot d j:Nat):Int)+(d[j].length:Int)<0:=oM
   clear v r;go_wp2;refine⟨⟨j+1,oM,by go_num,by rw[q.out];go_num⟩,by simp[intOf];omega⟩
  .have F:¬(j:Int)<(d.length:Int):=oM
   have e:j=d.length:=oM
   subst e;go_wp2_with fail;refine (jN1 _ w W).mono ?_;rintro e w1 ⟨v1,rfl,X,R⟩;have ab:=zh R;have ac:=zh X;clear R X;go_wp2
   go_loopw [6,27] (λs i wr=>∃ (j:Nat),j<=d.length/\i=.int .i64 j/\wr.ownsRow w.heap.size 185 2 s (tot d j) (qA4 (qM1 d j))/\Kp [] w wr) (λ_ i _=>d.length-(intOf i).toNat)
   case atStart=>exact⟨0,zL _,rfl,ac,ab⟩
   case round=>
    obtain⟨j,hj,rfl,p,hK⟩:=hrel;by_cases o:j<d.length
    .have F:(j:Int)<(d.length:Int):=oM
     have v:=(M j o oM).keep0 hK;have Q:=hK.hp B.out;have m:=ξ Q j;rw[zG,gQ (show j<vs.length by omega)] at m;have ag:=ζ Q;have C:=zh (zJ7 d j o);have q:Hid (qA4 (qM1 d (j+1))=qA4 (qM1 d j)++qA4 d[j]):=by show _=_;rw[zM3 d j o,kA9]
     have E:=H (j+1);rw[C.out] at E;have ai:=hK.size;obtain⟨Z,J⟩:=eY (vs[j]);rw[J] at v m;obtain⟨V,t⟩:=v;by_cases z:Z=.slice none 0 0
     .have U:d[j].length=0:=by
       rcases t with⟨m,_⟩|⟨g,K,cap,cur,D,f,_⟩
       .exact m
       .rw[z] at f;cases f
      subst z;have L:=zh U;clear t V J U
      go_wp2_with (at_builtin;refine wpList_append_own_none rfl _ _ 186 rfl w.heap.size 185 Y 2 underlying186 T _ _ _ rfl p rfl ?_)
      refine⟨⟨j+1,oM,by go_num,?_,hK⟩,by simp[intOf];omega⟩;rw[C.out,q.out,L.out,List.length_eq_zero_iff.1 L.out];simpa [qA4] using p
     .obtain⟨x,n,r⟩:∃ x n,Z=.slice (some x) d[j].length n:=by
       rcases t with⟨m,b,c,f,h2⟩|⟨g,K,cap,cur,D,f,_⟩
       .rw[m]
        cases b with
        | none=>rw[h2 rfl] at f;exact absurd f z
        | some a=>exact⟨a,c,f⟩
       .exact⟨_,cap,f⟩
      have S:∀ k u,(qA4 d[j])[k]?=some u->wr.cell? (x.add k)=some u:=by
       intro k u I;rcases t with⟨m,_⟩|⟨g,K,cap,cur,D,f,_,_,h4,h5⟩
       .rw[List.length_eq_zero_iff.1 m] at I;simp[qA4] at I
       .rw[r] at f;simp only[vJ,Option.some.injEq] at f;rw[f.1,qH0,ξ h4];exact h5 k u I
      subst r;have HC:=zh S;clear t z J S
      go_wp2_with (at_builtin;refine wpList_append_own _ rfl _ _ 186 rfl w.heap.size 185 Y _ 2 32 underlying186 T aj ak al rfl dC _ _ _ rfl p x d[j].length n (qA4 d[j]) rfl V HC (xN4 _) (by unfold maxLen;omega) oM ai ?_;intro v2 w2 ah af _)
      refine⟨⟨j+1,oM,by go_num,?_,hK.grown af (λk hk=>Or.inr (qI4 p k hk))⟩,by simp[intOf];omega⟩;rw[C.out,q.out];exact ah
    .have F:¬(j:Int)<(d.length:Int):=oM
     have e:j=d.length:=oM
     go_wp2;go_ret;subst e;rw[ae.out] at p;exact⟨_,rfl,by rw[aa.out];exact p,hK⟩
theorem jN0(n:Nat)(w)(s:n<=1000000):
  Calls prog 260 #[.slice none 0 0,.int .i64 n] w λe i=>∃ v',e=.returned v'/\i.ownsRow w.heap.size 87 4 v' 0 []/\Kp [] w i:=by
 obtain⟨g,l,m,o,f⟩:=info_parts qV8;by_cases j:n=0
 .subst j;go_enter func260,ntmps260;go_wp2;go_ret;exact⟨_,rfl,wN _ _ _ _,Kp.refl _ _⟩
 .have p:¬((n:Int)<0):=oM
  have q:(0:Int)<(n:Int):=oM
  have d:∀ b,(Builtin.append_ #[156,3] b #[.slice none 0 0,ϊ (n:Int)]).run prog w =
    .ok (.slice (some ⟨w.heap.size,0,none⟩) n (grownCap w n 0 87)) (w.drew.alloc (.cells (Builtin.zeroCells (Value.agg _).cells n++Builtin.zeroCells (Value.agg _).cells (grownCap w n 0 87-n)) 87)):=λb=>by
   have h:=Lib.run_append_grow_zeros (P:=prog) w 156 3 b 87 g _ .i64 .i64 underlying156 underlying3 l m none 0 0 [] (run_firstCells_none w.drew g.size 0 0 0) n oM (by rw[o];decide) oM oM (by rw[f];omega) (by rw[f];exact growslice_fits oM oM);simpa using h
  have k:n<=grownCap w n 0 87:=grownCap_ge w _ _ _;have a:=grownCap_le_maxLen w n 0 87 (by unfold maxLen;omega);obtain⟨G,c⟩:=eX (grownCap w n 0 87);rw[<-c] at d k a;have r:G<=9223372036854775807:=by unfold maxLen at a;omega
  clear c;go_enter func260,ntmps260
  go_wp2_with (at_builtin;refine Lib.wpList_append_run _ rfl _ _ _ _ rfl _ _ rfl rfl _ _ (d _) ?_)
  go_ret;refine⟨_,rfl,⟨rfl,.inr ⟨w.heap.size,G,_,rfl,lR,υ _ _,zL _,a,?_,?_⟩⟩,(kF.drew).alloc _⟩
  .rw[Array.size_append,zK3,zK3];show 4*n+4*(G-n)=G*4;omega
  .simp
theorem xA6(O:Nat)(vs:List Value)(d:List (List HL))(w)(P:w.heap[O]?=some (.cells vs.toArray 156))(G:zD1 w 87 4 vs (d.map λl=>(l.length,qA9 l)))(ps)(A:d.flatten=ps)(W:ps.length<=1000000)(hl:d.length<=1000):
  Calls prog 226 #[.slice (some ⟨O,0,none⟩) d.length d.length] w λe w'=>∃ v',e=.returned v'/\w'.ownsRow w.heap.size 87 4 v' ps.length (qA9 ps)/\Kp [] w w':=by
 obtain⟨Y,T,aj,ak,al⟩:=info_parts qV8;have ao:vs.length=d.length:=by have:=G.1;rw[List.length_map] at this;exact this
 have M:Hid (∀ i (h:i<d.length) (h':i<vs.length),Slc w 87 4 vs[i] d[i].length (qA9 d[i])):=λi h h'=>by
  have:=G.2 i (by simpa using h) h';simpa using this
 have B:=zh P;clear G P;have y:ps.length=tot d d.length:=by unfold tot;rw[zE1,A]
 rw[y] at W;have aa:=zh y;have ae:Hid (qM1 d d.length=ps):=by show _=_;rw[zE1,A]
 have H:∀ j,tot d j<=tot d d.length:=λj=>by rw[<-y,<-A];exact xS3 d j
 clear y A;go_enter func226,ntmps226;go_wp2
 go_loop [3,11] (λs i=>∃ (j:Nat),j<=d.length/\i=.int .i64 j/\s=.int .i64 (tot d j:Nat)) (λ_ i=>d.length-(intOf i).toNat)
 case atStart=>exact⟨0,zL _,rfl,rfl⟩
 case round=>
  obtain⟨j,hj,rfl,rfl⟩:=hrel;have am:=H j;by_cases o:j<d.length
  .have F:(j:Int)<(d.length:Int):=oM
   have v:=M.out j o oM;have m:=ξ B j;rw[zG,gQ (show j<vs.length by omega)] at m;have ag:=ζ B.out;obtain⟨N,n,r⟩:∃ N n,vs[j]=.slice N d[j].length n:=by
    rcases v.val with⟨m,b,c,f,_⟩|⟨g,K,cap,cur,D,f,_⟩
    .rw[m];exact⟨b,c,f⟩
    .exact⟨_,cap,f⟩
   rw[r] at m;have q:=zh (zJ7 d j o);have E:=H (j+1);rw[q.out] at E;have an:¬((tot d j:Nat):Int)+(d[j].length:Int)<0:=oM
   clear v r;go_wp2;refine⟨⟨j+1,oM,by go_num,by rw[q.out];go_num⟩,by simp[intOf];omega⟩
  .have F:¬(j:Int)<(d.length:Int):=oM
   have e:j=d.length:=oM
   subst e;go_wp2_with fail;refine (jN0 _ w W).mono ?_;rintro e w1 ⟨v1,rfl,X,R⟩;have ab:=zh R;have ac:=zh X;clear R X;go_wp2
   go_loopw [6,27] (λs i wr=>∃ (j:Nat),j<=d.length/\i=.int .i64 j/\wr.ownsRow w.heap.size 87 4 s (tot d j) (qA9 (qM1 d j))/\Kp [] w wr) (λ_ i _=>d.length-(intOf i).toNat)
   case atStart=>exact⟨0,zL _,rfl,ac,ab⟩
   case round=>
    obtain⟨j,hj,rfl,p,hK⟩:=hrel;by_cases o:j<d.length
    .have F:(j:Int)<(d.length:Int):=oM
     have v:=(M j o oM).keep0 hK;have Q:=hK.hp B.out;have m:=ξ Q j;rw[zG,gQ (show j<vs.length by omega)] at m;have ag:=ζ Q;have C:=zh (zJ7 d j o);have q:Hid (qA9 (qM1 d (j+1))=qA9 (qM1 d j)++qA9 d[j]):=by show _=_;rw[zM3 d j o,jS3]
     have E:=H (j+1);rw[C.out] at E;have ai:=hK.size;obtain⟨Z,J⟩:=eY (vs[j]);rw[J] at v m;obtain⟨V,t⟩:=v;by_cases z:Z=.slice none 0 0
     .have U:d[j].length=0:=by
       rcases t with⟨m,_⟩|⟨g,K,cap,cur,D,f,_⟩
       .exact m
       .rw[z] at f;cases f
      subst z;have L:=zh U;clear t V J U
      go_wp2_with (at_builtin;refine wpList_append_own_none rfl _ _ 156 rfl w.heap.size 87 Y 4 underlying156 T _ _ _ rfl p rfl ?_)
      refine⟨⟨j+1,oM,by go_num,?_,hK⟩,by simp[intOf];omega⟩;rw[C.out,q.out,L.out,List.length_eq_zero_iff.1 L.out];simpa [qA9] using p
     .obtain⟨x,n,r⟩:∃ x n,Z=.slice (some x) d[j].length n:=by
       rcases t with⟨m,b,c,f,h2⟩|⟨g,K,cap,cur,D,f,_⟩
       .rw[m]
        cases b with
        | none=>rw[h2 rfl] at f;exact absurd f z
        | some a=>exact⟨a,c,f⟩
       .exact⟨_,cap,f⟩
      have S:∀ k u,(qA9 d[j])[k]?=some u->wr.cell? (x.add k)=some u:=by
       intro k u I;rcases t with⟨m,_⟩|⟨g,K,cap,cur,D,f,_,_,h4,h5⟩
       .rw[List.length_eq_zero_iff.1 m] at I;simp[qA9] at I
       .rw[r] at f;simp only[vJ,Option.some.injEq] at f;rw[f.1,qH0,ξ h4];exact h5 k u I
      subst r;have HC:=zh S;clear t z J S
      go_wp2_with (at_builtin;refine wpList_append_own _ rfl _ _ 156 rfl w.heap.size 87 Y _ 4 40 underlying156 T aj ak al rfl dC _ _ _ rfl p x d[j].length n (qA9 d[j]) rfl V HC (jS4 _) (by unfold maxLen;omega) oM ai ?_;intro v2 w2 ah af _)
      refine⟨⟨j+1,oM,by go_num,?_,hK.grown af (λk hk=>Or.inr (qI4 p k hk))⟩,by simp[intOf];omega⟩;rw[C.out,q.out];exact ah
    .have F:¬(j:Int)<(d.length:Int):=oM
     have e:j=d.length:=oM
     go_wp2;go_ret;subst e;rw[ae.out] at p;exact⟨_,rfl,by rw[aa.out];exact p,hK⟩
theorem zS7(v vb)(ps bs)(i j:Nat)(w)(p:Slc w 185 2 v ps.length (qA4 ps))(z:Slc w 185 2 vb bs.length (qA4 bs))(ah:i<=j)(hj:j<=ps.length)(d:1<=ps.length)(hn:ps.length<=10000)(ak:bs.length<=10000):
  Calls prog 162 #[v,.int .i64 i,.int .i64 j,vb] w λe N=>∃ v',e=.returned v'/\Slc N 185 2 v' (ps.take i++bs++ps.drop j).length (qA4 (ps.take i++bs++ps.drop j))/\Kp [] w N:=by
 obtain⟨l,f,a,cur,U,rfl,af,B,_⟩:=p.pair d;have I:∀ k u,(qA4 ps)[k]?=some u->cur[f+k]?=some u:=by
  rcases p.val with⟨E,_⟩|⟨g',al,ac,ad,ae,d,_,_,F,V⟩
  .omega
  .simp only[vJ,Option.some.injEq,Addr.mk.injEq] at d;obtain⟨⟨rfl,rfl,_⟩,_,_⟩:=d;rw[B] at F;cases F;exact V
 obtain⟨n,o,ab⟩:∃ n o,vb=.slice n bs.length o:=by
  rcases z.val with⟨E,b,c,d,_⟩|⟨g,f,cap,cur,U,d,_⟩
  .rw[E];exact⟨b,c,d⟩
  .exact⟨_,cap,d⟩
 subst ab;obtain⟨r,aa,H,L⟩:∃ r,(∃ q m c,r=.slice (some q) m c)/\Slc w 185 2 r (ps.drop j).length (qA4 (ps.drop j))/\((j=a/\r=.slice (some ⟨l,f,none⟩) 0 0)\/(j≠a/\r=.slice (some ⟨l,f+j*2,none⟩) (ps.length-j) (a-j))):=by
  by_cases A:j=a
  .refine⟨_,⟨_,_,_,rfl⟩,⟨?_,.inl ⟨?_,_,_,rfl,sM⟩⟩,.inl ⟨A,rfl⟩⟩
   .rw[qR1]
   .simp;omega
  .refine⟨_,⟨_,_,_,rfl⟩,?_,.inr ⟨A,rfl⟩⟩;have:=qS4 (T:=185) (sz:=2) B I p.len j (ps.length-j) (a-j) oM oM;rw[<-xN3,tL (by rw[qR1];simp)] at this;simpa using this
 have G:Slc w 185 2 (.slice (some ⟨l,f,none⟩) i a) (ps.take i).length (qA4 (ps.take i)):=by
  have:=qS4 (T:=185) (sz:=2) B I p.len 0 i a oM oM;simp only[Nat.zero_mul,Nat.add_zero,dZ] at this;rw[<-xN6] at this;simpa [Nat.min_eq_left (show i<=ps.length by omega)] using this
 obtain⟨D,C,t,rfl⟩:=aa;have Q:=zh G;have R:=zh H;have O:=zh z;have ag:(i:Int)<=(a:Int):=oM
 have ai:(j:Int)<=(ps.length:Int):=oM
 have A:(j:Int)<=(a:Int):=oM
 have S:=zh L;clear G H z p L;go_enter func162,ntmps162;go_wp2_with fail;refine wp_region_any kR ?_;change wpAny _ _ _ _ _ _ _ (World.drew _);refine zu 0 (.slice (some ⟨l,f,none⟩) ps.length a) ?_;refine zu 1 (ϊ i) ?_;refine zu 2 (.slice (some ⟨l,f,none⟩) i a) ?_;refine zu 3 (.slice n bs.length o) ?_;refine zu 4 (.slice (some ⟨l,f,none⟩) ps.length a) ?_;refine zu 5 (ϊ j) ?_;refine wpAny_take (i:=6) (v:=.slice (some D) C t) rfl kR kR kR (λ_ _ _ h=>h) (Or.inl ⟨by rfl,λw=>by
  rcases S with⟨x,y⟩|⟨x,y⟩
  .have e3:ps.length=a:=oM
   rw[y];subst x;go_simp
  .rw[y];have aj:¬a=j:=λe=>x e.symm;go_simp⟩) ?_
 try simp only[zZ]
 refine zQ 7 λK hK=>?_;go_simp;obtain⟨w2,M,W,s⟩:=alF w (.cells #[.slice (some ⟨l,f,none⟩) i a,.slice n bs.length o,.slice (some D) C t] 186);rw[<-M];clear M;refine hK _ _ ?_
 try simp only[zZ]
 refine zQ 8 λK hK=>?_;go_simp;refine (xA7 w.heap.size [.slice (some ⟨l,f,none⟩) i a,.slice n bs.length o,.slice (some D) C t] [ps.take i,bs,ps.drop j] w2 W ⟨rfl,λk d h2=>?_⟩ (ps.take i++bs++ps.drop j) sM sO sM).mono ?_
 .have hk:k=0\/k=1\/k=2:=by simp at d;omega
  rcases hk with rfl|rfl|rfl
  .exact Q.keep0 s
  .exact O.keep0 s
  .exact R.keep0 s
 rintro e w3 ⟨v3,rfl,J,X⟩;have Y:=s.tr X;refine hK _ _ ?_
 try simp only[zZ]
 refine zQ 9 λK hK=>?_;go_simp;refine hK _ _ ?_;refine wpAny_done kR ?_ _;have P:=zh (qJ3 J);clear J;go_wp2;go_ret;have Z:=P.out;exact⟨v3,rfl,by simpa using Z,Y⟩
theorem zI6(v vb)(ps bs)(i j:Nat)(w)(p:Slc w 87 4 v ps.length (qA9 ps))(z:Slc w 87 4 vb bs.length (qA9 bs))(ah:i<=j)(hj:j<=ps.length)(d:1<=ps.length)(hn:ps.length<=10000)(ak:bs.length<=10000):
  Calls prog 163 #[v,.int .i64 i,.int .i64 j,vb] w λe N=>∃ v',e=.returned v'/\Slc N 87 4 v' (ps.take i++bs++ps.drop j).length (qA9 (ps.take i++bs++ps.drop j))/\Kp [] w N:=by
 obtain⟨l,f,a,cur,U,rfl,af,B,_⟩:=p.link d;have I:∀ k u,(qA9 ps)[k]?=some u->cur[f+k]?=some u:=by
  rcases p.val with⟨E,_⟩|⟨g',al,ac,ad,ae,d,_,_,F,V⟩
  .omega
  .simp only[vJ,Option.some.injEq,Addr.mk.injEq] at d;obtain⟨⟨rfl,rfl,_⟩,_,_⟩:=d;rw[B] at F;cases F;exact V
 obtain⟨n,o,ab⟩:∃ n o,vb=.slice n bs.length o:=by
  rcases z.val with⟨E,b,c,d,_⟩|⟨g,f,cap,cur,U,d,_⟩
  .rw[E];exact⟨b,c,d⟩
  .exact⟨_,cap,d⟩
 subst ab;obtain⟨r,aa,H,L⟩:∃ r,(∃ q m c,r=.slice (some q) m c)/\Slc w 87 4 r (ps.drop j).length (qA9 (ps.drop j))/\((j=a/\r=.slice (some ⟨l,f,none⟩) 0 0)\/(j≠a/\r=.slice (some ⟨l,f+j*4,none⟩) (ps.length-j) (a-j))):=by
  by_cases A:j=a
  .refine⟨_,⟨_,_,_,rfl⟩,⟨?_,.inl ⟨?_,_,_,rfl,sM⟩⟩,.inl ⟨A,rfl⟩⟩
   .rw[zP8]
   .simp;omega
  .refine⟨_,⟨_,_,_,rfl⟩,?_,.inr ⟨A,rfl⟩⟩;have:=qS4 (T:=87) (sz:=4) B I p.len j (ps.length-j) (a-j) oM oM;rw[<-xI1,tL (by rw[zP8];simp)] at this;simpa using this
 have G:Slc w 87 4 (.slice (some ⟨l,f,none⟩) i a) (ps.take i).length (qA9 (ps.take i)):=by
  have:=qS4 (T:=87) (sz:=4) B I p.len 0 i a oM oM;simp only[Nat.zero_mul,Nat.add_zero,dZ] at this;rw[<-xI3] at this;simpa [Nat.min_eq_left (show i<=ps.length by omega)] using this
 obtain⟨D,C,t,rfl⟩:=aa;have Q:=zh G;have R:=zh H;have O:=zh z;have ag:(i:Int)<=(a:Int):=oM
 have ai:(j:Int)<=(ps.length:Int):=oM
 have A:(j:Int)<=(a:Int):=oM
 have S:=zh L;clear G H z p L;go_enter func163,ntmps163;go_wp2_with fail;refine wp_region_any kR ?_;change wpAny _ _ _ _ _ _ _ (World.drew _);refine zu 0 (.slice (some ⟨l,f,none⟩) ps.length a) ?_;refine zu 1 (ϊ i) ?_;refine zu 2 (.slice (some ⟨l,f,none⟩) i a) ?_;refine zu 3 (.slice n bs.length o) ?_;refine zu 4 (.slice (some ⟨l,f,none⟩) ps.length a) ?_;refine zu 5 (ϊ j) ?_;refine wpAny_take (i:=6) (v:=.slice (some D) C t) rfl kR kR kR (λ_ _ _ h=>h) (Or.inl ⟨by rfl,λw=>by
  rcases S with⟨x,y⟩|⟨x,y⟩
  .have e3:ps.length=a:=oM
   rw[y];subst x;go_simp
  .rw[y];have aj:¬a=j:=λe=>x e.symm;go_simp⟩) ?_
 try simp only[zZ]
 refine zQ 7 λK hK=>?_;go_simp;obtain⟨w2,M,W,s⟩:=alF w (.cells #[.slice (some ⟨l,f,none⟩) i a,.slice n bs.length o,.slice (some D) C t] 156);rw[<-M];clear M;refine hK _ _ ?_
 try simp only[zZ]
 refine zQ 8 λK hK=>?_;go_simp;refine (xA6 w.heap.size [.slice (some ⟨l,f,none⟩) i a,.slice n bs.length o,.slice (some D) C t] [ps.take i,bs,ps.drop j] w2 W ⟨rfl,λk d h2=>?_⟩ (ps.take i++bs++ps.drop j) sM sO sM).mono ?_
 .have hk:k=0\/k=1\/k=2:=by simp at d;omega
  rcases hk with rfl|rfl|rfl
  .exact Q.keep0 s
  .exact O.keep0 s
  .exact R.keep0 s
 rintro e w3 ⟨v3,rfl,J,X⟩;have Y:=s.tr X;refine hK _ _ ?_
 try simp only[zZ]
 refine zQ 9 λK hK=>?_;go_simp;refine hK _ _ ?_;refine wpAny_done kR ?_ _;have P:=zh (qJ3 J);clear J;go_wp2;go_ret;have Z:=P.out;exact⟨v3,rfl,by simpa using Z,Y⟩
def τ(V:Nat)(h:HL):Value:=.agg #[.pointer (some ⟨V,0,none⟩),.string h.key,.int .i64 h.b,.int .u64 h.s,.pointer h.ptr]
def qC1(h:HL):Value:=.agg #[.string h.key,.int .i64 h.b,.int .u64 h.s,.pointer h.ptr]
def zH2:List TypeId:=[87,89,42]
structure Env where
 O:qE8
 V:Nat
 S:List Nat
 Dev:World→Prop
 keep:∀ w w' L,Dev w→Kp L w w'→(∀ k∈L,∃ c t fr,w.heap[k]?=some (.cells c t fr)∧t∈zH2)→Dev w'
 apt:∀ w,Dev w→Apt w S qF1
 low:∀ w,Dev w→∀ k∈S,k<w.heap.size
 pos:∀ (n b:Nat) (s:Int) (t:Tn n),O n b s t→1≤b
 lvl:∀ (n b:Nat) (s:Int) (t:Tn n),O n b s t→n<6
 read:∀ (n:Nat) (h r:HL) (l:Lnk (Tn n)) (a:Int) (w:World),Dev w→RL O n w h l→h.p=none→(n:Int)<a→Calls prog 150 #[τ V r,qC1 h,.int .i64 a] w fun e w'=>∃ q,e=.returned (.pointer (some ⟨q,0,none⟩))∧RN O n w' q l.sub∧Dev w'∧Kp S w w'
structure Env.To(E:Env)(w w':World):Prop where
 dev:E.Dev w'
 kp:Kp E.S w w'
theorem Env.To.of0{E:Env}{w a:World}(h:E.Dev w)(hK:Kp [] w a):E.To w a:=⟨E.keep _ _ [] h hK sM,hK.mono sM⟩
theorem Env.To.trans{E:Env}{a b c:World}(h:E.To a b)(k:E.To b c):E.To a c:=⟨k.dev,h.kp.trans k.kp (λi d _=>d)⟩
theorem Env.To.tail{E:Env}{a b c:World}(h:E.To a b)(k:Kp [] b c):E.To a c:=h.trans (Env.To.of0 h.dev k)
theorem Env.RN{E:Env}{n:Nat}{w a:World}{q:Nat}{t:Tn n}(h:RN E.O n w q t)(c:E.Dev w)(b:E.To w a):YtdohpenfkdckiaaGreatDoor.RN E.O n a q t:=RN.keep b.kp (E.apt w c) n q t h
theorem Env.RL{E:Env}{n:Nat}{w a:World}{h:HL}{l:Lnk (Tn n)}(d:RL E.O n w h l)(c:E.Dev w)(b:E.To w a):YtdohpenfkdckiaaGreatDoor.RL E.O n a h l:=RL.keep d b.kp (E.apt w c)
theorem Env.RLs{E:Env}{n:Nat}{w a:World}{v:Value}{ls:List (Lnk (Tn n))}(d:RLs E.O n w v ls)(c:E.Dev w)(b:E.To w a):YtdohpenfkdckiaaGreatDoor.RLs E.O n a v ls:=RLs.keep d b.kp (E.apt w c)
theorem Env.To.new{E:Env}{a w b:World}{k:Nat}{o:Obj}(c:E.To w b)(d:E.Dev a)(f:a.heap.size<=k)(h:w.heap[k]?=some o):b.heap[k]?=some o:=
 c.kp.heap h (λe=>by have:=E.low a d k e;omega)
theorem xL7(E:Env)(n:Nat)(h r:HL)(l:Lnk (Tn n))(a:Int)(w:World)(g:E.Dev w)(i:RL E.O n w h l)(o:h.p=none->(n:Int)<a):
  Calls prog 150 #[τ E.V r,qC1 h,.int .i64 a] w λe j=>∃ q,e=.returned (.pointer (some ⟨q,0,none⟩))/\RN E.O n j q l.sub/\E.To w j:=by
 cases hp:h.p with
 | none=>
  refine (E.read n h r l a w g i hp (o hp)).mono ?_;rintro e j ⟨q,t,b,c,f⟩;exact⟨q,t,b,c,f⟩
 | some q=>
  have m:RN E.O n w q l.sub:=by
   have b:=i.2
   cases hl:l.ref with
   | none=>
    rw[hl] at b;obtain⟨_,_,q',c,f⟩:=b;rw[hp] at c;cases c;exact f
   | some x=>
    rw[hl] at b;rw[hp] at b;cases b.2.2.1
  have p:h.ptr=some ⟨q,0,none⟩:=by simp[HL.ptr,hp]
  have k:qC1 h=.agg #[.string h.key,ϊ h.b,.int .u64 h.s,ϖ q]:=by rw[qC1,p]
  rw[k,τ];have s:=zh m;have d:=zh g;clear m i g k p o;go_enter func150,ntmps150;go_wp2;go_ret;exact⟨q,rfl,Env.RN s d (Env.To.of0 d ((kF.alloc _).alloc _)),Env.To.of0 d ((kF.alloc _).alloc _)⟩
theorem qK6(E:Env)(n:Nat)(h r:HL)(l:Lnk (Tn n))(a:Int)(w:World)(d:E.Dev w)(f:RL E.O n w h l)(c:(n:Int)<a):
  Calls prog 150 #[τ E.V r,qC1 h,.int .i64 a] w λe b=>∃ q,e=.returned (.pointer (some ⟨q,0,none⟩))/\RN E.O n b q l.sub/\E.To w b:=
 xL7 E n h r l a w d f λ_=>c
theorem Env.low6{E:Env}{n:Nat}{w:World}{h:HL}{l:Lnk (Tn n)}(d:YtdohpenfkdckiaaGreatDoor.RL E.O n w h l)(c:h.p=none):(n:Int)<6:=by
 have a:=d.2
 cases hl:l.ref with
 | none=>
  rw[hl] at a;obtain⟨_,_,q,b,e⟩:=a;rw[c] at b;cases b
 | some x=>
  rw[hl] at a;have:=E.lvl _ _ _ _ a.2.2.2;omega
theorem zC0(E:Env)(n:Nat)(h:HL)(l:Lnk (Tn n))(w:World)(c:E.Dev w)(b:RL E.O n w h l):
  Calls prog 94 #[τ E.V h] w λe a=>∃ q,e=.returned (.pointer (some ⟨q,0,none⟩))/\RN E.O n a q l.sub/\E.To w a:=by
 have d:=zh c;have o:=zh b;have f:Hid (∀ W:World,E.To w W->Ω 150 #[.agg (ϟ E.V h),.agg (ϡ h),ϊ 6] W λe a=>∃ q,e=ϱ (ϖ q)/\RN E.O n a q l.sub/\E.To W a):=
  λW i=>xL7 E n h h l 6 W i.dev (Env.RL b c i) (Env.low6 b)
 clear c b;rw[τ];go_enter func94,ntmps94;go_wp2_with fail;refine (f _ (Env.To.of0 d (kF.alloc _))).mono ?_;rintro e p ⟨q,rfl,g,j⟩;have k:=zh g;have m:=zh ((Env.To.of0 d (kF.alloc _)).trans j);clear g j f;go_wp2;go_ret;exact⟨q,rfl,k,m⟩
theorem RLof.new{O:qE8}{n:Nat}{w}{h}{l}(d:RL O n w h l):(l.ref=none/\∃ q,h.p=some q/\RN O n w q l.sub)\/(l.ref.isSome=true/\h.p=none):=by
 have a:=d.2
 cases hl:l.ref with
 | none=>
  rw[hl] at a;obtain⟨_,_,q,b,c⟩:=a;exact .inl ⟨rfl,q,b,c⟩
 | some x=>
  rw[hl] at a;exact .inr ⟨rfl,a.2.2.1⟩
def qX9:(n:Nat)→Tn n→Prop
 | 0,t=>(prs t).length≤10000
 | n+1,t=>(η t).length≤10000∧∀ l∈η t,qX9 n l.sub
theorem qK0{α:Type}(f:α->Nat):∀ (l:List α),(∀ x∈l,1<=f x)->l.length<=meas f l
 | [],_=>by simp[meas]
 | x::l,h=>by
  have b:=h x sM;have c:=qK0 f l λy a=>h y (by simp[a]);rw[qC2,lC];omega
theorem qK8:∀ (n:Nat) (lo) (t),Good n lo t->qX9 n t
 | 0,lo,ps,h=>by
  have a:meas θ (prs ps)<=126:=h.fits;have b:=qK0 θ (prs ps) λx _=>by unfold θ;omega
  show (prs ps).length<=10000;omega
 | n+1,lo,ls,h=>by
  have a:meas qA2 (η ls)<=126:=h.fits;have b:=qK0 qA2 (η ls) λx _=>by unfold qA2;omega
  exact⟨oM,λl c=>qK8 n l.key l.sub (h.all l c).1⟩
theorem jE5(O:qE8):∀ (n:Nat) (h) (l) (w),RL O n w h l->qX9 n l.sub->qB1 n l.sub<=1000000->
  Calls prog 120 #[qC1 h] w λe w'=>e=.returned (.int .i64 (news n l))/\Kp [] w w':=by
 intro n
 induction n with
 | zero=>
  intro h l w o P v;rcases o.new with⟨a,q,d,vp,r,t⟩|⟨a,d⟩
  .have k:h.ptr=some ⟨q,0,none⟩:=by simp[HL.ptr,d]
   rw[qC1,k];have ag:=ζ r;have E:=ξ r 2;simp only[χ,zG,zH,zI] at E;clear o t;go_enter func120,ntmps120;go_wp2_with fail;refine wp_loop_rounds 1 ?_;rw[rounds_succ];go_wp2;go_ret;exact⟨qK7 (by simp[news,a]),kF.alloc _⟩
  .have k:h.ptr=none:=by simp[HL.ptr,d]
   rw[qC1,k];clear o;go_enter func120,ntmps120;go_wp2;go_ret;exact⟨qK7 (by simp[news,a]),kF.alloc _⟩
 | succ n ih=>
  intro h l w o P v;rcases o.new with⟨a,q,d,vl,r,p,t,y⟩|⟨a,d⟩
  .have k:h.ptr=some ⟨q,0,none⟩:=by simp[HL.ptr,d]
   rw[qC1,k];obtain⟨ai,D⟩:=P;have B:news (n+1) l=1+meas (λm:Lnk (Tn n)=>news n m) (η l.sub):=by simp[news,a]
   have L:qB1 (n+1) l.sub=1+meas (λm:Lnk (Tn n)=>qB1 n m.sub) (η l.sub):=rfl;have C:=zQ5 (f:=λm:Lnk (Tn n)=>news n m) (g:=λm=>qB1 n m.sub) (η l.sub) λm _=>zQ9 n m;rw[L] at v;have ac:=y.1;obtain⟨ls,J⟩:=eX (η l.sub);rw[<-J] at y ai D B C v ac;clear J L;have ag:=ζ r;obtain⟨G,H,A⟩:∃ G H,vl=.slice G p.length H:=by
    rcases t.val with⟨h0,b,c,a,_⟩|⟨g,x,cap,cur,fr,a,_⟩
    .rw[h0];exact⟨b,c,a⟩
    .exact⟨_,cap,a⟩
   subst A;have E:=ξ r 2;simp only[χ,zG,zH,zI] at E;have X:=zh t;have Q:=zh y;have S:=zh B;have Y:=zh D;have V:=zh v;have U:=zh C;have R:=ih;clear o t y B D a d ih v C;go_enter func120,ntmps120;go_wp2
   go_loopw [3,15] (λs i wr=>∃ (j:Nat),j<=p.length/\i=.int .i64 j/\s=.int .i64 (1+meas (λm:Lnk (Tn n)=>news n m) (ls.take j):Nat)/\Kp [] w wr) (λ_ i _=>p.length-(intOf i).toNat)
   case atStart=>exact⟨0,zL _,rfl,rfl,kF.alloc _⟩
   case round=>
    obtain⟨j,hj,rfl,rfl,hK⟩:=hrel;have am:=qN7 (λm:Lnk (Tn n)=>news n m) ls j;have an:=U.out;have ao:=V.out;by_cases K:j<p.length
    .have ad:(j:Int)<(p.length:Int):=oM
     obtain⟨gb,x,aj,cur,fr,A,ak,ah,I⟩:=X.out.link oM;obtain⟨c0,c1,c2,c3⟩:=I j K;simp only[vJ,true_and] at A;obtain⟨rfl,rfl⟩:=A;have u:=hK.hp ah;have Z:=ξ u (x+j*4);rw[c0] at Z;have a1:=ξ u (x+j*4+1);rw[c1] at a1;have a2:=ξ u (x+j*4+2);rw[c2] at a2;have a3:=ξ u (x+j*4+3);rw[c3] at a3;have al:=ζ u;have z:j<ls.length:=oM
     have N:=Q.out.2 j K z;have F:Hid (meas (λm:Lnk (Tn n)=>news n m) (ls.take (j+1))=meas (λm:Lnk (Tn n)=>news n m) (ls.take j)+news n ls[j]):=qL3 _ ls j z;have ae:=qN7 (λm:Lnk (Tn n)=>news n m) ls (j+1);rw[F.out] at ae;have af:qB1 n ls[j].sub<=meas (λm:Lnk (Tn n)=>qB1 n m.sub) ls:=by
      have a:=qL3 (λm:Lnk (Tn n)=>qB1 n m.sub) ls j z;have d:=qN7 (λm:Lnk (Tn n)=>qB1 n m.sub) ls (j+1);omega
     have W:=zh N;have T:Hid (qB1 n ls[j].sub<=1000000):=by show _<=_;omega
     clear I N af;generalize meas (λm:Lnk (Tn n)=>news n m) (ls.take j)=M at *;go_wp2_with fail;refine (R p[j] ls[j] _ (RL.keep W (hK.alloc _) (Apt.nil _ _)) (Y _ (gM z)) T).mono ?_;rintro e w1 ⟨rfl,aa⟩;have ab:=(hK.alloc _).tr aa;go_wp2;refine⟨⟨j+1,oM,by go_num,by rw[F.out];go_num,ab⟩,by simp[intOf];omega⟩
    .have ad:¬(j:Int)<(p.length:Int):=oM
     go_wp2;go_ret;refine⟨qK7 ?_,hK⟩;rw[S.out,tL oM];omega
  .have k:h.ptr=none:=by simp[HL.ptr,d]
   rw[qC1,k];clear o;go_enter func120,ntmps120;go_wp2;go_ret;exact⟨qK7 (by simp[news,a]),kF.alloc _⟩
theorem RN.obj{O:qE8}{n:Nat}{w}{q:Nat}{t}(h:RN O n w q t):∃ v l x r k s,w.heap[q]?=some (χ (n:Int) (.slice v l x) (.slice r k s))/\l+k=cnt n t:=by
 cases n with
 | zero=>
  obtain⟨z,a,i⟩:=h;obtain⟨d,e,j⟩:∃ d e,z=.slice d (prs t).length e:=by
   rcases i.val with⟨f,b,c,a,_⟩|⟨g,u,cap,cur,m,a,_⟩
   .rw[f];exact⟨b,c,a⟩
   .exact⟨_,cap,a⟩
  rw[j] at a;exact⟨_,_,_,_,_,_,a,rfl⟩
 | succ n=>
  obtain⟨y,a,p,i,o⟩:=h;obtain⟨d,e,j⟩:∃ d e,y=.slice d p.length e:=by
   rcases i.val with⟨f,b,c,a,_⟩|⟨g,u,cap,cur,m,a,_⟩
   .rw[f];exact⟨b,c,a⟩
   .exact⟨_,cap,a⟩
  rw[j] at a;refine⟨_,_,_,_,_,_,a,?_⟩;rw[Nat.zero_add,o.1];rfl
theorem qU2(O:qE8)(n:Nat)(q:Nat)(t)(w)(h:RN O n w q t)(d:cnt n t<=1000000):
  Calls prog 161 #[.pointer (some ⟨q,0,none⟩)] w λe g=>e=.returned (.int .i64 (cnt n t))/\Kp [] w g:=by
 obtain⟨m,p,o,j,l,k,a,b⟩:=h.obj;have c:=zh b;rw[<-b] at d;have i:=ζ a;have f:=ξ a;simp only[χ,zG,zH,zI] at f;clear h a b;go_enter func161,ntmps161;go_wp2_with fail
 go_quiet (fail)
 go_wp2;go_ret;exact⟨qK7 (by rw[<-c.out];omega),kF.drewN _⟩
theorem kN1(O:qE8)(V n:Nat)(h)(l)(w)(d:RL O n w h l)(f:qX9 n l.sub)(c:qB1 n l.sub<=1000000):
  Calls prog 76 #[τ V h] w λe g=>e=.returned (.int .i64 (news n l))/\Kp [] w g:=by
 rw[τ];go_enter func76,ntmps76;go_wp2_with fail;refine (jE5 O n h l _ (RL.keep d (kF.alloc _) (Apt.nil _ _)) f c).mono ?_;rintro e i ⟨rfl,a⟩;have b:Kp [] w i:=(kF.alloc _).tr a;go_wp2;go_ret;exact⟨rfl,b⟩
def RR(E:Env)(w:World)(h:HL):Root→Prop
 | .none=>h=⟨⟨#[]⟩,0,0,none⟩
 | .at n l=>RL E.O n w h l
theorem RR.to{E}{w w'}{h}{r}(a:RR E w h r)(c:E.Dev w)(b:E.To w w'):RR E w' h r:=by
 cases r with
 | none=>exact a
 | «at» n l=>exact Env.RL a c b
theorem qZ1(d:Nat)(W):Sem.run prog (Op.equalIn (d+1) 85 (.pointer none) (.pointer none)) W=.ok true W:=by
 simp[Op.equalIn,run_underlying underlying85]
theorem xC4(d:Nat)(a)(W):Sem.run prog (Op.equalIn (d+1) 85 (.pointer (some a)) (.pointer none)) W=.ok false W:=by
 simp[Op.equalIn,run_underlying underlying85]
theorem zE6(V:Nat)(w):
  Calls prog 92 #[τ V ⟨⟨#[]⟩,0,0,none⟩] w λe a=>e=.returned (.bool true)/\Kp [] w a:=by
 have b:∀ W:World,Sem.run prog (Op.equalIn 9999 85 (.pointer none) (.pointer none)) W=.ok true W:=λW=>qZ1 9998 W;rw[τ,show HL.ptr ⟨⟨#[]⟩,0,0,none⟩=none from rfl];go_enter func92,ntmps92;go_wp2;go_ret;exact⟨rfl,kF.alloc _⟩
theorem jG0(V q:Nat)(w):
  Calls prog 92 #[.agg #[.pointer (some ⟨V,0,none⟩),.string ⟨#[]⟩,.int .i64 0,.int .u64 0,.pointer (some ⟨q,0,none⟩)]] w λe a=>e=.returned (.bool false)/\Kp [] w a:=by
 have b:∀ W:World,Sem.run prog (Op.equalIn 9999 85 (ϖ q) (.pointer none)) W=.ok false W:=λW=>xC4 9998 _ W;go_enter func92,ntmps92;go_wp2;go_ret;exact⟨rfl,kF.alloc _⟩
theorem xB7(V:Nat)(b s:Int)(c:1<=b)(w):
  Calls prog 92 #[.agg #[.pointer (some ⟨V,0,none⟩),.string ⟨#[]⟩,.int .i64 b,.int .u64 s,.pointer none]] w λe a=>e=.returned (.bool false)/\Kp [] w a:=by
 have f:∀ W:World,Sem.run prog (Op.equalIn 9999 85 (.pointer none) (.pointer none)) W=.ok true W:=λW=>qZ1 9998 W;have d:¬b=0:=oM
 go_enter func92,ntmps92;go_wp2;go_ret;exact⟨rfl,kF.alloc _⟩
theorem qZ0(E:Env)(n:Nat)(h:HL)(l:Lnk (Tn n))(w:World)(g:RL E.O n w h l)(j:l.key=⟨#[]⟩):
  Calls prog 92 #[τ E.V h] w λe k=>e=.returned (.bool false)/\Kp [] w k:=by
 have f:h.key=⟨#[]⟩:=by rw[g.1,j]
 have a:=g.2
 cases hx:l.ref with
 | none=>
  rw[hx] at a;obtain⟨b,d,q,c,_⟩:=a;have e:τ E.V h=.agg #[ϖ E.V,.string ⟨#[]⟩,ϊ 0,.int .u64 0,ϖ q]:=by rw[τ,f,b,d,HL.ptr,c];rfl
  rw[e];exact jG0 E.V q w
 | some x=>
  rw[hx] at a;obtain⟨b,d,c,i⟩:=a;have m:=E.pos n _ _ _ i;have e:τ E.V h=.agg #[ϖ E.V,.string ⟨#[]⟩,ϊ h.b,.int .u64 h.s,.pointer none]:=by rw[τ,f,HL.ptr,c];rfl
  rw[e];exact xB7 E.V h.b h.s (by rw[b];omega) w
def qF7(l:List KV)(k:ByteArray):Option KV:=l.find? fun q=>decide (q.k=k)
def qN0(l:List KV)(k:ByteArray):ByteArray:=((qF7 l k).map KV.v).getD ⟨#[]⟩
theorem jM4{k}{a b c}(g:∀ q∈a,q.k≠k)(h:∀ q∈c,q.k≠k):qF7 (a++b++c) k=qF7 b k:=by
 unfold qF7;rw[List.find?_append,List.find?_append];have e:a.find? (λq=>decide (q.k=k))=none:=by rw[List.find?_eq_none];intro q d;simp[g q d]
 have f:c.find? (λq=>decide (q.k=k))=none:=by rw[List.find?_eq_none];intro q d;simp[h q d]
 rw[e,f];simp
theorem jM5{l}(b:Sorted l)(k):qF7 l k=if qG1 l (qB9 l k) k then l[qB9 l k]? else none:=by
 by_cases h:qG1 l (qB9 l k) k=true
 .rw[if_pos h];unfold qG1 at h;split at h
  .next q a=>
   have f:q.k=k:=by simpa using h
   have c:=(gS a).1;rw[a];unfold qF7;rw[<-tD (qB9 l k) l,List.find?_append,List.find?_eq_none.2 (λx g=>?_),dG c,(gS a).2]
   .simp[f]
   .have:kl x.k k=true:=zJ6 x (by rw[<-xR6 b k];exact g);simp[qI8 this]
  .cases h
 .rw[if_neg h];have d:¬∃ q∈l,q.k=k:=λa=>h ((zN8 b k).2 a);unfold qF7;rw[List.find?_eq_none];intro q a;simp only[decide_eq_true_eq];exact λe=>d ⟨q,a,e⟩
theorem Good.row{n:Nat}{lo}{t}(h:Good (n+1) lo t):Row0 n lo (η t):=⟨h.head,λm a=>⟨(h.all m a).1,(h.all m a).2.2⟩,h.pair⟩
theorem zI7{O:qE8}{n:Nat}{w}{hs}{ls}(a:Both (RL O n w) hs ls)(e:ls.Pairwise (qR2 n)):Rise hs:=by
 unfold Rise;rw[List.pairwise_iff_getElem];intro i j b d c;have f:=a.1;have:=pG e i j oM oM c;rw[(a.2 i b oM).1,(a.2 j d oM).1];exact this.1
theorem zU7{O:qE8}{n:Nat}{w}{hs}{ls}(c:Both (RL O n w) hs ls)(k):hs.findIdx (λl=>kl k l.key)=ls.findIdx (λl=>kl k l.key):=by
 have e:=c.map_eq λx y d=>d.1;have a:∀ (l:List HL),l.findIdx (λl=>kl k l.key)=(l.map HL.key).findIdx (λx=>kl k x):=λl=>by rw[List.findIdx_map];rfl
 have b:∀ (l:List (Lnk (Tn n))),l.findIdx (λl=>kl k l.key)=(l.map Lnk.key).findIdx (λx=>kl k x):=λl=>by rw[List.findIdx_map];rfl
 rw[a,b,e]
def zH3(w:World)(s:Value):Nat:=match s with
 | .pointer (some a)=>match w.cell? ⟨a.block,0,none⟩ with
  | some (.int _ i)=>i.toNat
  | _=>0
 | _=>0
theorem zQ2{O:qE8}{n:Nat}{w}{q:Nat}{t}(h:RN O n w q t):zH3 w (.pointer (some ⟨q,0,none⟩))=n:=by
 obtain⟨f,i,g,c,e,d,a,b⟩:=h.obj;have:=ξ a 0;simp only[χ,zG,zH] at this;simp[zH3,this]
theorem xT3{n:Nat}{lo k}{t}(d:Good (n+1) lo t)(u:kl k lo=false)(s:1<=cnt (n+1) t):
  ∃ (h:qA8 (η t) k<(η t).length),Good n (η t)[qA8 (η t) k].key (η t)[qA8 (η t) k].sub/\3<=cnt n (η t)[qA8 (η t) k].sub/\kl k (η t)[qA8 (η t) k].key=false/\qF7 (cont (n+1) t) k=qF7 (cont n (η t)[qA8 (η t) k].sub) k:=by
 have x:η t≠[]:=λe=>by
  have f:1<=(η t).length:=s;rw[e] at f;simp at f
 obtain⟨A,m,B,e,g,v,y,z⟩:=zC3 d.row x u;have o:qA8 (η t) k<(η t).length:=by rw[<-g,e];simp
 have w:(η t)[qA8 (η t) k]=m:=by
  have:(η t)[qA8 (η t) k]?=some m:=by rw[<-g,e];simp
  rw[gQ o] at this;exact Option.some.inj this
 have i:=d.all m (by show m∈η t;rw[e];simp);refine⟨o,?_⟩;rw[w];refine⟨i.1,i.2.1,v,?_⟩;show qF7 ((η t).flatMap λl=>cont n l.sub) k=_;rw[e,fA,fC,<-aA];refine jM4 (λq c=>?_) (λq c=>?_)
 .obtain⟨a,r,c⟩:=mF c;exact qI8 (y a r q c)
 .obtain⟨b,j,c⟩:=mF c;have p:=d.all b (by show b∈η t;rw[e];simp[j]);exact (qI8 (qN3 (z b j) ((qK5 n b.key b.sub p.1).2 q c).2)).symm
def zV5(E:Env)(w0 w:World)(k:ByteArray)(all:List KV)(s:Value):Prop:=
 ∃ (m:Nat) (t:Tn m) (lo:ByteArray) (q:Nat),s=.pointer (some ⟨q,0,none⟩)∧RN E.O m w q t∧Good m lo t∧kl k lo=false∧1≤cnt m t∧qF7 all k=qF7 (cont m t) k∧m≤1000000
theorem qZ5(E)(r)(h)(k)(w)(X:E.Dev w)(x:RR E w h r)(hg:RGood r)(a8:r.cont.length<=1000000):
  Calls prog 102 #[τ E.V h,.string k] w λe w'=>e=.returned (.tuple #[.string (qN0 r.cont k),.bool (qF7 r.cont k).isSome])/\E.To w w':=by
 cases r with
 | none=>
  have x:h=⟨⟨#[]⟩,0,0,none⟩:=x;subst x;have v:=zh X;clear X;rw[τ];go_enter func102,ntmps102;go_wp2_with fail;refine (zE6 E.V _).mono ?_;rintro e w1 ⟨rfl,H⟩;have bi:Kp [] w w1:=(kF.alloc _).tr H;go_wp2
  go_ret2
  exact⟨rfl,Env.To.of0 v bi⟩
 | «at» n l=>
  have x:RL E.O n w h l:=x;obtain⟨g1,g2,g3⟩:=hg;have bt:=zS8 ⟨g1,g2,g3⟩;have a8:(cont n l.sub).length<=1000000:=a8;obtain⟨F,ax⟩:=eX (cont n l.sub);have HA:Hid (Root.cont (.at n l)=F):=ax.symm;have v:=zh X;have HG:=zh g2;clear X;obtain⟨tc,bv,bw⟩:∃ tc:Array Value,tc=(ϟ E.V h)/\τ E.V h=.agg tc:=⟨_,rfl,rfl⟩;rw[τ];go_enter func102,ntmps102;go_wp2_with fail;obtain⟨w0,a9,an,ap⟩:=alA w (.cells (ϟ E.V h) 89);rw[<-a9];clear a9;have ac:=Env.To.of0 v ap;refine (qZ0 E n h l w0 (Env.RL x v ac) g1).mono ?_;rintro e w1 ⟨rfl,H⟩;have V:=ac.tail H;have R:=H.hp an;have bh:=ζ R;have b0:=ξ R;go_wp2_with fail;refine (zC0 E n h l w1 V.dev (Env.RL x v V)).mono ?_;rintro e w2 ⟨q,rfl,ar,ad⟩;have av:=V.trans ad;have ao:=ad.new v lR R;have bg:=zh av;have bc:=zh ao;have be:=zh ar;clear ad av ao ar H V R ap ac an b0 bh;go_wp2
  go_loopw [6] (λs wr=>zV5 E w wr k F s/\E.To w wr/\Ϙ wr w.heap.size (.cells (ϟ E.V h) 89)) (λs wr=>zH3 wr s)
  case atStart=>exact⟨⟨n,l.sub,l.key,q,rfl,be,HG,by rw[g1];exact qN2 _,oM,by rw[ax],oM⟩,bg,bc⟩
  case round=>
   obtain⟨⟨m,t,lo,q',rfl,T,g,bm,bj,N,Y⟩,U,hB⟩:=hrel
   cases m with
   | zero=>
    have bn:=zQ2 T;obtain⟨vp,b,z⟩:=T;have ae:=ζ b;have P:=ξ b 0;simp only[χ,zG,zH,zI] at P;have bk:(prs t).length<=10000:=qK8 0 lo t g;clear bn;go_wp2_with fail;refine (zJ3 q' 0 vp _ (prs t) k wr b z oM g.sorted).mono ?_;rintro e Q ⟨rfl,o⟩;have p:=U.tail o;have a6:=o.hp b;have af:=z.keep0 o;have C:Hid (qF7 F k=if qG1 (prs t) (qB9 (prs t) k) k then (prs t)[qB9 (prs t) k]? else none):=by
     show _=_;rw[N];exact jM5 (l:=prs t) g.sorted k
    have al:=zh p;have bu:=ζ a6;have r1:=ξ a6 1;simp only[χ,zG,zH,zI] at r1;obtain⟨i,B⟩:=eY (qB9 (prs t) k);rw[B] at C |-;by_cases A:qG1 (prs t) i k=true
    .have a5:i<(prs t).length:=by
      unfold qG1 at A;by_cases h:i<(prs t).length
      .exact h
      .rw[gN oM] at A;cases A
     have y:=C.out;rw[if_pos A,gQ a5] at y;have Z:=zh y;obtain⟨G,j,cp,cur,fr,rfl,bl,O,M⟩:=af.pair oM;obtain⟨_,c1⟩:=M i a5;have a1:=ξ O (j+i*2+1);rw[c1] at a1;have bq:=ζ O;have br:(i:Int)<((prs t).length:Int):=oM
     rw[A];clear M af z y C N g b U o p B P ae;go_wp2
     go_ret2
     refine⟨?_,al⟩;rw[HA.out,qN0,Z.out];rfl
    .have ay:qG1 (prs t) i k=false:=by simpa using A
     have y:=C.out;rw[ay] at y;have az:qF7 F k=none:=by simpa using y
     have Z:=zh az;rw[ay];clear af z y az C N g b U o p B P ae;go_wp2
     go_ret2
     refine⟨?_,al⟩;rw[HA.out,qN0,Z.out];rfl
   | succ m=>
    have bo:=zQ2 T;have bd:=zh bo;obtain⟨vl,b,d,z,L⟩:=T;obtain⟨bb,ag,ba,ah,ai⟩:=xT3 g bm bj;have bk:=(qK8 (m+1) lo t g).1;have bp:=L.1;have aj:d.findIdx (λl=>kl k l.key)-1=qA8 (η t) k:=by unfold qA8;rw[zU7 L]
    have a7:=zI7 L g.pair;obtain⟨G,j,cp,cur,fr,rfl,bl,O,M⟩:=z.link oM;obtain⟨i,B⟩:=eY (qA8 (η t) k);simp only[B] at bb ag ba ah ai aj;have a4:i<d.length:=oM
    obtain⟨c0,c1,c2,c3⟩:=M i a4;have bf:Hid (RL E.O m wr d[i] (η t)[i]):=L.2 i a4 bb;have ae:=ζ b;have P:=ξ b 0;simp only[χ,zG,zH,zI] at P;have bs:(0:Int)<((m+1:Nat):Int):=oM
    have ak:Hid (∀ (W:World) (u:Nat),RN E.O m W u (η t)[i].sub->E.To w W->Ϙ W w.heap.size (.cells (ϟ E.V h) 89)->(zV5 E w W k F (ϖ u)/\E.To w W/\Ϙ W w.heap.size (.cells (ϟ E.V h) 89))/\zH3 W (ϖ u)<m+1):=by
     show ∀ (W:World) (u:Nat),_;intro W u h1 h2 h3;refine⟨⟨⟨m,_,_,u,rfl,h1,ag,ah,oM,by rw[N,ai],oM⟩,h2,h3⟩,?_⟩;rw[zQ2 h1];omega
    have am:Hid (∀ W:World,Kp [] wr W->Ω 158 #[ϖ q',.string k] W λe w'=>e=ϱ (ϊ (i:Nat))/\Kp [] W w'):=by
     show ∀ W:World,_;intro W aq;have:=zU8 q' _ _ _ d k W (aq.hp b) (z.keep0 aq) oM a7;rw[aj] at this;exact this
    clear N ag ba ah ai aj a7 M L g B;go_wp2_with fail;have a:=n3 b O hB;refine wp_region_held_drew (S:=λW=>Ϙ W q' (χ ((m+1:Nat):Int) (.slice none 0 0) (.slice (some ⟨G,j,none⟩) d.length cp))/\Ϙ W G (.cells cur 87 fr)/\Ϙ W w.heap.size (.cells (ϟ E.V h) 89)) kR a (λ_=>?_);refine zW 0 (.agg (ϟ E.V h)) a (·.2.2) ?_;refine zP 1 q' 0 a ?_;refine zP 2 q' 0 a ?_;refine zP 3 q' 2 a ?_;refine zV 4 (.slice (some ⟨G,j,none⟩) d.length cp) rfl (λW c=>by have D:=ξ c.1 2;simp only[χ,zG,zH,zI] at D;clear c;go_simp) a ?_;refine zP 5 q' 0 a ?_;refine zU 6 (.string k) a ?_;refine zP 10 q' 0 a ?_;refine zP 11 q' 0 a ?_;refine zP 12 q' 0 a ?_;refine zV 13 (ϊ ((m+1:Nat):Int)) rfl (λW c=>by have D:=ξ c.1 0;simp only[χ,zG,zH,zI] at D;clear c;go_simp) a ?_;refine zq 7 λK hK=>?_;go_simp;refine (am wr.drew (kF.drew)).mono ?_;rintro e Q ⟨rfl,o⟩;have I:Kp [] wr Q:=((Kp.refl _ wr).drew).tr o;have f:=And.intro (I.hp b) (And.intro (I.hp O) (I.hp hB));have p:=U.tail I;refine hK.out _ _ f (λ_=>?_);clear hK K o a
    try simp only[zZ]
    refine zU 8 (.pointer (some ⟨G,j+i*4,none⟩)) f ?_;refine zV 9 (.agg #[.string d[i].key,ϊ d[i].b,.int .u64 d[i].s,.pointer d[i].ptr]) rfl (λW c=>by have D:=ξ c.2.1 (j+i*4);have a1:=ξ c.2.1 (j+i*4+1);have a2:=ξ c.2.1 (j+i*4+2);have a3:=ξ c.2.1 (j+i*4+3);rw[c0] at D;rw[c1] at a1;rw[c2] at a2;rw[c3] at a3;clear c;go_simp) f ?_;refine zq 14 λK hK=>?_;go_simp;refine (qK6 E m d[i] h (η t)[i] ((m+1:Nat):Int) Q p.dev (RL.keep bf I (Apt.nil _ _)) oM).mono ?_;rintro e w4 ⟨u,rfl,au,J⟩;have aw:=p.trans J;have aa:=J.new v lR f.2.2;have ab:=n3 (J.kp.heap f.1 (λY=>E.apt Q p.dev _ Y _ _ _ f.1 dC)) (J.kp.heap f.2.1 (λY=>E.apt Q p.dev _ Y _ _ _ f.2.1 dC)) aa
    refine zk hK ab ?_
    refine zq 15 λK hK=>?_;go_simp;refine hK.out _ _ ab (λ_=>?_);refine zd ?_;have HR:=ak.out w4 u au aw aa;clear f ab au J aw aa ak am;go_wp2;rw[bd.out];exact HR
end Go.Proofs.YtdohpenfkdckiaaGreatDoor
