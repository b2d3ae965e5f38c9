import Derived.Test.YtdohpenfkdckiaaGreatDoorB20
set_option linter.all false
set_option maxRecDepth 100000
set_option maxHeartbeats 20000000
namespace Go.Proofs.YtdohpenfkdckiaaGreatDoor
open Go.Proofs.Tryz
def qN8(f:ByteArray→Bool):Prop:=∀ a b,kl a b=true→f b=true→f a=true
def qB4(f:ByteArray→Bool)(l:List KV):Option KV:=l.reverse.find? (fun q=>f q.k)
theorem qK8(f:ByteArray→Bool)(a b:List KV):qB4 f (a++b)=(qB4 f b).or (qB4 f a):=by simp[qB4,List.find?_append]
theorem jE4{n:Nat}{lo:ByteArray}{f:ByteArray→Bool}(hf:qN8 f){ls:List (Lnk (Tn n))}(h:Row0 n lo ls):
  qB4 f (ls.flatMap fun l=>cont n l.sub)=qB4 f ((ls.take (ls.findIdx (fun l=>!f l.key)-1+1)).flatMap fun l=>cont n l.sub):=by
 obtain⟨i,hi⟩:∃ i,i=ls.findIdx (fun l=>!f l.key)-1+1:=⟨_,rfl⟩;rw[←hi];have hd:∀ q∈(ls.drop i).flatMap (fun l=>cont n l.sub),f q.k=false:=by
  intro q hq;obtain⟨b,hb,hq⟩:=List.mem_flatMap.1 hq;have gb:=h.all b (List.mem_of_mem_drop hb);have hqb:=((qK7 n b.key b.sub gb.1).2 q hq).2;have hfb:f b.key=false:=by
   have hlt:ls.findIdx (fun l=>!f l.key)<ls.length:=by
    by_cases hl:ls.findIdx (fun l=>!f l.key)<ls.length
    ·exact hl
    ·rw[List.drop_of_length_le (by omega)] at hb;simp at hb
   have h0:f (ls[ls.findIdx (fun l=>!f l.key)]).key=false:=by
    have h0:=List.findIdx_getElem (p:=fun l:Lnk (Tn n)=>!f l.key) (xs:=ls) (w:=hlt);simpa using h0
   have hp:=h.pair;rw[←List.take_append_drop (ls.findIdx (fun l=>!f l.key)) ls,List.drop_eq_getElem_cons hlt] at hp;have hp2:=List.pairwise_cons.1 (List.pairwise_append.1 hp).2.1;have hb2:b∈ls.drop (ls.findIdx (fun l=>!f l.key)):=by
    have e:i=ls.findIdx (fun l=>!f l.key)+(i-ls.findIdx (fun l=>!f l.key)):=by omega
    rw[e,←List.drop_drop] at hb;exact List.mem_of_mem_drop hb
   rw[List.drop_eq_getElem_cons hlt] at hb2;rcases List.mem_cons.1 hb2 with rfl|hb2
   ·exact h0
   ·by_cases e:f b.key=true
    ·rw[hf _ _ (hp2.1 b hb2).1 e] at h0;cases h0
    ·simpa using e
  by_cases e:f q.k=true
  ·by_cases e2:kl b.key q.k=true
   ·rw[hf _ _ e2 e] at hfb;cases hfb
   ·rw[qZ8 hqb (by simpa using e2)] at e;rw[e] at hfb;cases hfb
  ·simpa using e
 conv=>lhs;rw[←List.take_append_drop i ls,List.flatMap_append,qK8]
 have:qB4 f ((ls.drop i).flatMap fun l=>cont n l.sub)=none:=by
  unfold qB4;exact zV1 fun q hq=>hd q (List.mem_reverse.1 hq)
 rw[this];simp
end Go.Proofs.YtdohpenfkdckiaaGreatDoor
namespace Go.Proofs.YtdohpenfkdckiaaGreatDoor
open Go.Proofs.Tryz
open Go.RowKit
theorem jD9(g:Nat)(cap:Array Value)(v:Value)(ps:List KV)(f:KV→Bool)(w:World)
  (hs:Slc w 185 2 v ps.length (qA6 ps)) (hn:ps.length≤1000000) (hdn:∀ i j (hi:i<ps.length) (hj:j<ps.length),i≤j→f ps[j]=true→f ps[i]=true)
  (hcf:∀ (args:Array Value) (W:World),Sem.run prog (callFunc g args) W=.ok (.enter g args) W)
  (hf:∀ W,Kp [] w W→∀ i (h:i<ps.length),Calls prog g (#[.agg #[.string ps[i].k,.string ps[i].v]]++cap) W fun e W'=>e=.returned (.bool (f ps[i]))∧Kp [] W W'):
  Calls prog 154 #[v,.func (.func g) #[] cap] w fun e w'=>e=.returned (.int .i64 (ps.findIdx (fun p=>!f p)-1:Nat))∧Kp [] w w':=by
 have hmf:=zM;have HF:=zh hf;have HU:=zh hdn;clear hf hdn;go_enter func154,ntmps154;go_wp2_with fail;have hF1:=κ w (.cells #[.func (.func g) #[] cap] 215);have hK1:Kp [] w (w.alloc (.cells #[.func (.func g) #[] cap] 215)):=(Kp.refl _ _).alloc _;refine (zE7 219 _ v ps (fun p=>!f p) _ (hs.keep0 hK1) hn ?_ ?_ ?_).mono ?_
 ·intro i j hi hj hij hp;by_cases e:f ps[j]=true
  ·rw[HU.out i j hi hj hij e] at hp;simp at hp
  ·simpa using e
 ·intro args W;simp[go_sem,func219]
 ·intro W hKW i hi;exact jD8 g w.heap.size cap ps[i] (f ps[i]) W (hKW.hp hF1) hcf (fun W' hK'=>HF.out W' ((hK1.tr hKW).tr hK') i hi)
 ·rintro e w2 ⟨rfl,hK2⟩;have hK2':=hK1.tr hK2;have hle:ps.findIdx (fun p=>!f p)≤ps.length:=List.findIdx_le_length;go_wp2
  all_goals
   go_ret;exact⟨qJ5 (by omega),hK2'⟩
theorem BadT.from{E:SEnv}{w w0 w':World}{t:Tx}{s:Sto}(hK:Kp [] w w0)(h:BadT E w0 w' t s):BadT E w w' t s:=
 { h with kp:=(hK.mono (by simp)).trans h.kp (fun _ h _=>h) }
end Go.Proofs.YtdohpenfkdckiaaGreatDoor
namespace Go.Proofs.YtdohpenfkdckiaaGreatDoor
open Go.Proofs.Tryz
open Go.RowKit
open Go.Maps (Keyed)
section
variable {w:World} {kc db St A C N nM:Nat} {s:Sto} {D:DataW Unit} {l:List UInt8} {wr:Int} {nw:Root}
theorem Wrt.other{x:Nat}{t:Tx}{r:Root}{nr:Int}(h:Wrt w kc db St A C N nM s D l wr nw x t r nr){w':World}{nM':Nat}{s':Sto}{D':DataW Unit}(hS:Shop w' kc db St A C N nM' s' D' l wr nw)(hK:Kp [St,s.M,A] w w')(hV:s'.V=s.V):Wrt w' kc db St A C N nM' s' D' l wr nw x t r nr:=by
 obtain⟨c,hA⟩:=h.shop.hA;have h1:x≠St:=by rw[←h.st];exact h.live.xS
 have h2:x≠s.M:=qF2 h.live.hx h.shop.hM;have h3:x≠A:=qA7 h.live.hx hA (by decide);have hapM:Apt w [s.M] qF4:=fun k hk c ty fr e=>by rw[List.mem_singleton.1 hk] at e;exact absurd rfl (qF2 e h.shop.hM)
 have hap:Apt w [St,s.M,A] qF4:=(Apt.one h.shop.hSt (by decide)).cons (hapM.cons (Apt.one hA (by decide)));have hrr:=h.live.rr.keepT hK hap;refine⟨hS,{ hx:=hK.heap h.live.hx (by simp[h1,h2,h3]),over:=h.live.over,on:=?_,hSt:=by rw[h.st];exact hS.hSt,po:=hS.po,sV:=rfl,hV:=hS.dev.hV,n1:=hS.N1,bl0:=hS.bl0,bl1:=by have:=hS.bl1;have:=hS.sz;have:=hS.kc1;omega,dev:=hS.dev,vS:=by show s'.V ∉ [A];simpa using hS.VA,rr:=?_,good:=h.live.good,sz:=h.live.sz,ch0:=h.live.ch0,ch1:=h.live.ch1 },h.st,h.nr,h.wrt⟩
 ·show t.on=some ⟨s'.V,0,none⟩;rw[hV];exact h.live.on
 ·cases r with
  | none=>exact hrr
  | «at» n L=>exact hrr
end
end Go.Proofs.YtdohpenfkdckiaaGreatDoor
namespace Go.Proofs.YtdohpenfkdckiaaGreatDoor
open Go.Proofs.Tryz
open Go.RowKit
attribute [local go_sem] Oper.semAt_some
theorem ErrV.keep{w w':World}{v:Value}{k:Option Int}{S:List Nat}(h:ErrV w v k)(hK:Kp S w w')(hS:∀ i∈S,∀ c fr,w.heap[i]?≠some (.cells c 246 fr)):ErrV w' v k:=by
 cases k with
 | none=>exact h
 | some k=>
  obtain⟨F,call,h1,h2⟩:=h;exact⟨F,call,h1,hK.heap h2 (fun hm=>hS _ hm _ _ h2)⟩
end Go.Proofs.YtdohpenfkdckiaaGreatDoor
namespace Go.Proofs.YtdohpenfkdckiaaGreatDoor
open Go.Proofs.Tryz
open Go.RowKit
theorem xB8{l n:Nat}{P:Program}{ops:Array Oper}{Q:Exit→Act→World→Prop}(hdf:∀ (i:Nat) (o:Oper),ops[i]?=some o→∀ c,o.op≠.defer c)(hQ:¬LetsOut Q):∀ (is:List Nat) (a:Act) (w:World),wpOps P ops Q is a w→wpOpsIn (Fence.wide.inRound l) n P ops Q is a w
 | [],a,w,h=>h
 | i::rest,a,w,h=>by
  have ih:=fun a w=>xB8 (l:=l) (n:=n) (P:=P) hdf hQ rest a w;unfold wpOps at h;unfold wpOpsIn
  cases ho:ops[i]? with
  | none=>
   simp only[ho] at h ⊢;exact ih a w h
  | some o=>
   simp only[ho] at h ⊢;split
   ·rename_i hw;rw[if_pos hw] at h;have h:=h.resolve_right (fun h=>hQ h.2);refine⟨fun _ _=>trivial,?_⟩;rw[Fence.inRound_round,Oper.semAt_eq _ _ _ (hdf i o ho)];unfold Oper.wp at h;generalize (execOp a.eval o).run P w=r at h
    cases r with
    | ok nx w'=>
     cases nx with
     | value v=>exact ih _ _ h
     | skip=>exact ih _ _ h
     | defer d=>exact ih _ _ h
     | enter f args=>
      refine⟨fun hh=>(by cases hh),CallsIn.inRound l (callsIn_wide.2 (Calls.mono h ?_))⟩;intro e w'' hx
      cases e with
      | returned v=>exact ih _ _ hx
      | panicked c=>exact hx
      | outgrown=>exact hx
     | row row args=>
      refine⟨fun hh=>(by cases hh),fun c cs _=>?_⟩;obtain⟨v,w'',hx,hs⟩:=h c cs;exact⟨v,w'',ih _ _ hx,stepsIn_wide.2 hs⟩
     | _=>exact h.elim
    | halt hh w'=>
     cases hh with
     | panic v=>exact h
     | _=>exact h.elim
   ·rename_i hw;rw[if_neg hw] at h;exact⟨fun _ _=>trivial,ih _ _ h⟩
def zI3(o:Oper):Bool:=match o.op with
 | .defer _=>false
 | _=>true
theorem jH7{ops:Array Oper}(h:ops.all zI3=true):∀ (i:Nat) (o:Oper),ops[i]?=some o→∀ c,o.op≠.defer c:=fun i o ho c e=>by
 have hm:o∈ops:=Array.mem_of_getElem? ho;have:=Array.all_eq_true_iff_forall_mem.1 h o hm;simp[zI3,e] at this
theorem jQ9{l n:Nat}{P:Program}{ops:Array Oper}{Q:Exit→Act→World→Prop}{S:World→Prop}{id:Nat}{a:Act}{w:World}(hm:P.follows .mixedOrders=true)(hdf:ops.all zI3=true)(hQ:¬LetsOut Q)(hS:S w.drew)
  (h:S w.drew→wpAnyH P .any ops Q S ops.size (Array.replicate ops.size false) a w.drew):(Code.region id ops true).wpIn (Fence.wide.inRound l) n P Q a w:=
 wpIn_region_draw fun t=>by
  simp only[Region.schedule,hm,Bool.true_or,if_true];exact xB8 (jH7 hdf) hQ _ _ _ (wpAny_sound ops.size t _ a _ (wpAny_of_held _ _ _ _ (h hS)))
end Go.Proofs.YtdohpenfkdckiaaGreatDoor
namespace Go.Proofs.YtdohpenfkdckiaaGreatDoor
open Go.Proofs.Tryz
open Go.RowKit
attribute [local go_sem] Oper.semAt_some
theorem xM4(l m Sx gb off k cp:Nat)(cur:Array Value)(fr:Nat × Nat)(hs:List HL)(J:Nat→World→Prop)(Jx:World→Prop)(w:World)(hk:k≤10000)(hkc:k≤cp)(hkh:k≤hs.length)
  (hcur:∀ i (h:i<hs.length),cur[off+i*4]?=some (.string hs[i].key)∧cur[off+i*4+1]?=some (.int .i64 hs[i].b)∧cur[off+i*4+2]?=some (.int .u64 hs[i].s)∧cur[off+i*4+3]?=some (.pointer hs[i].ptr))
  (hbox:∀ i W,J i W→W.heap[Sx]?=some (.cells #[.slice (some ⟨gb,off,none⟩) k cp] 156)∧W.heap[gb]?=some (.cells cur 87 fr))
  (hY:∀ i (hi:i<k) W,J (i+1) W→YieldAt Fence.wide (m-1) prog l #[.int .i64 i,.agg #[.string hs[i].key,.int .i64 hs[i].b,.int .u64 hs[i].s,.pointer hs[i].ptr]] W fun e W'=>(e=.returned (.bool true)∧J i W')∨(e=.returned (.bool false)∧Jx W'))
  (h0:J k w):
  CallsIn Fence.wide m prog 220 #[.func (.yield l) #[] #[],.pointer (some ⟨Sx,0,none⟩)] w fun e w'=>(∃ v,e=.returned v)∧(J 0 w'∨Jx w'):=by
 have HJ0:=zh h0;have HBX:=zh hbox;have HY:=zh hY;have HCUR:=zh hcur;have hS0:=(hbox k w h0).1;have hSs:=ζ hS0;have s0:=ξ hS0 0;simp only[zG,zH,zI] at s0;have hwr:wrap64 ((k:Int)-1)=(k:Int)-1:=by simp only[wrap64];omega
 clear hbox hY hcur h0 hS0;refine callsIn_of_wp func220 rfl trivial ?_ rfl;simp only[ntmps220,List.size_toArray,List.length_cons,List.length_nil,Nat.reduceAdd,Nat.reduceSub,Array.replicate_succ,Array.replicate_zero,List.push_toArray,List.append_toArray,List.nil_append,List.cons_append]
 gi_wp2_with fail
 gi_loopg [3] k (fun gk v wr=>gk≤k∧v=.int .i64 ((gk:Int)-1)∧Hid (J gk wr))
 case atStart=>exact⟨Nat.le_refl _,by simp[hwr],HJ0⟩
 case round=>
  obtain⟨hgk,rfl,hJ⟩:=hrel;obtain⟨hS1,hG1⟩:=HBX.out _ _ hJ.out;have hS1s:=ζ hS1;have hG1s:=ζ hG1;have s0:=ξ hS1 0;simp only[zG,zH,zI] at s0;by_cases h0:gk=0
  ·subst h0;have hc:¬(0:Int)≤((0:Nat):Int)-1:=by omega
   clear hS1 hG1;rw[show ((0:Nat):Int)-1=-1 by rfl] at hc ⊢
   gi_wp2
   refine bodyPost_end (results_none results220 _ _ _) rfl ?_;exact⟨⟨_,rfl⟩,.inl hJ.out⟩
  ·obtain⟨i,rfl⟩:∃ i,gk=i+1:=⟨gk-1,by omega⟩;have hi:i<k:=by omega
   have e1:((i+1:Nat):Int)-1=(i:Int):=by omega
   rw[e1];have hc:(0:Int)≤(i:Int):=by omega
   have hib:(i:Int)<(k:Int):=by omega
   obtain⟨c0,c1,c2,c3⟩:=HCUR.out i (by omega);have a0:=ξ hG1 (off+i*4);rw[c0] at a0;have a1:=ξ hG1 (off+i*4+1);rw[c1] at a1;have a2:=ξ hG1 (off+i*4+2);rw[c2] at a2;have a3:=ξ hG1 (off+i*4+3);rw[c3] at a3;obtain⟨fn,tmps,assign,body,hy,hR⟩:=HY.out i hi wr hJ.out;have hwi:wrap64 ((i:Int)-1)=(i:Int)-1:=by simp only[wrap64];omega
   clear c0 c1 c2 c3 hG1 hS1 hJ e1 h0
   gi_wp2
   refine⟨fun h=>(by cases h),hR.mono ?_⟩;clear hR hy;rintro e w5 (⟨rfl,hJ5⟩|⟨rfl,hJx⟩)
   ·have HJ5:=zh hJ5;clear hJ5 a0 a1 a2 a3
    gi_wp2
    gi_roundg i
    ·exact⟨by omega,by go_num,HJ5⟩
    ·omega
   ·have HX:=zh hJx;clear hJx a0 a1 a2 a3
    gi_wp2
    refine bodyPost_ret (results_none results220 _ _ _) rfl ?_;exact⟨⟨_,rfl⟩,.inr HX.out⟩
end Go.Proofs.YtdohpenfkdckiaaGreatDoor
namespace Go.Proofs.YtdohpenfkdckiaaGreatDoor
open Go.Proofs.Tryz
open Go.RowKit
attribute [local go_sem] Oper.semAt_some
theorem xQ2(args:Array Value)(W:World):Sem.run prog (callFunc 220 args) W=.ok (.enter 220 args) W:=by
 simp[go_sem,func220]
def qV8(x:HL):Value:=.agg #[.string x.key,.int .i64 x.b,.int .u64 x.s,.pointer x.ptr]
def qT3(x:HL):Obj:=.cells #[.string x.key,.int .i64 x.b,.int .u64 x.s,.pointer x.ptr] 87
def zQ4(N:Nat)(W W3:World):Prop:=W3.heap[N+1]?=W.heap[N+1]?∧W3.heap[N]?=W.heap[N]?
theorem jQ7{nn:Nat}{g:Operand}{ps:Array Tmp}{assign body:Code}{Q:Exit→Act→World→Prop}{a:Act}{w:World}(Sx gb off k cp:Nat)(cur:Array Value)(fr:Nat × Nat)(hs:List HL)(h1:1≤nn)(hk:k≤10000)(hkc:k≤cp)(hkh:k≤hs.length)
  (hg:a.eval g=.func (.func 220) #[] #[.pointer (some ⟨Sx,0,none⟩)]) (hps:ps.size=2)
  (hcur:∀ i (h:i<hs.length),cur[off+i*4]?=some (.string hs[i].key)∧cur[off+i*4+1]?=some (.int .i64 hs[i].b)∧cur[off+i*4+2]?=some (.int .u64 hs[i].s)∧cur[off+i*4+3]?=some (.pointer hs[i].ptr))
  (J:Nat→World→Prop) (Jx:World→Prop)
  (hJK:∀ i W W',J i W→Kp [w.heap.size+1] W W'→(∃ rec,W.heap[w.heap.size+1]?=some (.loop rec))→J i W') (hJxK:∀ W W',Jx W→Kp [w.heap.size+1] W W'→(∃ rec,W.heap[w.heap.size+1]?=some (.loop rec))→Jx W')
  (hbox:∀ i W,J i W→W.heap[Sx]?=some (.cells #[.slice (some ⟨gb,off,none⟩) k cp] 156)∧W.heap[gb]?=some (.cells cur 87 fr))
  (hJ0:∀ W,Kp [] w W→J k W)
  (a₁:Nat→HL→Nat→Act)
  (hassign:∀ (l i:Nat) (hi:i<k) (W:World) (K:Act→World→Prop),(∀ W2,W2.heap[W.heap.size]?=some (qT3 hs[i])→Kp [] W W2→K (a₁ i hs[i] W.heap.size) W2)→
   assign.wpIn (Fence.wide.inRound l) (nn-1-1) prog (Exit.then K (fun _ _ _=>False)) { tmps:=(ps.zip #[.int .i64 i,qV8 hs[i]]).foldl (fun t (p,v)=>t.setIfInBounds p v) a.tmps,defers:=[] } W)
  (hbody:∀ (l i:Nat) (hi:i<k) (W:World) (X:Nat),J (i+1) W→W.heap[X]?=some (qT3 hs[i])→w.heap.size+1<X→(∃ rec,W.heap[w.heap.size+1]?=some (.loop rec))→W.heap[w.heap.size]?=some (.deferred (some []))→
   body.wpIn (Fence.wide.inRound l) (nn-1-1) prog (fun e _ W3=>match e with
    | .normal=>J i W3∧zQ4 w.heap.size W W3
    | .ret=>Jx W3∧zQ4 w.heap.size W W3
    | _=>False) (a₁ i hs[i] X) W)
  (hdone:∀ (W:World),J 0 W→W.heap[w.heap.size]?=some (.deferred (some []))→Q .normal { a with defers:={ target:=.collected w.heap.size,args:=#[] }::a.defers } W)
  (hstop:∀ (W:World),Jx W→W.heap[w.heap.size]?=some (.deferred (some []))→Code.ret.wpIn Fence.wide nn prog Q { a with defers:={ target:=.collected w.heap.size,args:=#[] }::a.defers } W):
  (Code.rangeFunc g ps assign body).wpIn Fence.wide nn prog Q a w:=by
 refine wpIn_rangeFunc ?_;intro fn hfn;obtain⟨rec,hrec⟩:∃ rec:LoopState→Option Code→Loop,rec=fun st pe=>{ state:=st,pending:=pe,fn,tmps:=a.tmps,params:=ps,assign,body,defers:=w.heap.size }:=⟨_,rfl⟩;obtain⟨W1,hW1⟩:∃ W1,(w.alloc (.deferred (some []))).alloc (.loop (rec .ready none))=W1:=⟨_,rfl⟩;have hL1:W1.heap[w.heap.size+1]?=some (.loop (rec .ready none)):=by
  rw[←hW1];have:=World.alloc_heap_new (w.alloc (.deferred (some []))) (.loop (rec .ready none));rwa [World.size_alloc] at this
 have hD1:W1.heap[w.heap.size]?=some (.deferred (some [])):=by
  rw[←hW1];exact (Below.heap_alloc _ _ _ (by simp)).trans (World.alloc_heap_new w _)
 have hK1:Kp [] w W1:=by rw[←hW1];exact ((Kp.refl _ _).alloc _).alloc _
 refine⟨w.heap.size+1,[{ target:=.collected w.heap.size,args:=#[] }],W1,{ target:=.fn (.func 220) #[.pointer (some ⟨Sx,0,none⟩)],args:=#[.func (.yield (w.heap.size+1)) #[] #[]] },W1,220,
  #[.func (.yield (w.heap.size+1)) #[] #[],.pointer (some ⟨Sx,0,none⟩)],W1,?_,?_,?_,?_,fun h=>(by cases h),?_⟩
 ·rw[←hW1,hrec];exact run_enterLoop_outer _ _ _ _ _
 ·simp only[resolve,hg];simp[go_sem]
 ·intro f' hf';trivial
 ·simp[invoke,go_sem,xQ2]
 ·refine (xM4 (w.heap.size+1) (nn-1) Sx gb off k cp cur fr hs (fun i W=>J i W∧W.heap[w.heap.size+1]?=some (.loop (rec .ready none))∧W.heap[w.heap.size]?=some (.deferred (some []))) (fun W=>Jx W∧W.heap[w.heap.size+1]?=some (.loop (rec .done (some .ret)))∧W.heap[w.heap.size]?=some (.deferred (some []))) W1 hk hkc hkh hcur (fun i W h=>hbox i W h.1) ?_ ⟨hJ0 W1 hK1,hL1,hD1⟩).mono ?_
  ·
   rintro i hi W ⟨hJ,hL,hD⟩;have hlt:w.heap.size+1<W.heap.size:=ζ hL;have hy:=run_yield (P:=prog) (args:=#[.int .i64 i,qV8 hs[i]]) hL (by rw[hrec];simp[hps]);rw[hrec] at hy;refine⟨fn,_,assign,body,hy,roundIn_of_wpIn hfn (hassign _ i hi W _ ?_)⟩;clear hy;intro W2 hX2 hK2;have hL2:=hK2.hp hL;have hD2:=hK2.hp hD;refine⟨_,run_beginRound hL2 (by rw[hrec]),?_⟩;obtain⟨W3,hW3,hL3,hK3⟩:∃ W3,W3=W2.putObj (w.heap.size+1) (.loop { rec .ready none with state:=.busy })∧W3.heap[w.heap.size+1]?=some (.loop { rec .ready none with state:=.busy })∧Kp [w.heap.size+1] W2 W3:=
    ⟨_,rfl,World.putObj_heap_same (ζ hL2),(Kp.refl _ _).putObj (by simp) _⟩
   rw[←hW3];clear hW3;have hJ3:J (i+1) W3:=hJK _ _ _ hJ (hK2.mono (by simp) |>.trans hK3 (fun _ h _=>h)) ⟨_,hL⟩;have hX3:=hK3.ho hX2;have hD3:=hK3.hp hD2;refine wpIn_mono (hbody _ i hi W3 W.heap.size hJ3 hX3 hlt ⟨_,hL3⟩ hD3) ?_;rintro e a3 W4 hp
   cases e with
   | normal=>
    obtain⟨hJ4,hb1,hb2⟩:=hp;rw[hL3] at hb1;rw[hD3] at hb2;have hr:=run_endRound (P:=prog) none hb1;rw[hrec] at hr;refine⟨_,_,hr,.inl ⟨rfl,?_⟩⟩;have hKf:Kp [w.heap.size+1] W4 (W4.putObj (w.heap.size+1) (.loop (rec .ready none))):=(Kp.refl _ _).putObj (by simp) _;have hfin:J i (W4.putObj (w.heap.size+1) (.loop (rec .ready none)))∧(W4.putObj (w.heap.size+1) (.loop (rec .ready none))).heap[w.heap.size+1]?=some (.loop (rec .ready none))∧(W4.putObj (w.heap.size+1) (.loop (rec .ready none))).heap[w.heap.size]?=some (.deferred (some [])):=
     ⟨hJK _ _ _ hJ4 hKf ⟨_,hb1⟩,World.putObj_heap_same (ζ hb1),hKf.hp hb2⟩
    rw[hrec] at hfin ⊢;exact hfin
   | ret=>
    obtain⟨hJ4,hb1,hb2⟩:=hp;rw[hL3] at hb1;rw[hD3] at hb2;have hr:=run_endRound (P:=prog) (some .ret) hb1;rw[hrec] at hr;refine⟨_,_,hr,.inr ⟨rfl,?_⟩⟩;have hKf:Kp [w.heap.size+1] W4 (W4.putObj (w.heap.size+1) (.loop (rec .done (some .ret)))):=(Kp.refl _ _).putObj (by simp) _;have hfin:Jx (W4.putObj (w.heap.size+1) (.loop (rec .done (some .ret))))∧(W4.putObj (w.heap.size+1) (.loop (rec .done (some .ret)))).heap[w.heap.size+1]?=some (.loop (rec .done (some .ret)))∧(W4.putObj (w.heap.size+1) (.loop (rec .done (some .ret)))).heap[w.heap.size]?=some (.deferred (some [])):=
     ⟨hJxK _ _ hJ4 hKf ⟨_,hb1⟩,World.putObj_heap_same (ζ hb1),hKf.hp hb2⟩
    rw[hrec] at hfin ⊢;exact hfin
   | exit i=>exact hp.elim
   | goto l=>exact hp.elim
   | panic ch=>exact hp.elim
   | outgrown=>exact hp.elim
  ·
   rintro e W2 ⟨⟨v,rfl⟩,⟨hJ2,hL2,hD2⟩|⟨hJ2,hL2,hD2⟩⟩
   ·have hr:=run_endLoop (P:=prog) hL2 (by rw[hrec];simp);rw[hrec] at hr;have hKf:Kp [w.heap.size+1] W2 (W2.putObj (w.heap.size+1) (.loop { rec .ready none with state:=.exhausted })):=(Kp.refl _ _).putObj (by simp) _;refine⟨none,_,hr,?_⟩;have:=hdone (W2.putObj (w.heap.size+1) (.loop { rec .ready none with state:=.exhausted })) (hJK _ _ _ hJ2 hKf ⟨_,hL2⟩) (hKf.hp hD2);rw[hrec] at this;exact this
   ·have hr:=run_endLoop (P:=prog) hL2 (by rw[hrec];simp);rw[hrec] at hr;have hKf:Kp [w.heap.size+1] W2 (W2.putObj (w.heap.size+1) (.loop { rec .done (some .ret) with state:=.exhausted })):=(Kp.refl _ _).putObj (by simp) _;refine⟨some .ret,_,hr,?_⟩;have:=hstop (W2.putObj (w.heap.size+1) (.loop { rec .done (some .ret) with state:=.exhausted })) (hJxK _ _ hJ2 hKf ⟨_,hL2⟩) (hKf.hp hD2);rw[hrec] at this;exact this
end Go.Proofs.YtdohpenfkdckiaaGreatDoor
namespace Go.Proofs.YtdohpenfkdckiaaGreatDoor
open Go.Proofs.Tryz
open Go.RowKit
theorem zY2{f:ByteArray→Bool}{l:List KV}(h:∀ q∈l,f q.k=false):qB4 f l=none:=by
 rw[qB4,List.find?_eq_none];intro q hq;simp[h q (by simpa using hq)]
theorem zY3{f:ByteArray→Bool}{p:KV}(h:f p.k=true):qB4 f [p]=some p:=by simp[qB4,h]
theorem zY4{f:ByteArray→Bool}(hd:qN8 f){l:List KV}(hs:Sorted l){i:Nat}(hi:l.findIdx (fun q=>!f q.k)-1=i)(hl:i<l.length):qB4 f l=if f l[i].k then some l[i] else none:=by
 obtain⟨j,hj⟩:∃ j,l.findIdx (fun q=>!f q.k)=j:=⟨_,rfl⟩;have hjl:j≤l.length:=by rw[←hj];exact List.findIdx_le_length
 have hbe:∀ q∈l.drop j,f q.k=false:=by
  intro q hq;obtain⟨b,hb,rfl⟩:=List.getElem_of_mem hq;rw[List.getElem_drop];have hjb:j+b<l.length:=by simp at hb;omega
  have hlt:j<l.length:=by omega
  have hfj:f l[j].k=false:=by
   have:=List.findIdx_getElem (p:=fun q:KV=>!f q.k) (xs:=l) (w:=by rw[hj];exact hlt);simp only[hj] at this;simpa using this
  by_cases e:b=0
  ·subst e;simpa using hfj
  ·cases hf:f l[j+b].k with
   | false=>rfl
   | true=>
    have hk:=List.pairwise_iff_getElem.1 hs j (j+b) hlt hjb (by omega);rw[hd _ _ hk hf] at hfj;cases hfj
 by_cases h0:j=0
 ·have e0:i=0:=by omega
  subst e0;have hall:∀ q∈l,f q.k=false:=by rw[h0] at hbe;simpa using hbe
  rw[zY2 hall,if_neg (by rw[hall _ (List.getElem_mem _)];simp)]
 ·have ei:i=j-1:=by omega
  subst ei;have hfi:f l[j-1].k=true:=by
   have:=List.not_of_lt_findIdx (p:=fun q:KV=>!f q.k) (xs:=l) (i:=j-1) (by rw[hj];omega);simpa using this
  rw[if_pos hfi];have hsp:l=l.take (j-1)++[l[j-1]]++l.drop j:=by
   have h1:l.take (j-1)++[l[j-1]]=l.take j:=by
    rw[←List.take_succ_eq_append_getElem hl]
    congr 1
    omega
   rw[h1,List.take_append_drop]
  obtain⟨x,hx⟩:∃ x,l[j-1]=x:=⟨_,rfl⟩;rw[hx] at hsp hfi ⊢;have e:=congrArg (qB4 f) hsp;rw[qK8,qK8,zY2 hbe,zY3 hfi] at e;rw[e];rfl
def qB8(l:List KV)(i:Int):Option KV:=if i<0 then none else l[i.toNat]?
theorem xT9(l:List KV):(l.find? fun _=>true)=qB8 l 0:=by
 cases l with
 | nil=>rfl
 | cons a l=>rfl
theorem jE1(l:List KV):qB4 (fun _=>true) l=qB8 l ((l.length:Int)-1):=by
 rcases List.eq_nil_or_concat l with rfl|⟨a,x,rfl⟩
 ·rfl
 ·rw[List.concat_eq_append,qK8,zY3 (by rfl),qB8,if_neg (by simp)];simp only[Option.some_or,List.length_append,List.length_singleton];rw[show (((a.length+1:Nat):Int)-1).toNat=a.length by omega];simp
theorem jM2(l:List KV)(k:ByteArray):(l.find? fun q=>!kl q.k k)=qB8 l (qB2 l k:Nat):=by
 rw[zE6,qB8,if_neg (by omega),Int.toNat_natCast];rfl
theorem zB0{l:List KV}(hs:Sorted l){i j:Nat}(hi:i<l.length)(hj:j<l.length)(h:i<j):kl l[i].k l[j].k=true:=List.pairwise_iff_getElem.1 hs i j hi hj h
theorem qW8{l:List KV}(hs:Sorted l){j:Nat}(hj:j<l.length):qB2 l l[j].k=j:=by
 rw[qB2,List.findIdx_eq hj];refine⟨by simp[qN5],fun i hi=>?_⟩;simp[zB0 hs (by omega) hj hi]
theorem jH4{l:List KV}(hs:Sorted l){j:Nat}(hj:j<l.length):(l.find? fun q=>kl l[j].k q.k)=qB8 l ((qB2 l l[j].k:Nat)+1):=by
 rw[qW8 hs hj,qB8,if_neg (by omega),show ((j:Int)+1).toNat=j+1 by omega];have hback:∀ i (hi:i<l.length),i≤j→kl l[j].k l[i].k=false:=fun i hi hle=>by
  by_cases e:i=j
  ·subst e;exact qN5 _
  ·exact qO4 (zB0 hs hi hj (by omega))
 rw[zE6];by_cases h1:j+1<l.length
 ·congr 1
  rw[List.findIdx_eq h1];exact⟨zB0 hs hj h1 (by omega),fun i hi=>hback i (by omega) (by omega)⟩
 ·have:l.findIdx (fun q=>kl l[j].k q.k)=l.length:=List.findIdx_eq_length.2 fun q hq=>by
   obtain⟨i,hi,rfl⟩:=List.getElem_of_mem hq;simp[hback i hi (by omega)]
  rw[this,List.getElem?_eq_none (Nat.le_refl _),List.getElem?_eq_none (by omega)]
theorem jK3{l:List KV}(hs:Sorted l){j:Nat}(hj:j<l.length):qB4 (fun k=>kl k l[j].k) l=qB8 l ((qB2 l l[j].k:Nat)-1):=by
 rw[qW8 hs hj];have hidx:l.findIdx (fun q=>!kl q.k l[j].k)=j:=qW8 hs hj;rw[zY4 (f:=fun k=>kl k l[j].k) (fun a b h hb=>qM4 h hb) hs (i:=j-1) (by rw[hidx]) (by omega)];by_cases h0:j=0
 ·subst h0;rw[if_neg (by simp[qN5]),qB8,if_pos (by omega)]
 ·rw[if_pos (zB0 hs (by omega) hj (by omega)),qB8,if_neg (by omega),show ((j:Int)-1).toNat=j-1 by omega,List.getElem?_eq_getElem (by omega)]
theorem zZ8:∀ (n:Nat) (xs:List UInt8),xs.length<n→Op.bytesLess xs (List.replicate n 255)=true
 | 0,xs,h=>by omega
 | n+1,[],_=>by simp[List.replicate,Op.bytesLess]
 | n+1,x::xs,h=>by
  have ih:=zZ8 n xs (by simpa using h);rw[zH5] at ih ⊢;simp only[List.replicate,decide_eq_true_eq] at ih ⊢;by_cases hx:x=255
  ·subst hx;exact List.Lex.cons ih
  ·exact List.Lex.rel (by
    have h1:x.toNat<256:=x.toNat_lt;have h2:x.toNat≠255:=fun e=>hx (by apply UInt8.toNat_inj.1;simpa using e);rw[UInt8.lt_iff_toNat_lt];show x.toNat<255;omega)
theorem xX9{p:KV}(h:qC6 p):inR ⟨#[]⟩ qM9 p=true:=by
 unfold inR;have h1:kl p.k ⟨#[]⟩=false:=qN4 _;have h2:kl p.k qM9=true:=by
  unfold kl;have e:qM9.toList=List.replicate 9 255:=by rw[ByteArray.toList_eq];rfl
  rw[e];refine zZ8 9 _ ?_;have h3:=h.2.1;rw[ByteArray.toList_eq,Array.length_toList];exact Nat.lt_of_le_of_lt h3 (by omega)
 rw[h1,h2];rfl
theorem xJ1{r:Root}(hg:RGood r)(hl:r.cont.length≤1000):qC0 r.cont=r.cont:=by
 have h1:∀ p∈r.cont,qC6 p:=by
  cases r with
  | none=>intro p hp;cases hp
  | «at» n L=>exact fun p hp=>((qK7 n _ _ hg.2.1).2 p hp).1
 unfold qC0 qE9;rw[List.filter_eq_self.2 (fun p hp=>xX9 (h1 p hp)),List.take_of_length_le (by have:(1048576:Int).toNat=1048576:=rfl;omega)]
theorem jD5(g F:Nat)(cap:Array Value)(p:KV)(b:Bool)(w:World)(hF:w.heap[F]?=some (.cells #[.func (.func g) #[] cap] 92))
  (hcf:∀ (args:Array Value) (W:World),Sem.run prog (callFunc g args) W=.ok (.enter g args) W)
  (hf:∀ W,Kp [] w W→Calls prog g (#[.string p.k]++cap) W fun e W'=>e=.returned (.bool b)∧Kp [] W W'):
  Calls prog 155 #[.agg #[.string p.k,.string p.v],.pointer (some ⟨F,0,none⟩)] w fun e w'=>e=.returned (.bool b)∧Kp [] w w':=by
 have HF:=zh hf;clear hf;have hFs:=ζ hF;have f0:=ξ hF 0;simp only[zG,zH,zI] at f0;go_enter func155,ntmps155;go_wp2_with fail;refine (HF.out _ ((Kp.refl _ _).alloc _)).mono ?_;rintro e w1 ⟨rfl,hK1⟩;have hK1':Kp [] w w1:=((Kp.refl _ _).alloc _).tr hK1;go_wp2;go_ret;exact⟨rfl,hK1'⟩
theorem jD6(g F:Nat)(cap:Array Value)(p:HL)(b:Bool)(w:World)(hF:w.heap[F]?=some (.cells #[.func (.func g) #[] cap] 92))
  (hcf:∀ (args:Array Value) (W:World),Sem.run prog (callFunc g args) W=.ok (.enter g args) W)
  (hf:∀ W,Kp [] w W→Calls prog g (#[.string p.key]++cap) W fun e W'=>e=.returned (.bool b)∧Kp [] W W'):
  Calls prog 156 #[.agg #[.string p.key,.int .i64 p.b,.int .u64 p.s,.pointer p.ptr],.pointer (some ⟨F,0,none⟩)] w fun e w'=>e=.returned (.bool b)∧Kp [] w w':=by
 have HF:=zh hf;clear hf;have hFs:=ζ hF;have f0:=ξ hF 0;simp only[zG,zH,zI] at f0;go_enter func156,ntmps156;go_wp2_with fail;refine (HF.out _ ((Kp.refl _ _).alloc _)).mono ?_;rintro e w1 ⟨rfl,hK1⟩;have hK1':Kp [] w w1:=((Kp.refl _ _).alloc _).tr hK1;go_wp2;go_ret;exact⟨rfl,hK1'⟩
theorem zE8(w:World)(o1 o2 o3 o4 o5:Obj):∃ w1,w1=((((w.alloc o1).alloc o2).alloc o3).alloc o4).alloc o5∧w1.heap[w.heap.size]?=some o1∧w1.heap[w.heap.size+1]?=some o2∧w1.heap[w.heap.size+1+1]?=some o3∧w1.heap[w.heap.size+1+1+1]?=some o4∧w1.heap[w.heap.size+1+1+1+1]?=some o5∧Kp [] w w1∧w1.heap.size=w.heap.size+5:=by
 refine⟨_,rfl,θ _ (θ _ (θ _ (θ _ (κ _ _)))),θ _ (θ _ (θ _ ?_)),θ _ (θ _ ?_),θ _ ?_,?_,(((((Kp.refl _ _).alloc _).alloc _).alloc _).alloc _).alloc _,by simp⟩
 ·have e:=κ (w.alloc o1) o2;simpa using e
 ·have e:=κ ((w.alloc o1).alloc o2) o3;simpa using e
 ·have e:=κ (((w.alloc o1).alloc o2).alloc o3) o4;simpa using e
 ·have e:=κ ((((w.alloc o1).alloc o2).alloc o3).alloc o4) o5;simpa using e
structure LBox(E:SEnv)(r:HL)(q g:Nat)(cap:Array Value)(N:Nat)(w:World):Prop where
 t:w.heap[N]?=some (.cells #[.pointer (some ⟨E.V,0,none⟩),.string r.key,.int .i64 r.b,.int .u64 r.s,.pointer r.ptr] 89)
 n:w.heap[N+1]?=some (.cells #[.pointer (some ⟨q,0,none⟩)] 85)
 f:w.heap[N+1+1]?=some (.cells #[.func (.func g) #[] cap] 92)
 p:w.heap[N+1+1+1]?=some (.cells #[.string ⟨#[]⟩,.string ⟨#[]⟩] 42)
 b:w.heap[N+1+1+1+1]?=some (.cells #[.bool false] 4)
theorem SEnv.storeX{E:SEnv}{w W W':World}{k:Nat}(hT:E.toEnv.To w W)(hk:w.heap.size≤k)(ho:∀ c t fr,W.heap[k]?=some (.cells c t fr)→t ∉ qK1)(hK:Kp [k] W W'):E.toEnv.To w W':=
 ⟨E.keepX W W' [k] hT.dev hK (fun i hi c t fr e=>by rw[List.mem_singleton.1 hi] at e;exact ho c t fr e),hT.kp.trans hK (by intro i hi hlt;simp at hi;omega)⟩
theorem jE2(E:SEnv)(r:HL)(l:Lnk (Tn 0))(q:Nat)(g:Nat)(cap:Array Value)(f:ByteArray→Bool)(w:World)(hd:E.Dev w)(hN:RN E.O 0 w q l.sub)(hg:Good 0 l.key l.sub)(hne:1≤Go.Proofs.YtdohpenfkdckiaaGreatDoor.cnt 0 l.sub)(hdn:qN8 f)(ha:Asks E.toEnv w g cap f)
  (hcf:∀ (args:Array Value) (W:World),Sem.run prog (callFunc g args) W=.ok (.enter g args) W):
  Calls prog 99 #[τ E.V r,.pointer (some ⟨q,0,none⟩),.func (.func g) #[] cap] w fun e w'=>e=.returned (qB5 (qB4 f (cont 0 l.sub)))∧E.toEnv.To w w':=by
 have hmf:=zM;have hcl:(prs l.sub).length≤10000:=qI4 0 l.key l.sub hg;have hne':1≤(prs l.sub).length:=hne;have hso:Sorted (prs l.sub):=hg.sorted;have HSO:=zh hso;have HD:=zh hd;have HA:=zh ha;have HDD:=zh hdn;have HDN:Hid (∀ i j (hi:i<(prs l.sub).length) (hj:j<(prs l.sub).length),i≤j→f (prs l.sub)[j].k=true→f (prs l.sub)[i].k=true):=by
  show ∀ i j (hi:i<(prs l.sub).length) (hj:j<(prs l.sub).length),_;intro i j hi hj hij hp;by_cases e:i=j
  ·subst e;exact hp
  ·exact hdn _ _ (List.pairwise_iff_getElem.1 hso i j hi hj (by omega)) hp
 obtain⟨vp,hq0,hsl0⟩:=hN;have hqs:=ζ hq0;have hqs1:q<w.heap.size+1:=by omega
 have hqs2:q<w.heap.size+1+1:=by omega
 have hqs3:q<w.heap.size+1+1+1:=by omega
 have hqs4:q<w.heap.size+1+1+1+1:=by omega
 have q0:=ξ hq0;simp only[υ,zG,zH,zI] at q0;clear hd hdn ha;rw[τ];go_enter func99,ntmps99;go_wp2_with fail;obtain⟨w1,hw1,hB1,hQ1,hF1,hP1,hb1,hK1,hs1⟩:=zE8 w (.cells #[.pointer (some ⟨E.V,0,none⟩),.string r.key,.int .i64 r.b,.int .u64 r.s,.pointer r.ptr] 89) (.cells #[.pointer (some ⟨q,0,none⟩)] 85) (.cells #[.func (.func g) #[] cap] 92) (.cells #[.string ⟨#[]⟩,.string ⟨#[]⟩] 42) (.cells #[.bool false] 4);rw[←hw1];clear hw1 q0 hqs hqs1 hqs2 hqs3 hqs4 hs1 hB1;have hT1:=Env.To.of0 HD.out hK1;have hq:=hK1.hp hq0;have hsl:=hsl0.keep0 hK1;clear hq0 hsl0;refine (jD9 155 _ vp (prs l.sub) (fun p=>f p.k) w1 hsl (by omega) HDN.out ?_ ?_).mono ?_
 ·intro args W;simp[go_sem,func155]
 ·intro W hKW i hi;exact jD5 g (w.heap.size+1+1) cap (prs l.sub)[i] (f (prs l.sub)[i].k) W (hKW.hp hF1) hcf (fun W' hK'=>HA.out W' _ ((hT1.tail hKW).tail hK'))
 rintro e w2 ⟨rfl,hK2⟩;have hT2:=hT1.tail hK2;have hQ2:=hK2.hp hQ1;have hF2:=hK2.hp hF1;have hP2:=hK2.hp hP1;have hb2:=hK2.hp hb1;have hq2:=hK2.hp hq;have hs2:=hsl.keep0 hK2;obtain⟨i,hi0⟩:∃ i,(prs l.sub).findIdx (fun p=>!f p.k)-1=i:=⟨_,rfl⟩;have hil:i<(prs l.sub).length:=by
  have:(prs l.sub).findIdx (fun p=>!f p.k)≤(prs l.sub).length:=List.findIdx_le_length;omega
 have HLL:Hid (qB4 f (prs l.sub)=if f (prs l.sub)[i].k then some (prs l.sub)[i] else none):=zY4 HDD.out HSO.out hi0 hil;rw[hi0];obtain⟨gb,off,cp,cur,fr,rfl,hcp,hrow,hcur⟩:=hs2.pair hne';obtain⟨c0,c1⟩:=hcur i hil;obtain⟨p,hp⟩:∃ p,(prs l.sub)[i]=p:=⟨_,rfl⟩;rw[hp] at c0 c1 HLL;obtain⟨m,hm⟩:∃ m,(prs l.sub).length=m:=⟨_,rfl⟩;rw[hm] at hq2 hcp;have hib:(i:Int)<(m:Int):=by omega
 have HT2:=zh hT2;have HP2:Hid (w2.heap[w.heap.size+1+1+1]?=some (.cells #[.string ⟨#[]⟩,.string ⟨#[]⟩] 42)∧w2.heap[w.heap.size+1+1+1+1]?=some (.cells #[.bool false] 4)):=⟨hP2,hb2⟩;clear hK2 hT2 hP1 hb1 hQ1 hF1 hq hsl hK1 hT1 hi0 hs2 hcur hp hP2 hb2;have hpc:=ξ hrow (off+i*2);rw[c0] at hpc;go_wp2_with fail;have hS0:w2.drew.heap[w.heap.size+1]?=some (.cells #[.pointer (some ⟨q,0,none⟩)] 85)∧w2.drew.heap[w.heap.size+1+1]?=some (.cells #[.func (.func g) #[] cap] 92)∧w2.drew.heap[q]?=some (υ 0 (.slice (some ⟨gb,off,none⟩) m cp) (.slice none 0 0))∧w2.drew.heap[gb]?=some (.cells cur 185 fr):=⟨hQ2,hF2,hq2,hrow⟩;refine wp_region_held_drew (S:=fun W=>W.heap[w.heap.size+1]?=some (.cells #[.pointer (some ⟨q,0,none⟩)] 85)∧W.heap[w.heap.size+1+1]?=some (.cells #[.func (.func g) #[] cap] 92)∧W.heap[q]?=some (υ 0 (.slice (some ⟨gb,off,none⟩) m cp) (.slice none 0 0))∧W.heap[gb]?=some (.cells cur 185 fr)) (by kernel_rfl) hS0 (fun _=>?_);refine zV 0 (.func (.func g) #[] cap) rfl (fun W hS=>by have c:=ξ hS.2.1 0;simp only[zG,zH] at c;clear hS;go_simp) hS0 ?_;refine zV 1 (.pointer (some ⟨q,0,none⟩)) rfl (fun W hS=>by have c:=ξ hS.1 0;simp only[zG,zH] at c;clear hS;go_simp) hS0 ?_;refine zP 2 q 0 hS0 ?_;refine zP 3 q 1 hS0 ?_;refine zV 4 (.slice (some ⟨gb,off,none⟩) m cp) rfl (fun W hS=>by have c:=ξ hS.2.2.1 1;simp[υ] at c;clear hS;go_simp) hS0 ?_;refine zU 5 (.int .i64 i) hS0 ?_;refine zU 6 (.pointer (some ⟨gb,off+i*2,none⟩)) hS0 ?_;refine zU 7 (.pointer (some ⟨gb,off+i*2,none⟩)) hS0 ?_;refine zU 8 (.pointer (some ⟨gb,off+i*2,none⟩)) hS0 ?_;refine zV 9 (.string p.k) rfl (fun W hS=>by have c:=ξ hS.2.2.2 (off+i*2);rw[c0] at c;clear hS;go_simp) hS0 ?_;refine zq 10 fun K hK=>?_;go_simp;refine (HA.out w2.drew p.k (HT2.out.tail ((Kp.refl _ _).drew))).mono ?_;rintro e w3 ⟨rfl,hK3⟩;have hK23:Kp [] w2 w3:=((Kp.refl [] w2).drew).tr hK3;have hS3:w3.heap[w.heap.size+1]?=some (.cells #[.pointer (some ⟨q,0,none⟩)] 85)∧w3.heap[w.heap.size+1+1]?=some (.cells #[.func (.func g) #[] cap] 92)∧w3.heap[q]?=some (υ 0 (.slice (some ⟨gb,off,none⟩) m cp) (.slice none 0 0))∧w3.heap[gb]?=some (.cells cur 185 fr):=⟨hK23.hp hQ2,hK23.hp hF2,hK23.hp hq2,hK23.hp hrow⟩;refine hK.out _ _ hS3 (fun _=>?_);clear hK K hS0
 try simp only[zZ]
 refine zd ?_;have HT3:Hid (E.toEnv.To w w3):=HT2.out.tail hK23;have HP3:Hid (w3.heap[w.heap.size+1+1+1]?=some (.cells #[.string ⟨#[]⟩,.string ⟨#[]⟩] 42)∧w3.heap[w.heap.size+1+1+1+1]?=some (.cells #[.bool false] 4)):=⟨hK23.hp HP2.out.1,hK23.hp HP2.out.2⟩;obtain⟨hQ3,_,hq3,hrow3⟩:=hS3;obtain⟨hP3,hb3⟩:=HP3.out;have hQs:=ζ hQ3;have hqs3:=ζ hq3;have hgs3:=ζ hrow3;have hPs3:=ζ hP3;have hbs3:=ζ hb3;have a0:=ξ hrow3 (off+i*2);rw[c0] at a0;have a1:=ξ hrow3 (off+i*2+1);rw[c1] at a1;have n0:=ξ hQ3 0;simp only[zG,zH,zI] at n0;have y1:=ξ hq3 1;simp only[υ,zG,zH,zI] at y1;have z0:=ξ hP3;have fz0:=μ hP3;have x0:=ξ hb3 0;simp only[zG,zH,zI] at x0;have fx0:=μ hb3 0;clear hK3 hK23 HT2 HP2 hQ2 hF2 hq2 hrow c0 c1 hpc hQ3 hq3 hrow3 hP3 hb3
 cases hfp:f p.k with
 | true=>
  rw[hfp] at HLL;go_wp2;have hts:=qD0 (.string p.k) (.string p.v) HP3.out.1;obtain⟨w4,hw4,hP4,hK4⟩:∃ w4,w4=(w3.setCell ⟨w.heap.size+1+1+1,0,none⟩ (.string p.k)).setCell ⟨w.heap.size+1+1+1,1,none⟩ (.string p.v)∧w4.heap[w.heap.size+1+1+1]?=some (.cells #[.string p.k,.string p.v] 42)∧Kp [w.heap.size+1+1+1] w3 w4:=⟨_,rfl,hts.1,hts.2⟩;have hb4:=hK4.hp HP3.out.2;have hT4:=HT3.out.store' (by omega) HP3.out.1 (by decide) hK4;rw[←hw4];have hb5:=φ hb4 0 (.bool true);have hP5:(w4.setCell ⟨w.heap.size+1+1+1+1,0,none⟩ (.bool true)).heap[w.heap.size+1+1+1]?=some (.cells #[.string p.k,.string p.v] 42):=(qA8 (by omega) _ _).trans hP4;have hT5:=SEnv.storeX hT4 (by omega) (fun c t fr e=>by rw[hb4] at e;cases e;decide) ((Kp.refl [w.heap.size+1+1+1+1] w4).setCell (p:=⟨w.heap.size+1+1+1+1,0,none⟩) (by simp) (.bool true));have t0:=ξ hP5 0;have t1:=ξ hP5 1;have t2:=ξ hb5 0;simp only[zG,zH,zI] at t0 t1;simp at t2;refine bodyPost_ret (v:=qB5 (some p)) ?_ rfl ⟨by rw[show cont 0 l.sub=prs l.sub from rfl,HLL.out];rfl,hT5⟩;simp[results,results99,go_sem,t0,t1,t2,qB5]
 | false=>
  rw[hfp] at HLL;go_wp2;have hts:=qD0 (.string ⟨#[]⟩) (.string ⟨#[]⟩) HP3.out.1;obtain⟨w4,hw4,hP4,hK4⟩:∃ w4,w4=(w3.setCell ⟨w.heap.size+1+1+1,0,none⟩ (.string ⟨#[]⟩)).setCell ⟨w.heap.size+1+1+1,1,none⟩ (.string ⟨#[]⟩)∧w4.heap[w.heap.size+1+1+1]?=some (.cells #[.string ⟨#[]⟩,.string ⟨#[]⟩] 42)∧Kp [w.heap.size+1+1+1] w3 w4:=⟨_,rfl,hts.1,hts.2⟩;have hb4:=hK4.hp HP3.out.2;have hT4:=HT3.out.store' (by omega) HP3.out.1 (by decide) hK4;rw[←hw4];have hb5:=φ hb4 0 (.bool false);have hP5:(w4.setCell ⟨w.heap.size+1+1+1+1,0,none⟩ (.bool false)).heap[w.heap.size+1+1+1]?=some (.cells #[.string ⟨#[]⟩,.string ⟨#[]⟩] 42):=(qA8 (by omega) _ _).trans hP4;have hT5:=SEnv.storeX hT4 (by omega) (fun c t fr e=>by rw[hb4] at e;cases e;decide) ((Kp.refl [w.heap.size+1+1+1+1] w4).setCell (p:=⟨w.heap.size+1+1+1+1,0,none⟩) (by simp) (.bool false));have t0:=ξ hP5 0;have t1:=ξ hP5 1;have t2:=ξ hb5 0;simp only[zG,zH,zI] at t0 t1;simp at t2;refine bodyPost_ret (v:=qB5 none) ?_ rfl ⟨by rw[show cont 0 l.sub=prs l.sub from rfl,HLL.out];rfl,hT5⟩;simp[results,results99,go_sem,t0,t1,t2,qB5]
end Go.Proofs.YtdohpenfkdckiaaGreatDoor
namespace Go.Proofs.YtdohpenfkdckiaaGreatDoor
open Go.Proofs.Tryz
open Go.RowKit
attribute [local go_sem] Oper.semAt_some
theorem xM5(p:Option Addr)(n c:Nat)(w:World):
  Calls prog 157 #[.slice p n c] w fun e w'=>e=.returned (.func (.func 220) #[] #[.pointer (some ⟨w.heap.size,0,none⟩)])∧w'=w.alloc (.cells #[.slice p n c] 156):=by
 have hmf:=zM;go_enter func157,ntmps157;go_wp2;go_ret;exact⟨rfl,rfl⟩
structure LS0(E:SEnv)(r:HL)(q g:Nat)(cap:Array Value)(lv:Int)(vl:Value)(N Sx gb off k cp:Nat)(cur:Array Value)(fr:Nat × Nat)(w:World):Prop extends LBox E r q g cap N w where
 q_:w.heap[q]?=some (υ lv (.slice none 0 0) vl)
 s_:w.heap[Sx]?=some (.cells #[.slice (some ⟨gb,off,none⟩) k cp] 156)
 g_:w.heap[gb]?=some (.cells cur 87 fr)
theorem LS0.to{E:SEnv}{r:HL}{q g:Nat}{cap:Array Value}{lv:Int}{vl:Value}{N Sx gb off k cp:Nat}{cur:Array Value}{fr:Nat × Nat}{w0 w w':World}(h:LS0 E r q g cap lv vl N Sx gb off k cp cur fr w)(hd0:E.Dev w0)(hN:w0.heap.size=N)(hS:N≤Sx)(hd:E.Dev w)(hT:E.toEnv.To w w'):LS0 E r q g cap lv vl N Sx gb off k cp cur fr w':=
 ⟨⟨hT.new hd0 (by omega) h.t,hT.new hd0 (by omega) h.n,hT.new hd0 (by omega) h.f,hT.new hd0 (by omega) h.p,hT.new hd0 (by omega) h.b⟩,hT.kp.heap h.q_ (fun hm=>E.apt _ hd _ hm _ _ _ h.q_ (by decide)),hT.new hd0 (by omega) h.s_,hT.kp.heap h.g_ (fun hm=>E.apt _ hd _ hm _ _ _ h.g_ (by decide))⟩
theorem LS0.kp{E:SEnv}{r:HL}{q g:Nat}{cap:Array Value}{lv:Int}{vl:Value}{N Sx gb off k cp M:Nat}{cur:Array Value}{fr:Nat × Nat}{w w':World}{L:List Nat}(h:LS0 E r q g cap lv vl N Sx gb off k cp cur fr w)(hK:Kp L w w')(hL:∀ k∈L,(∀ c t fr,w.heap[k]?≠some (.cells c t fr))∨M≤k)(h1:N+4<M)(h2:q<M)(h3:Sx<M)(h4:gb<M):LS0 E r q g cap lv vl N Sx gb off k cp cur fr w':=by
 have st:∀ {k:Nat} {c:Array Value} {t:TypeId} {fr:Nat × Nat},w.heap[k]?=some (.cells c t fr)→k<M→w'.heap[k]?=some (.cells c t fr):=fun hk hlt=>hK.heap hk (fun hm=>by
  rcases hL _ hm with e|e
  ·exact e _ _ _ hk
  ·omega)
 exact⟨⟨st h.t (by omega),st h.n (by omega),st h.f (by omega),st h.p (by omega),st h.b (by omega)⟩,st h.q_ h2,st h.s_ h3,st h.g_ h4⟩
structure LS(E:SEnv)(r x:HL)(q g:Nat)(cap:Array Value)(lv:Int)(vl:Value)(N Sx gb off k cp:Nat)(cur:Array Value)(fr:Nat × Nat)(X NR:Nat)(rec:Loop)(w:World):Prop extends LS0 E r q g cap lv vl N Sx gb off k cp cur fr w where
 x_:w.heap[X]?=some (qT3 x)
 l_:w.heap[NR+1]?=some (.loop rec)
 d_:w.heap[NR]?=some (.deferred (some []))
theorem LS.to{E:SEnv}{r x:HL}{q g:Nat}{cap:Array Value}{lv:Int}{vl:Value}{N Sx gb off k cp:Nat}{cur:Array Value}{fr:Nat × Nat}{X NR:Nat}{rec:Loop}{w0 w w':World}(h:LS E r x q g cap lv vl N Sx gb off k cp cur fr X NR rec w)(hd0:E.Dev w0)(hN:w0.heap.size=N)(hS:N≤Sx)(hX:N≤X)(hR:N≤NR)(hd:E.Dev w)(hT:E.toEnv.To w w'):LS E r x q g cap lv vl N Sx gb off k cp cur fr X NR rec w':=
 ⟨h.toLS0.to hd0 hN hS hd hT,hT.new hd0 (by omega) h.x_,hT.new hd0 (by omega) h.l_,hT.new hd0 (by omega) h.d_⟩
theorem LS.kp{E:SEnv}{r x:HL}{q g:Nat}{cap:Array Value}{lv:Int}{vl:Value}{N Sx gb off k cp:Nat}{cur:Array Value}{fr:Nat × Nat}{X NR M:Nat}{rec:Loop}{w w':World}{L:List Nat}(h:LS E r x q g cap lv vl N Sx gb off k cp cur fr X NR rec w)(hK:Kp L w w')(hL:∀ k∈L,M≤k)(h1:N+4<M)(h2:q<M)(h3:Sx<M)(h4:gb<M)(h5:X<M)(h6:NR+1<M):LS E r x q g cap lv vl N Sx gb off k cp cur fr X NR rec w':=
 ⟨h.toLS0.kp hK (fun k hk=>.inr (hL k hk)) h1 h2 h3 h4,hK.heap h.x_ (fun hm=>by have:=hL _ hm;omega),hK.heap h.l_ (fun hm=>by have:=hL _ hm;omega),hK.heap h.d_ (fun hm=>by have:=hL _ hm;omega)⟩
def LJ(E:SEnv)(n:Nat)(f:ByteArray→Bool)(ls:List (Lnk (Tn n)))(w0:World)(r:HL)(q g:Nat)(cap:Array Value)(lv:Int)(vl:Value)(N Sx gb off k cp:Nat)(cur:Array Value)(fr:Nat × Nat)(j:Nat)(W:World):Prop:=
 E.toEnv.To w0 W∧LS0 E r q g cap lv vl N Sx gb off k cp cur fr W∧qB4 f (((ls.take k).drop j).flatMap fun l=>cont n l.sub)=none
def LX(E:SEnv)(w0:World)(o:Option KV)(N:Nat)(W:World):Prop:=
 E.toEnv.To w0 W∧∃ p,o=some p∧W.heap[N+1+1+1]?=some (.cells #[.string p.k,.string p.v] 42)∧W.heap[N+1+1+1+1]?=some (.cells #[.bool true] 4)
theorem jE0(E:SEnv)(n:Nat)(g:Nat)(cap:Array Value)(f:ByteArray→Bool)(hdn:qN8 f)(hcf:∀ (args:Array Value) (W:World),Sem.run prog (callFunc g args) W=.ok (.enter g args) W)
  (ih:∀ (r:HL) (l:Lnk (Tn n)) (q:Nat) (w:World),E.Dev w→RN E.O n w q l.sub→Good n l.key l.sub→1≤cnt n l.sub→Asks E.toEnv w g cap f→Calls prog 99 #[τ E.V r,.pointer (some ⟨q,0,none⟩),.func (.func g) #[] cap] w fun e w'=>e=.returned (qB5 (qB4 f (cont n l.sub)))∧E.toEnv.To w w')
  (r:HL) (l:Lnk (Tn (n+1))) (q:Nat) (w:World) (hd:E.Dev w) (hN:RN E.O (n+1) w q l.sub) (hg:Good (n+1) l.key l.sub) (hne:1≤cnt (n+1) l.sub) (ha:Asks E.toEnv w g cap f):
  Calls prog 99 #[τ E.V r,.pointer (some ⟨q,0,none⟩),.func (.func g) #[] cap] w fun e w'=>e=.returned (qB5 (qB4 f (cont (n+1) l.sub)))∧E.toEnv.To w w':=by
 have hmf:=zM;have hcl:(η l.sub).length≤10000:=(qI4 (n+1) l.key l.sub hg).1;have hne':1≤(η l.sub).length:=hne;have HSK:Hid (qB4 f (cont (n+1) l.sub)=qB4 f (((η l.sub).take ((η l.sub).findIdx (fun l=>!f l.key)-1+1)).flatMap fun l=>cont n l.sub)):=jE4 hdn hg.row;have HGA:Hid (∀ z∈η l.sub,Good n z.key z.sub∧1≤cnt n z.sub):=fun z hz=>⟨(hg.all z hz).1,by have:=(hg.all z hz).2.1;omega⟩;have HPA:Hid ((η l.sub).Pairwise (qP6 n)):=hg.pair;have HDN:=zh hdn;have HD:=zh hd;have HA:=zh ha;have HIH:=ih;clear hd hdn ha hg hne ih;obtain⟨vl,hq0,hs,hsl0,hb0⟩:=hN;obtain⟨ls,hls⟩:∃ ls,η l.sub=ls:=⟨_,rfl⟩;rw[hls] at hb0 hcl hne' HSK HGA HPA;clear hls;have HBL:=zh hb0.1;have hhl:hs.length≤10000:=by rw[hb0.1];exact hcl
 have hh1:1≤hs.length:=by rw[hb0.1];exact hne'
 obtain⟨gb,off,cp,cur,fr,rfl,hcp,hrow0,hcur⟩:=hsl0.link hh1;obtain⟨lv,hlv⟩:∃ lv:Int,((n+1:Nat):Int)=lv:=⟨_,rfl⟩;rw[hlv] at hq0;have HLV:Hid (((n:Nat):Int)<lv):=by show _<_;omega
 have hlv0:¬lv=0:=by omega
 have hqs:=ζ hq0;have hqs1:q<w.heap.size+1:=by omega
 have hqs2:q<w.heap.size+1+1:=by omega
 have hqs3:q<w.heap.size+1+1+1:=by omega
 have hqs4:q<w.heap.size+1+1+1+1:=by omega
 have q0:=ξ hq0;simp only[υ,zG,zH,zI] at q0;have HB0:=zh hb0;have HSL0:=zh hsl0;have HCUR:=zh hcur;have HQG:Hid (q<w.heap.size∧gb<w.heap.size):=⟨hqs,ζ hrow0⟩;clear hb0 hsl0 hcur hlv;rw[τ];refine (callsIn_wide (n:=9)).1 ?_;refine callsIn_of_wp_marks func99 rfl trivial ?_ rfl;simp only[ntmps99,List.size_toArray,List.length_cons,List.length_nil,Nat.reduceAdd,Nat.reduceSub,Array.replicate_succ,Array.replicate_zero,List.push_toArray,List.append_toArray,List.nil_append,List.cons_append]
 gi_wp2_with fail
 refine⟨trivial,?_⟩;obtain⟨w1,hw1,hB1,hQ1,hF1,hP1,hb1,hK1,hs1⟩:=zE8 w (.cells #[.pointer (some ⟨E.V,0,none⟩),.string r.key,.int .i64 r.b,.int .u64 r.s,.pointer r.ptr] 89) (.cells #[.pointer (some ⟨q,0,none⟩)] 85) (.cells #[.func (.func g) #[] cap] 92) (.cells #[.string ⟨#[]⟩,.string ⟨#[]⟩] 42) (.cells #[.bool false] 4);rw[←hw1];clear hw1 q0 hqs hqs1 hqs2 hqs3 hqs4;have hT1:=Env.To.of0 HD.out hK1;have hq1:=hK1.hp hq0;have hsl1:=HSL0.out.keep0 hK1;have hrow1:=hK1.hp hrow0;have hmap:hs.findIdx (fun p=>!f p.key)=ls.findIdx (fun p=>!f p.key):=by
  have e:hs.map HL.key=ls.map Lnk.key:=HB0.out.map_eq fun x y hr=>hr.1;have h1:∀ (l:List HL),l.findIdx (fun l=>!f l.key)=(l.map HL.key).findIdx (fun k=>!f k):=fun l=>by rw[List.findIdx_map];rfl
  have h2:∀ (l:List (Lnk (Tn n))),l.findIdx (fun l=>!f l.key)=(l.map Lnk.key).findIdx (fun k=>!f k):=fun l=>by rw[List.findIdx_map];rfl
  rw[h1,h2,e]
 have hdn':∀ i j (hi:i<hs.length) (hj:j<hs.length),i≤j→f hs[j].key=true→f hs[i].key=true:=by
  intro i j hi hj hij hp;by_cases e:i=j
  ·subst e;exact hp
  ·exact HDN.out _ _ ((qW6 HB0.out HPA.out).at hi hj (by omega)) hp
 obtain⟨i,hi0⟩:∃ i,ls.findIdx (fun p=>!f p.key)-1=i:=⟨_,rfl⟩;have hil:i<hs.length:=by
  have:ls.findIdx (fun p=>!f p.key)≤ls.length:=List.findIdx_le_length;have:=HBL.out;omega
 refine callsIn_wide.2 ((zG5 156 #[.pointer (some ⟨w.heap.size+1+1,0,none⟩)] (.slice (some ⟨gb,off,none⟩) hs.length cp) hs (fun p=>f p.key) w1 hsl1 (by omega) hdn' (fun args W=>by simp[go_sem,func156])
   (fun W2 hK2 j hj=>jD6 g (w.heap.size+1+1) cap hs[j] (f hs[j].key) W2 (hK2.hp hF1) hcf (fun W' hK'=>HA.out W' _ ((hT1.tail hK2).tail hK')))).mono ?_)
 rintro e w2 ⟨rfl,hK2⟩;rw[hmap,hi0];have HI0:=zh hi0;have hT2:=hT1.tail hK2;have HLB:Hid (LBox E r q g cap w.heap.size w2):=⟨hK2.hp hB1,hK2.hp hQ1,hK2.hp hF1,hK2.hp hP1,hK2.hp hb1⟩;have hQ2:=HLB.out.n;have hq2:=hK2.hp hq1;have HT2:=zh hT2;have HQ2:Hid (w2.heap[q]?=some (υ lv (.slice none 0 0) (.slice (some ⟨gb,off,none⟩) hs.length cp))∧w2.heap[gb]?=some (.cells cur 87 fr)):=⟨hq2,hK2.hp hrow1⟩;have hQs2:=ζ hQ2;have hqs2:=ζ hq2;have n0:=ξ hQ2 0;simp only[zG,zH,zI] at n0;have y2:=ξ hq2 2;simp only[υ,zG,zH,zI] at y2;obtain⟨k,hk⟩:∃ k:Nat,k=i+1:=⟨_,rfl⟩;have hk1:(k:Int)≤(hs.length:Int):=by omega
 have hk2:(k:Int)≤(cp:Int):=by omega
 have hncp:(hs.length:Int)≤(cp:Int):=by omega
 have HK:Hid (k=i+1∧i<hs.length∧hs.length≤cp):=⟨hk,hil,hcp⟩;have hsz2:=hK2.size;have hwi:wrap64 ((i:Int)+1)=(k:Int):=by simp only[wrap64];omega
 clear hk hil hcp;have HS1:=zh hs1;clear hK2 hT2 hT1 hK1 hB1 hQ1 hF1 hP1 hb1 hs1 hq1 hsl1 hrow1 hmap hdn' hi0 hQ2 hq2 hq0 hrow0
 gi_wp2_with fail
 refine⟨trivial,?_⟩;refine callsIn_wide.2 ((xM5 _ _ _ w2).mono ?_);rintro e w3 ⟨rfl,hw3⟩;have hS3:w3.heap[w2.heap.size]?=some (.cells #[.slice (some ⟨gb,off,none⟩) k cp] 156):=by rw[hw3];exact κ _ _
 have hK3:Kp [] w2 w3:=by rw[hw3];exact (Kp.refl _ _).alloc _
 have HT3:Hid (E.toEnv.To w w3):=HT2.out.tail hK3;have HL3:Hid (LS0 E r q g cap lv (.slice (some ⟨gb,off,none⟩) hs.length cp) w.heap.size w2.heap.size gb off k cp cur fr w3):=⟨⟨hK3.hp HLB.out.t,hK3.hp HLB.out.n,hK3.hp HLB.out.f,hK3.hp HLB.out.p,hK3.hp HLB.out.b⟩,hK3.hp HQ2.out.1,hS3,hK3.hp HQ2.out.2⟩;have hsw:w.heap.size+5≤w2.heap.size:=by have:=HS1.out;omega
 have hs3:w3.heap.size=w2.heap.size+1:=by rw[hw3];simp
 obtain⟨Sx,hSx⟩:∃ Sx,Sx=w2.heap.size:=⟨_,rfl⟩;rw[←hSx] at HL3 hsw hs3 ⊢;clear hw3 hS3 hK3 hSx n0 y2 hk1 hk2 hncp hwi hQs2 hqs2 HLB HQ2 HT2 hsz2 HS1
 gi_wp2_with fail
 have hkk1:k≤i+1:=by have:=HK.out;omega
 have hkk2:i+1≤k:=by have:=HK.out;omega
 have hkk3:i<hs.length:=HK.out.2.1;have hkk4:hs.length≤cp:=HK.out.2.2;have hs3a:Sx+1≤w3.heap.size:=by omega
 have hqb:q<w.heap.size:=HQG.out.1;have hgbb:gb<w.heap.size:=HQG.out.2;clear hs3;refine jQ7 Sx gb off k cp cur fr hs (by decide) (by omega) (by omega) (by omega) rfl rfl HCUR.out (LJ E n f ls w r q g cap lv (.slice (some ⟨gb,off,none⟩) hs.length cp) w.heap.size Sx gb off k cp cur fr) (LX E w (qB4 f (cont (n+1) l.sub)) w.heap.size) ?JK ?JxK (fun i W h=>⟨h.2.1.s_,h.2.1.g_⟩) ?J0 (fun j x X=>{ tmps:=#[.agg #[.pointer (some ⟨E.V,0,none⟩),.string r.key,.int .i64 r.b,.int .u64 r.s,.pointer r.ptr],.pointer (some ⟨q,0,none⟩),.func (.func g) #[] cap,.pointer (some ⟨w.heap.size,0,none⟩),.pointer (some ⟨w.heap.size+1,0,none⟩),.pointer (some ⟨w.heap.size+1+1,0,none⟩),.pointer (some ⟨w.heap.size+1+1+1,0,none⟩),.pointer (some ⟨w.heap.size+1+1+1+1,0,none⟩),undef,.int .i64 i,undef,.pointer (some ⟨X,0,none⟩),undef,undef,.pointer (some ⟨q,0,none⟩),.pointer (some ⟨q,0,none⟩),.pointer (some ⟨q,0,none⟩),.int .i64 lv,.bool false,undef,undef,undef,undef,undef,undef,undef,undef,undef,undef,undef,undef,undef,undef,undef,undef,undef,undef,undef,undef,undef,undef,undef,undef,undef,undef,.pointer (some ⟨q,0,none⟩),.pointer (some ⟨q,0,none⟩),.pointer (some ⟨q,2,none⟩),.slice (some ⟨gb,off,none⟩) hs.length cp,.func (.func 156) #[] #[.pointer (some ⟨w.heap.size+1+1,0,none⟩)],.int .i64 i,.pointer (some ⟨q,0,none⟩),.pointer (some ⟨q,0,none⟩),.pointer (some ⟨q,2,none⟩),.slice (some ⟨gb,off,none⟩) hs.length cp,.int .i64 i,.int .i64 (wrap64 (i+1)),.slice (some ⟨gb,off,none⟩) k cp,.func (.func 220) #[] #[.pointer (some ⟨Sx,0,none⟩)],.int .i64 j,qV8 x,undef,undef,undef,undef,undef,undef,undef,undef,undef,undef,undef,undef,undef,undef,undef,undef],defers:=[] }) ?assign ?body ?done ?stop
 case JK=>
  rintro j W W' ⟨h1,h2,h3⟩ hK ⟨rec,hr⟩;have hno:∀ c t fr,W.heap[w3.heap.size+1]?≠some (.cells c t fr):=fun c t fr e=>by rw[hr] at e;cases e
  exact⟨SEnv.storeX h1 (by omega) (fun c t fr e=>absurd e (hno c t fr)) hK,h2.kp (M:=w3.heap.size) hK (fun k hk=>.inl (by rw[List.mem_singleton.1 hk];exact hno)) (by omega) (by omega) (by omega) (by omega),h3⟩
 case JxK=>
  rintro W W' ⟨h1,p,h2,h3,h4⟩ hK ⟨rec,hr⟩;have hno:∀ c t fr,W.heap[w3.heap.size+1]?≠some (.cells c t fr):=fun c t fr e=>by rw[hr] at e;cases e
  exact⟨SEnv.storeX h1 (by omega) (fun c t fr e=>absurd e (hno c t fr)) hK,p,h2,hK.ho h3,hK.ho h4⟩
 case J0=>
  intro W hK;refine⟨HT3.out.tail hK,HL3.out.kp (M:=w3.heap.size) hK (by simp) (by omega) (by omega) (by omega) (by omega),?_⟩;rw[List.drop_eq_nil_of_le (by simp;omega)];rfl
 case assign=>
  intro lp j hj W K hK;obtain⟨x,hx⟩:∃ x,hs[j]=x:=⟨_,rfl⟩;rw[hx] at hK ⊢;clear hx;have HKK:=hK;clear hK;rw[qV8];have hfin:=HKK (W.alloc (qT3 x)) (κ _ _) ((Kp.refl _ _).alloc _);rw[qV8,qT3] at hfin;clear HKK
  gi_wp2
  exact hfin
 case body=>
  rintro lp j hj W X ⟨hTW,hLW,hnone⟩ hX hXl ⟨rec,hr⟩ hdf;have hjl:j<ls.length:=by have:=HBL.out;omega
  obtain⟨z,hz⟩:∃ z,ls[j]?=some z:=⟨_,List.getElem?_eq_getElem hjl⟩;obtain⟨hlt',hze⟩:=List.getElem?_eq_some_iff.1 hz;have hrx:=HB0.out.2 j (by omega) hlt';rw[hze] at hrx;obtain⟨x,hxe⟩:∃ x,hs[j]=x:=⟨_,rfl⟩;rw[hxe] at hX hrx ⊢;have hRX:RL E.O n W x z:=Env.RL hrx HD.out hTW;have HZG:Hid (Good n z.key z.sub∧1≤cnt n z.sub):=HGA.out z (List.mem_of_getElem? hz);have HNO:=zh hnone;have HST:Hid (((ls.take k).drop j).flatMap (fun l=>cont n l.sub)=cont n z.sub++((ls.take k).drop (j+1)).flatMap (fun l=>cont n l.sub)):=by
   show _=_;have hjt:j<(ls.take k).length:=by have:=HBL.out;simp;omega
   rw[List.drop_eq_getElem_cons hjt,List.flatMap_cons]
   congr 1
   have:(ls.take k)[j]=z:=by
    rw[List.getElem_take];exact (List.getElem?_eq_some_iff.1 hz).2
   rw[this]
  have HSPL:Hid (ls.take (ls.findIdx (fun l=>!f l.key)-1+1)=(ls.take k).take j++(ls.take k).drop j):=by
   show _=_;rw[List.take_append_drop,HI0.out,HK.out.1]
  have HLP:Hid (W.heap[w3.heap.size+1]?=some (.loop rec)∧W.heap[w3.heap.size]?=some (.deferred (some []))):=⟨hr,hdf⟩;have HNS:Hid (w.heap.size≤Sx∧w.heap.size≤X∧w.heap.size≤w3.heap.size):=⟨by omega,by omega,by omega⟩;obtain⟨fk,fv,fb,hfv⟩:∃ fk fv fb,qB5 (qB4 f (cont n z.sub))=.tuple #[.agg #[.string fk,.string fv],.bool fb]:=by
   cases qB4 f (cont n z.sub) with
   | none=>exact⟨_,_,_,rfl⟩
   | some p=>exact⟨_,_,_,rfl⟩
  have HFV:=zh hfv;have hSd:LS E r x q g cap lv (.slice (some ⟨gb,off,none⟩) hs.length cp) w.heap.size Sx gb off k cp cur fr X w3.heap.size rec W.drew:=⟨⟨⟨hLW.t,hLW.n,hLW.f,hLW.p,hLW.b⟩,hLW.q_,hLW.s_,hLW.g_⟩,hX,hr,hdf⟩;have hTd:E.toEnv.To w W.drew:=hTW.tail ((Kp.refl _ _).drew);have hRXd:RL E.O n W.drew x z:=RL.keep hRX ((Kp.refl [] _).drew) (Apt.nil _ _);have hXs:X<W.heap.size:=ζ hX;clear hfv hz hze hrx hxe hRX hnone hX hr hdf hTW hLW
  gi_wp2_with fail
  refine jQ9 (S:=LS E r x q g cap lv (.slice (some ⟨gb,off,none⟩) hs.length cp) w.heap.size Sx gb off k cp cur fr X w3.heap.size rec) (by kernel_rfl) (by kernel_rfl) ?_ hSd (fun _=>?_)
  ·rintro⟨_,_,h⟩;exact h
  refine zV 0 (.agg #[.pointer (some ⟨E.V,0,none⟩),.string r.key,.int .i64 r.b,.int .u64 r.s,.pointer r.ptr]) rfl (fun W hS=>by have a0:=ξ hS.t;clear hS;go_simp) hSd ?_;refine zV 1 (.agg #[.pointer (some ⟨E.V,0,none⟩),.string r.key,.int .i64 r.b,.int .u64 r.s,.pointer r.ptr]) rfl (fun W hS=>by have a0:=ξ hS.t;clear hS;go_simp) hSd ?_;refine zV 2 (.agg #[.string x.key,.int .i64 x.b,.int .u64 x.s,.pointer x.ptr]) rfl (fun W hS=>by have a0:=ξ hS.x_ 0;have a1:=ξ hS.x_ 1;have a2:=ξ hS.x_ 2;have a3:=ξ hS.x_ 3;simp only[qT3,zG,zH,zI] at a0 a1 a2 a3;clear hS;go_simp) hSd ?_;refine zV 3 (.pointer (some ⟨q,0,none⟩)) rfl (fun W hS=>by have c:=ξ hS.n 0;simp only[zG,zH] at c;clear hS;go_simp) hSd ?_;refine zP 4 q 0 hSd ?_;refine zP 5 q 0 hSd ?_;refine zV 6 (.int .i64 lv) rfl (fun W hS=>by have c:=ξ hS.q_ 0;simp[υ] at c;clear hS;go_simp) hSd ?_;refine zV 8 (.func (.func g) #[] cap) rfl (fun W hS=>by have c:=ξ hS.f 0;simp only[zG,zH] at c;clear hS;go_simp) hSd ?_;refine zr 7 13 (fun K hK=>?_) fun K hK=>?_
  ·go_simp;refine (qI1 E.toEnv n x r z lv W.drew hTd.dev hRXd HLV.out).mono ?_;rintro e w4 ⟨q1,rfl,hN1,hTn⟩;have hT4:=hTd.trans hTn;have hS4:=hSd.to HD.out rfl HNS.out.1 HNS.out.2.1 HNS.out.2.2 hTd.dev hTn;refine hK.out _ _ hS4 (fun _=>?_);clear hK K
   try simp only[zZ]
   refine zr 9 13 (fun K hK=>?_) fun K hK=>?_
   ·go_simp;refine (HIH r z q1 w4 hT4.dev hN1 HZG.out.1 HZG.out.2 (HA.out.to hT4)).mono ?_;rintro e w5 ⟨rfl,hTn⟩;rw[HFV.out];have hT5:=hT4.trans hTn;have hS5:=hS4.to HD.out rfl HNS.out.1 HNS.out.2.1 HNS.out.2.2 hT4.dev hTn;refine hK.out _ _ hS5 (fun _=>?_);clear hK K
    try simp only[zZ]
    refine zU 10 (.tuple #[.agg #[.string fk,.string fv],.bool fb]) hS5 ?_;refine zU 11 (.agg #[.string fk,.string fv]) hS5 ?_;refine zU 12 (.bool fb) hS5 ?_;refine zq 13 fun K hK=>?_;go_simp;have hlb:X<w5.heap.size:=ζ hS5.x_;obtain⟨w6,hwa,hP6,hKa⟩:∃ w',w'=w5.alloc (.cells #[.string ⟨#[]⟩,.string ⟨#[]⟩] 42)∧w'.heap[w5.heap.size]?=some (.cells #[.string ⟨#[]⟩,.string ⟨#[]⟩] 42)∧Kp [] w5 w':=⟨_,rfl,κ _ _,(Kp.refl _ w5).alloc _⟩;rw[←hwa];clear hwa;have hT6:=hT5.tail hKa;have hS6:=hS5.kp (M:=w5.heap.size) hKa (by simp) (by omega) (by omega) (by omega) (by omega) (by omega) (by omega);refine hK.out _ _ hS6 (fun _=>?_);clear hK K
    try simp only[zZ]
    have hPs:=ζ hP6;have z0:=ξ hP6;have fz0:=μ hP6;refine zq 14 fun K hK=>?_;go_simp;have hts:=qD0 (.string fk) (.string fv) hP6;obtain⟨w7,hw7,hP7,hK7⟩:∃ w7,w7=(w6.setCell ⟨w5.heap.size,0,none⟩ (.string fk)).setCell ⟨w5.heap.size,1,none⟩ (.string fv)∧w7.heap[w5.heap.size]?=some (.cells #[.string fk,.string fv] 42)∧Kp [w5.heap.size] w6 w7:=⟨_,rfl,hts.1,hts.2⟩;rw[←hw7];clear hw7 hts z0 fz0;have hT7:=SEnv.storeX hT6 (by omega) (fun c t fr e=>by rw[hP6] at e;cases e;decide) hK7;have hS7:=hS6.kp (M:=w5.heap.size) hK7 (by simp) (by omega) (by omega) (by omega) (by omega) (by omega) (by omega);refine hK.out _ _ hS7 (fun _=>?_);clear hK K
    try simp only[zZ]
    refine zq 15 fun K hK=>?_;go_simp;refine hK.out _ _ hS7 (fun _=>?_);clear hK K
    try simp only[zZ]
    refine zd ?_;have HT7:=zh hT7;have HS7:=zh hS7;have HP7:=zh hP7;have hPs7:=ζ hP7;have hp7:=hS7.p;have hb7:=hS7.b;have hps7:=ζ hp7;have hbs7:=ζ hb7;have z0:=ξ hP7;have x0:=ξ hp7;have fx0:=μ hp7;have v0:=ξ hb7 0;simp only[zG,zH,zI] at v0;have fv'0:=μ hb7 0;clear hT7 hS7 hP7 hp7 hb7 hK7 hT6 hS6 hP6 hTn hN1 hKa
    cases hfd:qB4 f (cont n z.sub) with
    | none=>
     have hfv:=HFV.out;rw[hfd] at hfv;simp only[qB5,Value.tuple.injEq,Array.mk.injEq,List.cons.injEq,Value.agg.injEq,Value.string.injEq,Value.bool.injEq,and_true] at hfv;obtain⟨⟨rfl,rfl⟩,rfl⟩:=hfv;have HFD:=zh hfd;clear hfd HFV
     gi_wp2
     refine⟨⟨HT7.out,HS7.out.toLS0,?_⟩,HS7.out.l_.trans HLP.out.1.symm,HS7.out.d_.trans HLP.out.2.symm⟩;rw[HST.out,qK8,HNO.out,HFD.out];rfl
    | some p=>
     have hfv:=HFV.out;rw[hfd] at hfv;simp only[qB5,Value.tuple.injEq,Array.mk.injEq,List.cons.injEq,Value.agg.injEq,Value.string.injEq,Value.bool.injEq,and_true] at hfv;obtain⟨⟨rfl,rfl⟩,rfl⟩:=hfv;have HFD:=zh hfd;clear hfd HFV
     gi_wp2
     have hts:=qD0 (.string p.k) (.string p.v) HS7.out.p;obtain⟨w8,hw8,hP8,hK8⟩:∃ w8,w8=(w7.setCell ⟨w.heap.size+1+1+1,0,none⟩ (.string p.k)).setCell ⟨w.heap.size+1+1+1,1,none⟩ (.string p.v)∧w8.heap[w.heap.size+1+1+1]?=some (.cells #[.string p.k,.string p.v] 42)∧Kp [w.heap.size+1+1+1] w7 w8:=⟨_,rfl,hts.1,hts.2⟩;rw[←hw8];have hb8:=hK8.hp HS7.out.b;have hT8:=SEnv.storeX HT7.out (by omega) (fun c t fr e=>by rw[HS7.out.p] at e;cases e;decide) hK8;have hK9:Kp [w.heap.size+1+1+1+1] w8 (w8.setCell ⟨w.heap.size+1+1+1+1,0,none⟩ (.bool true)):=(Kp.refl _ _).sc _;have hT9:=SEnv.storeX hT8 (by omega) (fun c t fr e=>by rw[hb8] at e;cases e;decide) hK9;have hl9:=hK9.heap (hK8.ho HS7.out.l_) (by simp;omega);have hd9:=hK9.heap (hK8.ho HS7.out.d_) (by simp;omega);refine⟨⟨hT9,p,?_,hK9.hp hP8,φ hb8 0 _⟩,hl9.trans HLP.out.1.symm,hd9.trans HLP.out.2.symm⟩;rw[HSK.out,HSPL.out,List.flatMap_append,qK8,HST.out,qK8,HNO.out,HFD.out];rfl
   ·go_simp;have hlb:X<w4.heap.size:=ζ hS4.x_;obtain⟨w5,hwa,hP5,hKa⟩:∃ w',w'=w4.alloc (.cells #[.string ⟨#[]⟩,.string ⟨#[]⟩] 42)∧w'.heap[w4.heap.size]?=some (.cells #[.string ⟨#[]⟩,.string ⟨#[]⟩] 42)∧Kp [] w4 w':=⟨_,rfl,κ _ _,(Kp.refl _ w4).alloc _⟩;rw[←hwa];clear hwa;have hT5:=hT4.tail hKa;have hS5:=hS4.kp (M:=w4.heap.size) hKa (by simp) (by omega) (by omega) (by omega) (by omega) (by omega) (by omega);refine hK.out _ _ hS5 (fun _=>?_);clear hK K
    try simp only[zZ]
    have hN1b:=RN.keep hKa (Apt.nil _ _) n q1 _ hN1;clear hN1;have hN1:=hN1b;refine zq 9 fun K hK=>?_;go_simp;refine (HIH r z q1 w5 hT5.dev hN1 HZG.out.1 HZG.out.2 (HA.out.to hT5)).mono ?_;rintro e w6 ⟨rfl,hTn⟩;rw[HFV.out];have hT6:=hT5.trans hTn;have hS6:=hS5.to HD.out rfl HNS.out.1 HNS.out.2.1 HNS.out.2.2 hT5.dev hTn;refine hK.out _ _ hS6 (fun _=>?_);clear hK K
    try simp only[zZ]
    have hP6:=hTn.new HD.out (by omega) hP5;refine zU 10 (.tuple #[.agg #[.string fk,.string fv],.bool fb]) hS6 ?_;refine zU 11 (.agg #[.string fk,.string fv]) hS6 ?_;refine zU 12 (.bool fb) hS6 ?_;have hPs:=ζ hP6;have z0:=ξ hP6;have fz0:=μ hP6;refine zq 14 fun K hK=>?_;go_simp;have hts:=qD0 (.string fk) (.string fv) hP6;obtain⟨w7,hw7,hP7,hK7⟩:∃ w7,w7=(w6.setCell ⟨w4.heap.size,0,none⟩ (.string fk)).setCell ⟨w4.heap.size,1,none⟩ (.string fv)∧w7.heap[w4.heap.size]?=some (.cells #[.string fk,.string fv] 42)∧Kp [w4.heap.size] w6 w7:=⟨_,rfl,hts.1,hts.2⟩;rw[←hw7];clear hw7 hts z0 fz0;have hT7:=SEnv.storeX hT6 (by omega) (fun c t fr e=>by rw[hP6] at e;cases e;decide) hK7;have hS7:=hS6.kp (M:=w4.heap.size) hK7 (by simp) (by omega) (by omega) (by omega) (by omega) (by omega) (by omega);refine hK.out _ _ hS7 (fun _=>?_);clear hK K
    try simp only[zZ]
    refine zq 15 fun K hK=>?_;go_simp;refine hK.out _ _ hS7 (fun _=>?_);clear hK K
    try simp only[zZ]
    refine zd ?_;have HT7:=zh hT7;have HS7:=zh hS7;have HP7:=zh hP7;have hPs7:=ζ hP7;have hp7:=hS7.p;have hb7:=hS7.b;have hps7:=ζ hp7;have hbs7:=ζ hb7;have z0:=ξ hP7;have x0:=ξ hp7;have fx0:=μ hp7;have v0:=ξ hb7 0;simp only[zG,zH,zI] at v0;have fv'0:=μ hb7 0;clear hT7 hS7 hP7 hp7 hb7 hK7 hT6 hS6 hP6 hTn hN1 hKa
    cases hfd:qB4 f (cont n z.sub) with
    | none=>
     have hfv:=HFV.out;rw[hfd] at hfv;simp only[qB5,Value.tuple.injEq,Array.mk.injEq,List.cons.injEq,Value.agg.injEq,Value.string.injEq,Value.bool.injEq,and_true] at hfv;obtain⟨⟨rfl,rfl⟩,rfl⟩:=hfv;have HFD:=zh hfd;clear hfd HFV
     gi_wp2
     refine⟨⟨HT7.out,HS7.out.toLS0,?_⟩,HS7.out.l_.trans HLP.out.1.symm,HS7.out.d_.trans HLP.out.2.symm⟩;rw[HST.out,qK8,HNO.out,HFD.out];rfl
    | some p=>
     have hfv:=HFV.out;rw[hfd] at hfv;simp only[qB5,Value.tuple.injEq,Array.mk.injEq,List.cons.injEq,Value.agg.injEq,Value.string.injEq,Value.bool.injEq,and_true] at hfv;obtain⟨⟨rfl,rfl⟩,rfl⟩:=hfv;have HFD:=zh hfd;clear hfd HFV
     gi_wp2
     have hts:=qD0 (.string p.k) (.string p.v) HS7.out.p;obtain⟨w8,hw8,hP8,hK8⟩:∃ w8,w8=(w7.setCell ⟨w.heap.size+1+1+1,0,none⟩ (.string p.k)).setCell ⟨w.heap.size+1+1+1,1,none⟩ (.string p.v)∧w8.heap[w.heap.size+1+1+1]?=some (.cells #[.string p.k,.string p.v] 42)∧Kp [w.heap.size+1+1+1] w7 w8:=⟨_,rfl,hts.1,hts.2⟩;rw[←hw8];have hb8:=hK8.hp HS7.out.b;have hT8:=SEnv.storeX HT7.out (by omega) (fun c t fr e=>by rw[HS7.out.p] at e;cases e;decide) hK8;have hK9:Kp [w.heap.size+1+1+1+1] w8 (w8.setCell ⟨w.heap.size+1+1+1+1,0,none⟩ (.bool true)):=(Kp.refl _ _).sc _;have hT9:=SEnv.storeX hT8 (by omega) (fun c t fr e=>by rw[hb8] at e;cases e;decide) hK9;have hl9:=hK9.heap (hK8.ho HS7.out.l_) (by simp;omega);have hd9:=hK9.heap (hK8.ho HS7.out.d_) (by simp;omega);refine⟨⟨hT9,p,?_,hK9.hp hP8,φ hb8 0 _⟩,hl9.trans HLP.out.1.symm,hd9.trans HLP.out.2.symm⟩;rw[HSK.out,HSPL.out,List.flatMap_append,qK8,HST.out,qK8,HNO.out,HFD.out];rfl
  ·go_simp;obtain⟨w4,hwa,hP4,hKa⟩:∃ w',w'=(W.alloc (.cells #[.string ⟨#[]⟩,.string ⟨#[]⟩] 42)).drew∧w'.heap[W.heap.size]?=some (.cells #[.string ⟨#[]⟩,.string ⟨#[]⟩] 42)∧Kp [] W.drew w':=⟨_,rfl,κ _ _,(Kp.refl _ W.drew).alloc _⟩;rw[←hwa];clear hwa;have hT4:=hTd.tail hKa;have hS4:=hSd.kp (M:=W.heap.size) hKa (by simp) (by omega) (by omega) (by omega) (by omega) (by omega) (by omega);refine hK.out _ _ hS4 (fun _=>?_);clear hK K
   try simp only[zZ]
   have hRX4:=RL.keep hRXd hKa (Apt.nil _ _);refine zq 7 fun K hK=>?_;go_simp;refine (qI1 E.toEnv n x r z lv w4 hT4.dev hRX4 HLV.out).mono ?_;rintro e w5 ⟨q1,rfl,hN1,hTn⟩;have hT5:=hT4.trans hTn;have hS5:=hS4.to HD.out rfl HNS.out.1 HNS.out.2.1 HNS.out.2.2 hT4.dev hTn;refine hK.out _ _ hS5 (fun _=>?_);clear hK K
   try simp only[zZ]
   have hP5:=hTn.new HD.out (by omega) hP4;refine zq 9 fun K hK=>?_;go_simp;refine (HIH r z q1 w5 hT5.dev hN1 HZG.out.1 HZG.out.2 (HA.out.to hT5)).mono ?_;rintro e w6 ⟨rfl,hTn⟩;rw[HFV.out];have hT6:=hT5.trans hTn;have hS6:=hS5.to HD.out rfl HNS.out.1 HNS.out.2.1 HNS.out.2.2 hT5.dev hTn;refine hK.out _ _ hS6 (fun _=>?_);clear hK K
   try simp only[zZ]
   have hP6:=hTn.new HD.out (by omega) hP5;have hlb:X<W.heap.size:=hXs;refine zU 10 (.tuple #[.agg #[.string fk,.string fv],.bool fb]) hS6 ?_;refine zU 11 (.agg #[.string fk,.string fv]) hS6 ?_;refine zU 12 (.bool fb) hS6 ?_;have hPs:=ζ hP6;have z0:=ξ hP6;have fz0:=μ hP6;refine zq 14 fun K hK=>?_;go_simp;have hts:=qD0 (.string fk) (.string fv) hP6;obtain⟨w7,hw7,hP7,hK7⟩:∃ w7,w7=(w6.setCell ⟨W.heap.size,0,none⟩ (.string fk)).setCell ⟨W.heap.size,1,none⟩ (.string fv)∧w7.heap[W.heap.size]?=some (.cells #[.string fk,.string fv] 42)∧Kp [W.heap.size] w6 w7:=⟨_,rfl,hts.1,hts.2⟩;rw[←hw7];clear hw7 hts z0 fz0;have hT7:=SEnv.storeX hT6 (by omega) (fun c t fr e=>by rw[hP6] at e;cases e;decide) hK7;have hS7:=hS6.kp (M:=W.heap.size) hK7 (by simp) (by omega) (by omega) (by omega) (by omega) (by omega) (by omega);refine hK.out _ _ hS7 (fun _=>?_);clear hK K
   try simp only[zZ]
   refine zq 15 fun K hK=>?_;go_simp;refine hK.out _ _ hS7 (fun _=>?_);clear hK K
   try simp only[zZ]
   refine zd ?_;have HT7:=zh hT7;have HS7:=zh hS7;have HP7:=zh hP7;have hPs7:=ζ hP7;have hp7:=hS7.p;have hb7:=hS7.b;have hps7:=ζ hp7;have hbs7:=ζ hb7;have z0:=ξ hP7;have x0:=ξ hp7;have fx0:=μ hp7;have v0:=ξ hb7 0;simp only[zG,zH,zI] at v0;have fv'0:=μ hb7 0;clear hT7 hS7 hP7 hp7 hb7 hK7 hT6 hS6 hP6 hTn hN1 hKa
   cases hfd:qB4 f (cont n z.sub) with
   | none=>
    have hfv:=HFV.out;rw[hfd] at hfv;simp only[qB5,Value.tuple.injEq,Array.mk.injEq,List.cons.injEq,Value.agg.injEq,Value.string.injEq,Value.bool.injEq,and_true] at hfv;obtain⟨⟨rfl,rfl⟩,rfl⟩:=hfv;have HFD:=zh hfd;clear hfd HFV
    gi_wp2
    refine⟨⟨HT7.out,HS7.out.toLS0,?_⟩,HS7.out.l_.trans HLP.out.1.symm,HS7.out.d_.trans HLP.out.2.symm⟩;rw[HST.out,qK8,HNO.out,HFD.out];rfl
   | some p=>
    have hfv:=HFV.out;rw[hfd] at hfv;simp only[qB5,Value.tuple.injEq,Array.mk.injEq,List.cons.injEq,Value.agg.injEq,Value.string.injEq,Value.bool.injEq,and_true] at hfv;obtain⟨⟨rfl,rfl⟩,rfl⟩:=hfv;have HFD:=zh hfd;clear hfd HFV
    gi_wp2
    have hts:=qD0 (.string p.k) (.string p.v) HS7.out.p;obtain⟨w8,hw8,hP8,hK8⟩:∃ w8,w8=(w7.setCell ⟨w.heap.size+1+1+1,0,none⟩ (.string p.k)).setCell ⟨w.heap.size+1+1+1,1,none⟩ (.string p.v)∧w8.heap[w.heap.size+1+1+1]?=some (.cells #[.string p.k,.string p.v] 42)∧Kp [w.heap.size+1+1+1] w7 w8:=⟨_,rfl,hts.1,hts.2⟩;rw[←hw8];have hb8:=hK8.hp HS7.out.b;have hT8:=SEnv.storeX HT7.out (by omega) (fun c t fr e=>by rw[HS7.out.p] at e;cases e;decide) hK8;have hK9:Kp [w.heap.size+1+1+1+1] w8 (w8.setCell ⟨w.heap.size+1+1+1+1,0,none⟩ (.bool true)):=(Kp.refl _ _).sc _;have hT9:=SEnv.storeX hT8 (by omega) (fun c t fr e=>by rw[hb8] at e;cases e;decide) hK9;have hl9:=hK9.heap (hK8.ho HS7.out.l_) (by simp;omega);have hd9:=hK9.heap (hK8.ho HS7.out.d_) (by simp;omega);refine⟨⟨hT9,p,?_,hK9.hp hP8,φ hb8 0 _⟩,hl9.trans HLP.out.1.symm,hd9.trans HLP.out.2.symm⟩;rw[HSK.out,HSPL.out,List.flatMap_append,qK8,HST.out,qK8,HNO.out,HFD.out];rfl
 case done=>
  rintro W ⟨hTW,hLW,hnone⟩ hD;have hps:=ζ hLW.p;have hbs:=ζ hLW.b;have hp:=hLW.p;have hb:=hLW.b;have z0:=ξ hp;have fz0:=μ hp;have v0:=ξ hb 0;simp only[zG,zH,zI] at v0;have fv0:=μ hb 0;have HW:Hid (E.toEnv.To w W∧W.heap[w.heap.size+1+1+1]?=some (.cells #[.string ⟨#[]⟩,.string ⟨#[]⟩] 42)∧W.heap[w.heap.size+1+1+1+1]?=some (.cells #[.bool false] 4)∧W.heap[w3.heap.size]?=some (.deferred (some []))∧qB4 f (((ls.take k).drop 0).flatMap fun l=>cont n l.sub)=none):=⟨hTW,hp,hb,hD,hnone⟩;clear hTW hLW hnone hD hp hb
  gi_wp2
  obtain⟨hTW,hp,hb,hD,hnone⟩:=HW.out;have hans:qB4 f (cont (n+1) l.sub)=none:=by
   rw[HSK.out,HI0.out,←HK.out.1];simpa using hnone
  rw[hans];have hts:=qD0 (.string ⟨#[]⟩) (.string ⟨#[]⟩) hp;obtain⟨w4,hw4,hP4,hK4⟩:∃ w4,w4=(W.setCell ⟨w.heap.size+1+1+1,0,none⟩ (.string ⟨#[]⟩)).setCell ⟨w.heap.size+1+1+1,1,none⟩ (.string ⟨#[]⟩)∧w4.heap[w.heap.size+1+1+1]?=some (.cells #[.string ⟨#[]⟩,.string ⟨#[]⟩] 42)∧Kp [w.heap.size+1+1+1] W w4:=⟨_,rfl,hts.1,hts.2⟩;rw[←hw4];have hb4:=hK4.hp hb;have hD4:=hK4.ho hD;have hT4:=SEnv.storeX hTW (by omega) (fun c t fr e=>by rw[hp] at e;cases e;decide) hK4;obtain⟨w5,hw5,hK5⟩:∃ w5,w5=w4.setCell ⟨w.heap.size+1+1+1+1,0,none⟩ (.bool false)∧Kp [w.heap.size+1+1+1+1] w4 w5:=⟨_,rfl,(Kp.refl _ _).sc _⟩;have hb5:w5.heap[w.heap.size+1+1+1+1]?=some (.cells #[.bool false] 4):=by rw[hw5];exact φ hb4 0 _
  rw[←hw5];have hP5:=hK5.hp hP4;have hD5:=hK5.ho hD4;have hT5:=SEnv.storeX hT4 (by omega) (fun c t fr e=>by rw[hb4] at e;cases e;decide) hK5;refine⟨by simp,.inl ⟨_,_,rfl,run_takeDeferred hD5,?_⟩⟩;have hK6:Kp [w3.heap.size] w5 (w5.putObj w3.heap.size (.deferred none)):=(Kp.refl _ _).putObj (by simp) _;have hP6:=hK6.ho hP5;have hb6:=hK6.ho hb5;have hT6:=SEnv.storeX hT5 (by omega) (fun c t fr e=>by rw[hD5] at e;cases e) hK6;have t0:=ξ hP6 0;have t1:=ξ hP6 1;have t2:=ξ hb6 0;simp only[zG,zH,zI] at t0 t1 t2;refine⟨qB5 (none),?_,rfl,hT6⟩;simp[results,results99,go_sem,t0,t1,t2,qB5]
 case stop=>
  rintro W ⟨hTW,p,hp,hPW,hbW⟩ hD;have HW:Hid (E.toEnv.To w W∧qB4 f (cont (n+1) l.sub)=some p∧W.heap[w.heap.size+1+1+1]?=some (.cells #[.string p.k,.string p.v] 42)∧W.heap[w.heap.size+1+1+1+1]?=some (.cells #[.bool true] 4)∧W.heap[w3.heap.size]?=some (.deferred (some []))):=⟨hTW,hp,hPW,hbW,hD⟩;clear hTW hp hPW hbW hD
  gi_wp2
  obtain⟨hT5,hans,hP5,hb5,hD5⟩:=HW.out;rw[hans];obtain⟨w5,hw5⟩:∃ w5,w5=W:=⟨_,rfl⟩;rw[←hw5] at hT5 hP5 hb5 hD5 ⊢;refine⟨by simp,.inl ⟨_,_,rfl,run_takeDeferred hD5,?_⟩⟩;have hK6:Kp [w3.heap.size] w5 (w5.putObj w3.heap.size (.deferred none)):=(Kp.refl _ _).putObj (by simp) _;have hP6:=hK6.ho hP5;have hb6:=hK6.ho hb5;have hT6:=SEnv.storeX hT5 (by omega) (fun c t fr e=>by rw[hD5] at e;cases e) hK6;have t0:=ξ hP6 0;have t1:=ξ hP6 1;have t2:=ξ hb6 0;simp only[zG,zH,zI] at t0 t1 t2;refine⟨qB5 (some p),?_,rfl,hT6⟩;simp[results,results99,go_sem,t0,t1,t2,qB5]
end Go.Proofs.YtdohpenfkdckiaaGreatDoor
namespace Go.Proofs.YtdohpenfkdckiaaGreatDoor
open Go.Proofs.Tryz
open Go.RowKit
theorem jE3(E:SEnv)(g:Nat)(cap:Array Value)(f:ByteArray→Bool)(hdn:qN8 f)(hcf:∀ (args:Array Value) (W:World),Sem.run prog (callFunc g args) W=.ok (.enter g args) W):∀ (n:Nat) (r:HL) (l:Lnk (Tn n)) (q:Nat) (w:World),E.Dev w→RN E.O n w q l.sub→Good n l.key l.sub→1≤cnt n l.sub→Asks E.toEnv w g cap f→
  Calls prog 99 #[τ E.V r,.pointer (some ⟨q,0,none⟩),.func (.func g) #[] cap] w fun e w'=>e=.returned (qB5 (qB4 f (cont n l.sub)))∧E.toEnv.To w w':=by
 intro n
 induction n with
 | zero=>intro r l q w hd hr hg hc ha;exact jE2 E r l q g cap f w hd hr hg hc hdn ha hcf
 | succ n ih=>intro r l q w hd hr hg hc ha;exact jE0 E n g cap f hdn hcf (fun r l q w hd hr hg h1 ha=>ih r l q w hd hr hg h1 ha) r l q w hd hr hg hc ha
theorem xD6(E:SEnv)(r:Root)(h:HL)(g:Nat)(cap:Array Value)(f:ByteArray→Bool)(w:World)(hd:E.Dev w)(hR:RR E.toEnv w h r)(hg:RGood r)(hup:qN8 f)(ha:Asks E.toEnv w g cap f)
  (hcf:∀ (args:Array Value) (W:World),Sem.run prog (callFunc g args) W=.ok (.enter g args) W):
  Calls prog 55 #[τ E.V h,.func (.func g) #[] cap] w fun e w'=>e=.returned (qB5 (qB4 f r.cont))∧E.toEnv.To w w':=by
 have HD:=zh hd;have HRR:=zh hR;have HG:=zh hg;have HA:=zh ha;have HUP:=zh hup;clear hd hR hg ha hup;rw[τ];go_enter func55,ntmps55;go_wp2_with fail;obtain⟨w0,hw0,hB0,hR0,hK0,hs0⟩:∃ w0,w0=(w.alloc (.cells #[.pointer (some ⟨E.V,0,none⟩),.string h.key,.int .i64 h.b,.int .u64 h.s,.pointer h.ptr] 89)).alloc (.cells #[.string ⟨#[]⟩,.string ⟨#[]⟩] 42)∧w0.heap[w.heap.size]?=some (.cells #[.pointer (some ⟨E.V,0,none⟩),.string h.key,.int .i64 h.b,.int .u64 h.s,.pointer h.ptr] 89)∧w0.heap[w.heap.size+1]?=some (.cells #[.string ⟨#[]⟩,.string ⟨#[]⟩] 42)∧Kp [] w w0∧w0.heap.size=w.heap.size+2:=by
  refine⟨_,rfl,θ _ (κ _ _),?_,((Kp.refl _ _).alloc _).alloc _,by simp⟩;have e:=κ (w.alloc (.cells #[.pointer (some ⟨E.V,0,none⟩),.string h.key,.int .i64 h.b,.int .u64 h.s,.pointer h.ptr] 89)) (.cells #[.string ⟨#[]⟩,.string ⟨#[]⟩] 42);simpa using e
 rw[←hw0];clear hw0;have hT0:=Env.To.of0 HD.out hK0
 cases r with
 | none=>
  have hh:h=⟨⟨#[]⟩,0,0,none⟩:=HRR.out;have hem:Calls prog 92 #[τ E.V h] w0 fun e w'=>e=.returned (.bool true)∧Kp [] w0 w':=by rw[hh];exact qV3 E.V w0
  have HEM:=zh hem;clear hh hem;refine (show Calls _ _ _ _ _ from HEM.out).mono ?_;rintro e w1 ⟨rfl,hK1⟩;have hT1:=hT0.tail hK1;have hR1:=hK1.hp hR0;have hRs:=ζ hR1;have z0:=ξ hR1;have fz0:=μ hR1;have HR1:=zh hR1;clear hR1 hB0 hR0 hK0 hK1 hT0;go_wp2;have hts:=qD0 (.string ⟨#[]⟩) (.string ⟨#[]⟩) HR1.out;have hT3:=hT1.store' (by omega) HR1.out (by decide) hts.2;have t0:=ξ hts.1 0;have t1:=ξ hts.1 1;simp only[zG,zH,zI] at t0 t1;refine bodyPost_ret (v:=qB5 none) ?_ rfl ⟨rfl,hT3⟩;simp[results,results55,go_sem,t0,t1,qB5]
 | «at» n l=>
  have hRL:RL E.O n w h l:=HRR.out;obtain⟨g1,g2,g3⟩:=HG.out;refine (qV2 E.toEnv n h l w0 (Env.RL hRL HD.out hT0) g1).mono ?_;rintro e w1 ⟨rfl,hK1⟩;have hT1:=hT0.tail hK1;have hB1:=hK1.hp hB0;have hR1:=hK1.hp hR0;have HRL1:Hid (RL E.O n w1 h l):=Env.RL hRL HD.out hT1;have HG2:=zh g2;have hc1:1≤cnt n l.sub:=by omega
  obtain⟨fk,fv,fb,hfv⟩:∃ fk fv fb,qB5 (qB4 f (cont n l.sub))=.tuple #[.agg #[.string fk,.string fv],.bool fb]:=by
   cases qB4 f (cont n l.sub) with
   | none=>exact⟨_,_,_,rfl⟩
   | some p=>exact⟨_,_,_,rfl⟩
  have HFV:=zh hfv;clear hB0 hR0 hK0 hT0 hK1 hfv hRL g2;go_wp2_with fail;have hS0:w1.heap[w.heap.size]?=some (.cells #[.pointer (some ⟨E.V,0,none⟩),.string h.key,.int .i64 h.b,.int .u64 h.s,.pointer h.ptr] 89):=hB1;refine wp_region_held_drew (S:=fun W=>W.heap[w.heap.size]?=some (.cells #[.pointer (some ⟨E.V,0,none⟩),.string h.key,.int .i64 h.b,.int .u64 h.s,.pointer h.ptr] 89)) (by kernel_rfl) hS0 (fun _=>?_);refine zW 0 (.agg #[.pointer (some ⟨E.V,0,none⟩),.string h.key,.int .i64 h.b,.int .u64 h.s,.pointer h.ptr]) hS0 id ?_;refine zW 1 (.agg #[.pointer (some ⟨E.V,0,none⟩),.string h.key,.int .i64 h.b,.int .u64 h.s,.pointer h.ptr]) hS0 id ?_;refine zU 3 (.func (.func g) #[] cap) hS0 ?_;refine zq 2 fun K hK=>?_;go_simp;have hTd:E.toEnv.To w w1.drew:=hT1.tail ((Kp.refl _ _).drew);refine (qU1 E.toEnv n h l w1.drew hTd.dev (RL.keep HRL1.out ((Kp.refl [] _).drew) (Apt.nil _ _))).mono ?_;rintro e w2 ⟨q,rfl,hN2,hTn⟩;have hT2:=hTd.trans hTn;have hS2:=hTn.new (k:=w.heap.size) HD.out (by omega) hS0;have hR2:=hTn.new (k:=w.heap.size+1) HD.out (by omega) hR1;refine hK.out _ _ hS2 (fun _=>?_);clear hK K
  try simp only[zZ]
  clear hTn hTd hS0 hR1 hB1;refine zq 4 fun K hK=>?_;go_simp;refine (jE3 E g cap f HUP.out hcf n h l q w2 hT2.dev hN2 HG2.out hc1 (HA.out.to hT2)).mono ?_;rintro e w3 ⟨rfl,hTn⟩;rw[HFV.out];have hT3:=hT2.trans hTn;have hS3:=hTn.new (k:=w.heap.size) HD.out (by omega) hS2;have hR3:=hTn.new (k:=w.heap.size+1) HD.out (by omega) hR2;refine hK.out _ _ hS3 (fun _=>?_);clear hK K
  try simp only[zZ]
  clear hTn hS2 hR2;refine zU 5 (.agg #[.string fk,.string fv]) hS3 ?_;refine zU 6 (.bool fb) hS3 ?_;have hRs:=ζ hR3;have z0:=ξ hR3;have fz0:=μ hR3;refine zq 7 fun K hK=>?_;go_simp;have hts:=qD0 (.string fk) (.string fv) hR3;obtain⟨w4,hw4,hR4,hK4⟩:∃ w4,w4=(w3.setCell ⟨w.heap.size+1,0,none⟩ (.string fk)).setCell ⟨w.heap.size+1,1,none⟩ (.string fv)∧w4.heap[w.heap.size+1]?=some (.cells #[.string fk,.string fv] 42)∧Kp [w.heap.size+1] w3 w4:=⟨_,rfl,hts.1,hts.2⟩;rw[←hw4];clear hw4 hts z0 fz0;have hT4:=hT3.store' (by omega) hR3 (by decide) hK4;have hS4:=hK4.hp hS3;refine hK.out _ _ hS4 (fun _=>?_);clear hK K
  try simp only[zZ]
  refine zq 8 fun K hK=>?_;go_simp;refine hK.out _ _ hS4 (fun _=>?_);clear hK K
  try simp only[zZ]
  refine zd ?_;have HT4:=zh hT4;clear hS4 hS3 hT4 hT3 hK4 hR3;go_wp2;have t0:=ξ hR4 0;have t1:=ξ hR4 1;simp only[zG,zH,zI] at t0 t1;refine bodyPost_ret (v:=.tuple #[.agg #[.string fk,.string fv],.bool fb]) ?_ rfl ⟨?_,HT4.out⟩
  ·simp[results,results55,go_sem,t0,t1]
  ·rw[show (Root.at n l).cont=cont n l.sub from rfl,HFV.out]
def qB6(x:Nat)(key:ByteArray)(since:Int):Obj:=.cells #[.pointer (some ⟨x,0,none⟩),.string key,.int .u64 since] 80
structure MvIn(E:SEnv)(Fb Cc Ff P B Cb x g:Nat)(capf:Array Value)(fh:Bool)(key:ByteArray)(since:Int)(t:Tx)(w:World):Prop where
 hFb:w.heap[Fb]?=some (.cells #[.bool fh] 4)
 hCc:w.heap[Cc]?=some (.cells #[.pointer (some ⟨Cb,0,none⟩)] 36)
 hFf:w.heap[Ff]?=some (.cells #[.func (.func g) #[] capf] 93)
 hP:w.heap[P]?=some (.cells #[.string ⟨#[]⟩,.string ⟨#[]⟩] 42)
 hB:w.heap[B]?=some (.cells #[.bool false] 4)
 hCb:w.heap[Cb]?=some (qB6 x key since)
 hx:w.heap[x]?=some (χ t)
 on:t.on=some ⟨E.V,0,none⟩
 dev:E.Dev w
 ne:Fb≠B
theorem jH0(E:SEnv)(Fb Cc Ff P B Cb x g:Nat)(capf:Array Value)(key:ByteArray)(since:Int)(t:Tx)(w:World)(h:MvIn E Fb Cc Ff P B Cb x g capf true key since t w)(hk:key.toList.isEmpty=true∨since≠t.ch):
  Calls prog 91 #[.pointer (some ⟨Fb,0,none⟩),.pointer (some ⟨Cc,0,none⟩),.pointer (some ⟨Ff,0,none⟩),.pointer (some ⟨P,0,none⟩),.pointer (some ⟨B,0,none⟩)] w fun e w'=>e=qC4 (some 11)∧Kp [] w w':=by
 have hFb:=h.hFb;have hCc:=h.hCc;have hCb:=h.hCb;have hx:=h.hx;have h1:=ζ hFb;have h2:=ζ hCc;have h3:=ζ hCb;have h4:=ζ hx;have f0:=ξ hFb 0;simp only[zG,zH,zI] at f0;have c0:=ξ hCc 0;simp only[zG,zH,zI] at c0;have b0:=ξ hCb 0;have b1:=ξ hCb 1;have b2:=ξ hCb 2;simp only[qB6,zG,zH,zI] at b0 b1 b2;have x9:=ξ hx 9;simp only[χ,zG,zH,zI] at x9;clear h hFb hCc hCb hx
 cases hk0:key.toList.isEmpty with
 | true=>
  clear hk;go_enter func91,ntmps91;go_wp2_with fail
  go_quiet (fail)
  go_wp2;exact⟨rfl,rfl,rfl,(Kp.refl _ _).drewN _⟩
 | false=>
  have hs:¬since=t.ch:=by
   rcases hk with h|h
   ·rw[h] at hk0;cases hk0
   ·exact h
  clear hk;go_enter func91,ntmps91;go_wp2_with fail
  go_quiet (fail)
  go_wp2;exact⟨rfl,rfl,rfl,(Kp.refl _ _).drewN _⟩
structure MvS(Cc Ff Cb x g:Nat)(capf:Array Value)(t:Tx)(w:World):Prop where
 c:w.heap[Cc]?=some (.cells #[.pointer (some ⟨Cb,0,none⟩)] 36)
 f:w.heap[Ff]?=some (.cells #[.func (.func g) #[] capf] 93)
 b:∃ k s,w.heap[Cb]?=some (qB6 x k s)
 x_:w.heap[x]?=some (χ t)
theorem MvS.kp{Cc Ff Cb x g:Nat}{capf:Array Value}{t:Tx}{w w':World}{L:List Nat}(h:MvS Cc Ff Cb x g capf t w)(hK:Kp L w w')(hL:∀ k∈L,∀ c u fr,w.heap[k]?=some (.cells c u fr)→u=42∨u=4∨u=38∨u∈qK1):MvS Cc Ff Cb x g capf t w':=by
 have st:∀ {k:Nat} {c:Array Value} {u:TypeId} {fr:Nat × Nat},w.heap[k]?=some (.cells c u fr)→(u≠42∧u≠4∧u≠38∧u ∉ qK1)→w'.heap[k]?=some (.cells c u fr):=fun hk hu=>hK.heap hk (fun hm=>by
  rcases hL _ hm _ _ _ hk with e|e|e|e
  ·exact hu.1 e
  ·exact hu.2.1 e
  ·exact hu.2.2.1 e
  ·exact hu.2.2.2 e)
 obtain⟨k,s,hb⟩:=h.b;exact⟨st h.c (by decide),st h.f (by decide),⟨k,s,st hb (by decide)⟩,st h.x_ (by decide)⟩
theorem MvS.to{E:SEnv}{Cc Ff Cb x g:Nat}{capf:Array Value}{t:Tx}{w w':World}(h:MvS Cc Ff Cb x g capf t w)(hd:E.Dev w)(hT:E.toEnv.To w w'):MvS Cc Ff Cb x g capf t w':=by
 obtain⟨k,s,hb⟩:=h.b;exact⟨E.stay hd hT h.c (by decide),E.stay hd hT h.f (by decide),⟨k,s,E.stay hd hT hb (by decide)⟩,E.stay hd hT h.x_ (by decide)⟩
theorem jG9(E:SEnv)(Fb Cc Ff P B Cb x g:Nat)(capf:Array Value)(fh:Bool)(key:ByteArray)(since:Int)(t:Tx)(o:Option KV)(w:World)(h:MvIn E Fb Cc Ff P B Cb x g capf fh key since t w)(hk:fh=true→key.toList.isEmpty=false∧since=t.ch)
  (hcf:∀ (args:Array Value) (W:World),Sem.run prog (callFunc g args) W=.ok (.enter g args) W)
  (hfind:∀ W,E.toEnv.To w W→Calls prog g (#[τ E.V t.h]++capf) W fun e W'=>e=.returned (qB5 o)∧E.toEnv.To W W'):
  Calls prog 91 #[.pointer (some ⟨Fb,0,none⟩),.pointer (some ⟨Cc,0,none⟩),.pointer (some ⟨Ff,0,none⟩),.pointer (some ⟨P,0,none⟩),.pointer (some ⟨B,0,none⟩)] w fun e w'=>e=qC4 none∧w'.heap[P]?=some (.cells #[.string (pkv o).k,.string (pkv o).v] 42)∧w'.heap[B]?=some (.cells #[.bool o.isSome] 4)∧w'.heap[Cb]?=some (qB6 x (pkv o).k t.ch)∧∃ w1,E.toEnv.To w w1∧Kp [P,B,Cb] w1 w':=by
 have HD:=zh h.dev;have HS:Hid (MvS Cc Ff Cb x g capf t w):=⟨h.hCc,h.hFf,⟨_,_,h.hCb⟩,h.hx⟩;have HP:Hid (w.heap[P]?=some (.cells #[.string ⟨#[]⟩,.string ⟨#[]⟩] 42)∧w.heap[B]?=some (.cells #[.bool false] 4)):=⟨h.hP,h.hB⟩;have HFI:=zh hfind;have hon:=h.on;obtain⟨fk,fv,fb,hfv,hfo⟩:∃ fk fv fb,qB5 o=.tuple #[.agg #[.string fk,.string fv],.bool fb]∧(pkv o).k=fk∧(pkv o).v=fv∧o.isSome=fb:=by
  cases o with
  | none=>exact⟨_,_,_,rfl,rfl,rfl,rfl⟩
  | some p=>exact⟨_,_,_,rfl,rfl,rfl,rfl⟩
 have HFV:=zh hfv;rw[hfo.1,hfo.2.1,hfo.2.2];have hFb:=h.hFb;have hCc:=h.hCc;have hCb:=h.hCb;have hx:=h.hx;have h1:=ζ hFb;have h2:=ζ hCc;have h3:=ζ hCb;have h4:=ζ hx;have f0:=ξ hFb 0;simp only[zG,zH,zI] at f0;have c0:=ξ hCc 0;simp only[zG,zH,zI] at c0;have b0:=ξ hCb 0;have b1:=ξ hCb 1;have b2:=ξ hCb 2;simp only[qB6,zG,zH,zI] at b0 b1 b2;have x9:=ξ hx 9;simp only[χ,zG,zH,zI] at x9;clear h hFb hCc hCb hx hfind hfv hfo
 cases fh with
 | false=>
  clear hk;go_enter func91,ntmps91;go_wp2_with fail
  go_quiet (fail)
  go_wp2_with fail;clear f0 c0 b0 b1 b2 x9;refine wp_region_held_drew (S:=MvS Cc Ff Cb x g capf t) (by kernel_rfl) (HS.out.kp (((Kp.refl [] w).drewN nq).drew) (by simp)) (fun hSd=>?_);refine zV 0 (.func (.func g) #[] capf) rfl (fun W hS=>by have c:=ξ hS.f 0;simp only[zG,zH] at c;clear hS;go_simp) hSd ?_;refine zV 1 (.pointer (some ⟨Cb,0,none⟩)) rfl (fun W hS=>by have c:=ξ hS.c 0;simp only[zG,zH] at c;clear hS;go_simp) hSd ?_;refine zP 2 Cb 0 hSd ?_;refine zP 3 Cb 0 hSd ?_;refine zV 4 (.pointer (some ⟨x,0,none⟩)) rfl (fun W hS=>by obtain⟨k',s',hb⟩:=hS.b;have c:=ξ hb 0;simp only[qB6,zG,zH] at c;clear hS hb;go_simp) hSd ?_;refine zP 5 x 0 hSd ?_;refine zP 6 x 4 hSd ?_;refine zV 7 (τ E.V t.h) rfl (fun W hS=>by have a0:=ξ hS.x_ 4;have a1:=ξ hS.x_ 5;have a2:=ξ hS.x_ 6;have a3:=ξ hS.x_ 7;have a4:=ξ hS.x_ 8;simp only[χ,hon,zG,zH,zI] at a0 a1 a2 a3 a4;clear hS;rw[τ];go_simp) hSd ?_;refine zq 8 fun K hK=>?_;go_simp;obtain⟨Wd,hWd⟩:∃ Wd,Wd=w.drewN (nq+1):=⟨_,rfl⟩;rw[←hWd];have hKd:Kp [] w Wd:=by rw[hWd];exact (Kp.refl [] w).drewN _
  clear hWd hSd;have hTd:=Env.To.of0 HD.out hKd;refine (HFI.out Wd hTd).mono ?_;rintro e w2 ⟨rfl,hT2⟩;have hT2':=hTd.trans hT2;have hS2:=(HS.out.to HD.out hT2');have hP2:=E.stay HD.out hT2' HP.out.1 (by decide);have hB2:=E.stay HD.out hT2' HP.out.2 (by decide);rw[HFV.out];refine hK.out _ _ hS2 (fun _=>?_);clear hK K
  try simp only[zZ]
  refine zU 9 (.tuple #[.agg #[.string fk,.string fv],.bool fb]) hS2 ?_;refine zU 10 (.agg #[.string fk,.string fv]) hS2 ?_;refine zU 11 (.bool fb) hS2 ?_;have hP2s:=ζ hP2;have v0:=ξ hP2;have fv'0:=μ hP2;refine zq 12 fun K hK=>?_;go_simp;have hts:=qD0 (.string fk) (.string fv) hP2;obtain⟨w3,hw3,hP3,hK3⟩:∃ w3,w3=(w2.setCell ⟨P,0,none⟩ (.string fk)).setCell ⟨P,1,none⟩ (.string fv)∧w3.heap[P]?=some (.cells #[.string fk,.string fv] 42)∧Kp [P] w2 w3:=⟨_,rfl,hts.1,hts.2⟩;rw[←hw3];clear hw3 hts v0 fv'0;have hS3:=hS2.kp hK3 (fun k hk c u fr e=>by rw[List.mem_singleton.1 hk,hP2] at e;cases e;simp);have hB3:=hK3.heap hB2 (by simp;exact qA7 hB2 hP2 (by decide));refine hK.out _ _ hS3 (fun _=>?_);clear hK K
  try simp only[zZ]
  have hB3s:=ζ hB3;have b0:=ξ hB3 0;simp only[zG,zH,zI] at b0;have fb'0:=μ hB3 0;refine zq 13 fun K hK=>?_;go_simp;obtain⟨w4,hw4,hB4,hK4⟩:∃ w4,w4=w3.setCell ⟨B,0,none⟩ (.bool fb)∧w4.heap[B]?=some (.cells #[.bool fb] 4)∧Kp [B] w3 w4:=⟨_,rfl,φ hB3 0 _,(Kp.refl _ _).sc _⟩;rw[←hw4];clear hw4 b0 fb'0;have hS4:=hS3.kp hK4 (fun k hk c u fr e=>by rw[List.mem_singleton.1 hk,hB3] at e;cases e;simp);have hP4:=hK4.heap hP3 (by simp;exact qA7 hP3 hB3 (by decide));refine hK.out _ _ hS4 (fun _=>?_);clear hK K
  try simp only[zZ]
  refine zd ?_;have HT2:Hid (E.toEnv.To w w2∧Kp [P,B] w2 w4):=⟨hT2',(hK3.mono (S':=[P,B]) (by simp +contextual)).trans hK4 (by simp +contextual)⟩;have HB4:=zh hB4;have HP4:=zh hP4;have HS4:=zh hS4;clear hS4 hS3 hS2 hP3 hP2 hB4 hB3 hB2 hK3 hK4 hT2 hT2' hTd hKd hP4;go_wp2_with fail;have hSd:w4.drew.heap[Cc]?=some (.cells #[.pointer (some ⟨Cb,0,none⟩)] 36)∧(∃ k s,w4.drew.heap[Cb]?=some (qB6 x k s))∧w4.drew.heap[x]?=some (χ t)∧w4.drew.heap[P]?=some (.cells #[.string fk,.string fv] 42):=⟨HS4.out.c,HS4.out.b,HS4.out.x_,HP4.out⟩;refine wp_region_held_drew (S:=fun W=>W.heap[Cc]?=some (.cells #[.pointer (some ⟨Cb,0,none⟩)] 36)∧(∃ k s,W.heap[Cb]?=some (qB6 x k s))∧W.heap[x]?=some (χ t)∧W.heap[P]?=some (.cells #[.string fk,.string fv] 42)) (by kernel_rfl) hSd (fun _=>?_);refine zV 0 (.pointer (some ⟨Cb,0,none⟩)) rfl (fun W hS=>by have c:=ξ hS.1 0;simp at c;clear hS;go_simp) hSd ?_;refine zV 1 (.pointer (some ⟨Cb,0,none⟩)) rfl (fun W hS=>by have c:=ξ hS.1 0;simp at c;clear hS;go_simp) hSd ?_;refine zP 2 P 0 hSd ?_;refine zV 3 (.string fk) rfl (fun W hS=>by have c:=ξ hS.2.2.2 0;simp at c;clear hS;go_simp) hSd ?_;refine zV 4 (.pointer (some ⟨Cb,0,none⟩)) rfl (fun W hS=>by have c:=ξ hS.1 0;simp at c;clear hS;go_simp) hSd ?_;refine zP 5 Cb 0 hSd ?_;refine zP 6 Cb 0 hSd ?_;refine zV 7 (.pointer (some ⟨x,0,none⟩)) rfl (fun W hS=>by obtain⟨k',s',hb⟩:=hS.2.1;have c:=ξ hb 0;simp only[qB6,zG,zH] at c;clear hS hb;go_simp) hSd ?_;refine zP 8 x 0 hSd ?_;refine zP 9 x 9 hSd ?_;refine zV 10 (.int .u64 t.ch) rfl (fun W hS=>by have c:=ξ hS.2.2.1 9;simp only[χ,zG,zH,zI] at c;clear hS;go_simp) hSd ?_;refine zP 11 Cb 0 hSd ?_;refine zP 12 Cb 1 hSd ?_;obtain⟨k',s',hb4⟩:=HS4.out.b;have hbs4:=ζ hb4;have b0:=ξ hb4 0;have b1:=ξ hb4 1;have b2:=ξ hb4 2;simp only[qB6,zG,zH,zI] at b0 b1 b2;have fb'1:=μ hb4;refine zq 13 fun K hK=>?_;go_simp;obtain⟨w5,hw5,hb5,hK5⟩:∃ w5,w5=(w4.setCell ⟨Cb,1,none⟩ (.string fk)).drew∧w5.heap[Cb]?=some (qB6 x fk s')∧Kp [Cb] w4 w5:=⟨_,rfl,φ hb4 1 _,((Kp.refl [Cb] w4).sc _).drew⟩;rw[←hw5];clear hw5 b0 b1 b2 fb'1;have hcb:Cc≠Cb:=qA7 HS4.out.c hb4 (by decide);have hxb:x≠Cb:=qA7 HS4.out.x_ hb4 (by decide);have hpb:P≠Cb:=qA7 HP4.out hb4 (by decide);have hS5:w5.heap[Cc]?=some (.cells #[.pointer (some ⟨Cb,0,none⟩)] 36)∧(∃ k s,w5.heap[Cb]?=some (qB6 x k s))∧w5.heap[x]?=some (χ t)∧w5.heap[P]?=some (.cells #[.string fk,.string fv] 42):=⟨hK5.heap HS4.out.c (by simp;exact hcb),⟨_,_,hb5⟩,hK5.heap HS4.out.x_ (by simp;exact hxb),hK5.heap HP4.out (by simp;exact hpb)⟩;refine hK.out _ _ hS5 (fun _=>?_);clear hK K
  try simp only[zZ]
  refine zP 14 Cb 0 hS5 ?_;refine zP 15 Cb 2 hS5 ?_;have hbs5:=ζ hb5;have b0:=ξ hb5 0;have b1:=ξ hb5 1;have b2:=ξ hb5 2;simp only[qB6,zG,zH,zI] at b0 b1 b2;have fb'1:=μ hb5;refine zq 16 fun K hK=>?_;go_simp;obtain⟨w6,hw6,hb6,hK6⟩:∃ w6,w6=w5.setCell ⟨Cb,2,none⟩ (.int .u64 t.ch)∧w6.heap[Cb]?=some (qB6 x fk t.ch)∧Kp [Cb] w5 w6:=⟨_,rfl,φ hb5 2 _,(Kp.refl [Cb] w5).sc _⟩;rw[←hw6];clear hw6 b0 b1 b2 fb'1;have hS6:w6.heap[Cc]?=some (.cells #[.pointer (some ⟨Cb,0,none⟩)] 36)∧(∃ k s,w6.heap[Cb]?=some (qB6 x k s))∧w6.heap[x]?=some (χ t)∧w6.heap[P]?=some (.cells #[.string fk,.string fv] 42):=⟨hK6.heap hS5.1 (by simp;exact hcb),⟨_,_,hb6⟩,hK6.heap hS5.2.2.1 (by simp;exact hxb),hK6.heap hS5.2.2.2 (by simp;exact hpb)⟩;refine hK.out _ _ hS6 (fun _=>?_);clear hK K
  try simp only[zZ]
  refine zd ?_;have hK46:Kp [Cb] w4 w6:=hK5.trans hK6 (fun _ h _=>h);have HF:Hid (w6.heap[P]?=some (.cells #[.string fk,.string fv] 42)∧w6.heap[B]?=some (.cells #[.bool fb] 4)∧w6.heap[Cb]?=some (qB6 x fk t.ch)∧∃ w1,E.toEnv.To w w1∧Kp [P,B,Cb] w1 w6):=
   ⟨hS6.2.2.2,hK46.heap HB4.out (by simp;exact qA7 HB4.out hb4 (by decide)),hb6,w2,HT2.out.1,(HT2.out.2.mono (S':=[P,B,Cb]) (by simp +contextual)).trans hK46 (by simp +contextual)⟩
  clear hS6 hS5 hSd hb4 hb5 hb6 hK5 hK6 hK46 hcb hxb hpb;go_wp2
  go_end0
  exact⟨rfl,HF.out⟩
 | true=>
  obtain⟨hk0,hs⟩:=hk rfl;subst hs;clear hk;go_enter func91,ntmps91;go_wp2_with fail
  go_quiet (fail)
  go_wp2_with fail;clear f0 c0 b0 b1 b2 x9 hk0;refine wp_region_held_drew (S:=MvS Cc Ff Cb x g capf t) (by kernel_rfl) (HS.out.kp (((Kp.refl [] w).drewN nq).drew) (by simp)) (fun hSd=>?_);refine zV 0 (.func (.func g) #[] capf) rfl (fun W hS=>by have c:=ξ hS.f 0;simp only[zG,zH] at c;clear hS;go_simp) hSd ?_;refine zV 1 (.pointer (some ⟨Cb,0,none⟩)) rfl (fun W hS=>by have c:=ξ hS.c 0;simp only[zG,zH] at c;clear hS;go_simp) hSd ?_;refine zP 2 Cb 0 hSd ?_;refine zP 3 Cb 0 hSd ?_;refine zV 4 (.pointer (some ⟨x,0,none⟩)) rfl (fun W hS=>by obtain⟨k',s',hb⟩:=hS.b;have c:=ξ hb 0;simp only[qB6,zG,zH] at c;clear hS hb;go_simp) hSd ?_;refine zP 5 x 0 hSd ?_;refine zP 6 x 4 hSd ?_;refine zV 7 (τ E.V t.h) rfl (fun W hS=>by have a0:=ξ hS.x_ 4;have a1:=ξ hS.x_ 5;have a2:=ξ hS.x_ 6;have a3:=ξ hS.x_ 7;have a4:=ξ hS.x_ 8;simp only[χ,hon,zG,zH,zI] at a0 a1 a2 a3 a4;clear hS;rw[τ];go_simp) hSd ?_;refine zq 8 fun K hK=>?_;go_simp;obtain⟨Wd,hWd⟩:∃ Wd,Wd=w.drewN (nq+1):=⟨_,rfl⟩;rw[←hWd];have hKd:Kp [] w Wd:=by rw[hWd];exact (Kp.refl [] w).drewN _
  clear hWd hSd;have hTd:=Env.To.of0 HD.out hKd;refine (HFI.out Wd hTd).mono ?_;rintro e w2 ⟨rfl,hT2⟩;have hT2':=hTd.trans hT2;have hS2:=(HS.out.to HD.out hT2');have hP2:=E.stay HD.out hT2' HP.out.1 (by decide);have hB2:=E.stay HD.out hT2' HP.out.2 (by decide);rw[HFV.out];refine hK.out _ _ hS2 (fun _=>?_);clear hK K
  try simp only[zZ]
  refine zU 9 (.tuple #[.agg #[.string fk,.string fv],.bool fb]) hS2 ?_;refine zU 10 (.agg #[.string fk,.string fv]) hS2 ?_;refine zU 11 (.bool fb) hS2 ?_;have hP2s:=ζ hP2;have v0:=ξ hP2;have fv'0:=μ hP2;refine zq 12 fun K hK=>?_;go_simp;have hts:=qD0 (.string fk) (.string fv) hP2;obtain⟨w3,hw3,hP3,hK3⟩:∃ w3,w3=(w2.setCell ⟨P,0,none⟩ (.string fk)).setCell ⟨P,1,none⟩ (.string fv)∧w3.heap[P]?=some (.cells #[.string fk,.string fv] 42)∧Kp [P] w2 w3:=⟨_,rfl,hts.1,hts.2⟩;rw[←hw3];clear hw3 hts v0 fv'0;have hS3:=hS2.kp hK3 (fun k hk c u fr e=>by rw[List.mem_singleton.1 hk,hP2] at e;cases e;simp);have hB3:=hK3.heap hB2 (by simp;exact qA7 hB2 hP2 (by decide));refine hK.out _ _ hS3 (fun _=>?_);clear hK K
  try simp only[zZ]
  have hB3s:=ζ hB3;have b0:=ξ hB3 0;simp only[zG,zH,zI] at b0;have fb'0:=μ hB3 0;refine zq 13 fun K hK=>?_;go_simp;obtain⟨w4,hw4,hB4,hK4⟩:∃ w4,w4=w3.setCell ⟨B,0,none⟩ (.bool fb)∧w4.heap[B]?=some (.cells #[.bool fb] 4)∧Kp [B] w3 w4:=⟨_,rfl,φ hB3 0 _,(Kp.refl _ _).sc _⟩;rw[←hw4];clear hw4 b0 fb'0;have hS4:=hS3.kp hK4 (fun k hk c u fr e=>by rw[List.mem_singleton.1 hk,hB3] at e;cases e;simp);have hP4:=hK4.heap hP3 (by simp;exact qA7 hP3 hB3 (by decide));refine hK.out _ _ hS4 (fun _=>?_);clear hK K
  try simp only[zZ]
  refine zd ?_;have HT2:Hid (E.toEnv.To w w2∧Kp [P,B] w2 w4):=⟨hT2',(hK3.mono (S':=[P,B]) (by simp +contextual)).trans hK4 (by simp +contextual)⟩;have HB4:=zh hB4;have HP4:=zh hP4;have HS4:=zh hS4;clear hS4 hS3 hS2 hP3 hP2 hB4 hB3 hB2 hK3 hK4 hT2 hT2' hTd hKd hP4;go_wp2_with fail;have hSd:w4.drew.heap[Cc]?=some (.cells #[.pointer (some ⟨Cb,0,none⟩)] 36)∧(∃ k s,w4.drew.heap[Cb]?=some (qB6 x k s))∧w4.drew.heap[x]?=some (χ t)∧w4.drew.heap[P]?=some (.cells #[.string fk,.string fv] 42):=⟨HS4.out.c,HS4.out.b,HS4.out.x_,HP4.out⟩;refine wp_region_held_drew (S:=fun W=>W.heap[Cc]?=some (.cells #[.pointer (some ⟨Cb,0,none⟩)] 36)∧(∃ k s,W.heap[Cb]?=some (qB6 x k s))∧W.heap[x]?=some (χ t)∧W.heap[P]?=some (.cells #[.string fk,.string fv] 42)) (by kernel_rfl) hSd (fun _=>?_);refine zV 0 (.pointer (some ⟨Cb,0,none⟩)) rfl (fun W hS=>by have c:=ξ hS.1 0;simp at c;clear hS;go_simp) hSd ?_;refine zV 1 (.pointer (some ⟨Cb,0,none⟩)) rfl (fun W hS=>by have c:=ξ hS.1 0;simp at c;clear hS;go_simp) hSd ?_;refine zP 2 P 0 hSd ?_;refine zV 3 (.string fk) rfl (fun W hS=>by have c:=ξ hS.2.2.2 0;simp at c;clear hS;go_simp) hSd ?_;refine zV 4 (.pointer (some ⟨Cb,0,none⟩)) rfl (fun W hS=>by have c:=ξ hS.1 0;simp at c;clear hS;go_simp) hSd ?_;refine zP 5 Cb 0 hSd ?_;refine zP 6 Cb 0 hSd ?_;refine zV 7 (.pointer (some ⟨x,0,none⟩)) rfl (fun W hS=>by obtain⟨k',s',hb⟩:=hS.2.1;have c:=ξ hb 0;simp only[qB6,zG,zH] at c;clear hS hb;go_simp) hSd ?_;refine zP 8 x 0 hSd ?_;refine zP 9 x 9 hSd ?_;refine zV 10 (.int .u64 t.ch) rfl (fun W hS=>by have c:=ξ hS.2.2.1 9;simp only[χ,zG,zH,zI] at c;clear hS;go_simp) hSd ?_;refine zP 11 Cb 0 hSd ?_;refine zP 12 Cb 1 hSd ?_;obtain⟨k',s',hb4⟩:=HS4.out.b;have hbs4:=ζ hb4;have b0:=ξ hb4 0;have b1:=ξ hb4 1;have b2:=ξ hb4 2;simp only[qB6,zG,zH,zI] at b0 b1 b2;have fb'1:=μ hb4;refine zq 13 fun K hK=>?_;go_simp;obtain⟨w5,hw5,hb5,hK5⟩:∃ w5,w5=(w4.setCell ⟨Cb,1,none⟩ (.string fk)).drew∧w5.heap[Cb]?=some (qB6 x fk s')∧Kp [Cb] w4 w5:=⟨_,rfl,φ hb4 1 _,((Kp.refl [Cb] w4).sc _).drew⟩;rw[←hw5];clear hw5 b0 b1 b2 fb'1;have hcb:Cc≠Cb:=qA7 HS4.out.c hb4 (by decide);have hxb:x≠Cb:=qA7 HS4.out.x_ hb4 (by decide);have hpb:P≠Cb:=qA7 HP4.out hb4 (by decide);have hS5:w5.heap[Cc]?=some (.cells #[.pointer (some ⟨Cb,0,none⟩)] 36)∧(∃ k s,w5.heap[Cb]?=some (qB6 x k s))∧w5.heap[x]?=some (χ t)∧w5.heap[P]?=some (.cells #[.string fk,.string fv] 42):=⟨hK5.heap HS4.out.c (by simp;exact hcb),⟨_,_,hb5⟩,hK5.heap HS4.out.x_ (by simp;exact hxb),hK5.heap HP4.out (by simp;exact hpb)⟩;refine hK.out _ _ hS5 (fun _=>?_);clear hK K
  try simp only[zZ]
  refine zP 14 Cb 0 hS5 ?_;refine zP 15 Cb 2 hS5 ?_;have hbs5:=ζ hb5;have b0:=ξ hb5 0;have b1:=ξ hb5 1;have b2:=ξ hb5 2;simp only[qB6,zG,zH,zI] at b0 b1 b2;have fb'1:=μ hb5;refine zq 16 fun K hK=>?_;go_simp;obtain⟨w6,hw6,hb6,hK6⟩:∃ w6,w6=w5.setCell ⟨Cb,2,none⟩ (.int .u64 t.ch)∧w6.heap[Cb]?=some (qB6 x fk t.ch)∧Kp [Cb] w5 w6:=⟨_,rfl,φ hb5 2 _,(Kp.refl [Cb] w5).sc _⟩;rw[←hw6];clear hw6 b0 b1 b2 fb'1;have hS6:w6.heap[Cc]?=some (.cells #[.pointer (some ⟨Cb,0,none⟩)] 36)∧(∃ k s,w6.heap[Cb]?=some (qB6 x k s))∧w6.heap[x]?=some (χ t)∧w6.heap[P]?=some (.cells #[.string fk,.string fv] 42):=⟨hK6.heap hS5.1 (by simp;exact hcb),⟨_,_,hb6⟩,hK6.heap hS5.2.2.1 (by simp;exact hxb),hK6.heap hS5.2.2.2 (by simp;exact hpb)⟩;refine hK.out _ _ hS6 (fun _=>?_);clear hK K
  try simp only[zZ]
  refine zd ?_;have hK46:Kp [Cb] w4 w6:=hK5.trans hK6 (fun _ h _=>h);have HF:Hid (w6.heap[P]?=some (.cells #[.string fk,.string fv] 42)∧w6.heap[B]?=some (.cells #[.bool fb] 4)∧w6.heap[Cb]?=some (qB6 x fk t.ch)∧∃ w1,E.toEnv.To w w1∧Kp [P,B,Cb] w1 w6):=
   ⟨hS6.2.2.2,hK46.heap HB4.out (by simp;exact qA7 HB4.out hb4 (by decide)),hb6,w2,HT2.out.1,(HT2.out.2.mono (S':=[P,B,Cb]) (by simp +contextual)).trans hK46 (by simp +contextual)⟩
  clear hS6 hS5 hSd hb4 hb5 hb6 hK5 hK6 hK46 hcb hxb hpb;go_wp2
  go_end0
  exact⟨rfl,HF.out⟩
end Go.Proofs.YtdohpenfkdckiaaGreatDoor
