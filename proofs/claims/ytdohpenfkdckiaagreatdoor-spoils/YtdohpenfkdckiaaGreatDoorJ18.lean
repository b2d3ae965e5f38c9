import Derived.Test.YtdohpenfkdckiaaGreatDoorJ16
import Derived.Test.YtdohpenfkdckiaaGreatDoorJ17
import Derived.RangeFuncNested
import Derived.RangeFuncBound
import Derived.RangeFuncCalls
import Derived.RangeFuncLeaves
import Derived.Shelf.Abstract
import Derived.Shelf.RegionOpen
import Derived.OwnWalkIn
import Derived.TacticsInMore
import Derived.LoopNIn
import Derived.LoopIn
import Derived.Sort.LoopGhostIn
import Derived.Laws.EntriesVeiled
import Derived.Lib.SmallJoins
import Derived.Laws.OwnMore
import Derived.RangeFuncGives
import Derived.Sort.MapsRangeIn
set_option linter.all false
set_option maxRecDepth 100000
set_option maxHeartbeats 20000000
namespace Go.Proofs.YtdohpenfkdckiaaGreatDoor
open Go.Proofs.Tryz
open Go.RowKit
structure SOp where
 k:Int
 x:Int
 y:Int
 a:Int
 b:Int
 s:ByteArray
 t:ByteArray
def SOp.cells(o:SOp):List Value:=[.int .i64 o.k,.int .i64 o.x,.int .i64 o.y,.int .i64 o.a,.int .i64 o.b,.string o.s,.string o.t]
def Script(w:World)(p:Option Addr)(n:Nat)(f:Nat→SOp):Prop:=
 0<n→∃ blk off,p=some ⟨blk,off,none⟩∧blk<w.heap.size∧∀ i,i<n→∀ c,c<7→w.cell? ⟨blk,off+i*7+c,none⟩=(f i).cells[c]?
theorem Script.keep{w w'}{p}{n:Nat}{f:Nat->SOp}(h:Script w p n f)(hK:Kp [] w w'):Script w' p n f:=λm=>by
 obtain⟨b,e,g,d,j⟩:=h m;exact⟨b,e,g,Nat.lt_of_lt_of_le d hK.size,λi l c k=>(hK.cell (a:=⟨b,e+i*7+c,none⟩) d sM).trans (j i l c k)⟩
def xU3(n:Nat)(w:World)(e:Ending)(w':World):Prop:=∃ r:Bool,e=.returned (.bool r)∧(r=true→n≤16384)∧∃ m,w'=w.drewN m
theorem kF5(p)(n cap:Nat)(f:Nat->SOp)(w)(b:Script w p n f):
  Calls prog 16 #[.slice p n cap] w λe o=>xU3 n w e o:=by
 by_cases r:16384<n
 .have k:(16384:Int)<(n:Int):=oM
  go_enter func16,ntmps16;go_wp2;go_ret;exact⟨false,rfl,sM,0,rfl⟩
 .have k:¬(16384:Int)<(n:Int):=oM
  have d:=zh b;clear b;go_enter func16,ntmps16;go_wp2
  go_loopw [3,4] (λs i wr=>∃ (j:Nat) (t:Int),j<=n/\i=.int .i64 j/\s=.int .i64 t/\∃ m,wr=w.drewN m) (λ_ i _=>n-(intOf i).toNat)
  case atStart=>exact⟨0,n,zL _,rfl,rfl,0,rfl⟩
  case round=>
   obtain⟨j,t,v,rfl,rfl,m,rfl⟩:=hrel;by_cases c:j<n
   .obtain⟨q,x,rfl,u,a⟩:=d.out oM;have g:=a j c 5 dC;have h:=a j c 6 dC;simp only[SOp.cells,zH,zI] at g h;have l:(j:Int)<(n:Int):=oM
    clear a;go_wp2_with fail
    go_quiet (fail)
    go_wp2
    case roundEnd=>exact⟨⟨j+1,_,oM,by go_num,rfl,_,rfl⟩,by simp[intOf];omega⟩
    go_ret;exact⟨false,rfl,sM,_,rfl⟩
   .have l:¬(j:Int)<(n:Int):=oM
    go_wp2;go_ret;exact⟨true,rfl,oM,m,rfl⟩
def qE9(l:List KV)(lo:ByteArray):List KV:=l.filter fun q=>!kl q.k lo
theorem zN3{α:Type}(f:α->Bool):∀ l:List α,l.find? f=(l.filter f).head?
 | []=>rfl
 | a::l=>by
  by_cases h:f a=true
  .rw[List.find?_cons_of_pos h,List.filter_cons_of_pos h,List.head?_cons]
  .rw[List.find?_cons_of_neg h,List.filter_cons_of_neg h];exact zN3 f l
theorem xE3{l}(h:Sorted l)(lo):Sorted (qE9 l lo):=h.sublist List.filter_sublist
theorem jL9(l)(lo):(l.find? λq=>!kl q.k lo)=(qE9 l lo)[0]?:=by
 rw[zN3,qE9,List.head?_eq_getElem?]
theorem jH8(l)(lo pk)(c:kl pk lo=false):(l.filter λq=>kl pk q.k)=(qE9 l lo).filter λq=>kl pk q.k:=by
 unfold qE9;rw[List.filter_filter];refine List.filter_congr λq d=>?_;by_cases a:kl pk q.k=true
 .have:kl q.k lo=false:=by
   by_cases e:kl q.k lo=true
   .have:=qO6 a e;rw[c] at this;cases this
   .simpa using e
  rw[a,this];rfl
 .have b:kl pk q.k=false:=by simpa using a
  rw[b];rfl
theorem jM0{l}(h:Sorted l)(lo){j:Nat}(b:j<(qE9 l lo).length):(l.find? λq=>kl (qE9 l lo)[j].k q.k)=(qE9 l lo)[j+1]?:=by
 rw[zN3,List.head?_eq_getElem?];have n:kl (qE9 l lo)[j].k lo=false:=by
  have o:=gM b;have:=(List.mem_filter.1 o).2;simpa using this
 have f:=jH8 l lo _ n;rw[f];have p:=xE3 h lo;generalize qE9 l lo=A at *;have g:A.filter (λq=>kl A[j].k q.k)=A.drop (j+1):=by
  have r:A=A.take (j+1)++A.drop (j+1):=(tD _ _).symm;have d:=pG p;have k:(A.take (j+1)).filter (λq=>kl A[j].k q.k)=[]:=by
   rw[List.filter_eq_nil_iff];intro q c;obtain⟨i,a,rfl⟩:=gO c;rw[List.getElem_take];simp only[lK] at a;by_cases e:i=j
   .subst e;simp[qO5]
   .have:=qQ7 (d i j oM b oM);simp[this]
  have m:(A.drop (j+1)).filter (λq=>kl A[j].k q.k)=A.drop (j+1):=by
   rw[List.filter_eq_self];intro q c;obtain⟨i,a,rfl⟩:=gO c;rw[List.getElem_drop];simp only[lD] at a;exact d j (j+1+i) b oM oM
  calc A.filter (λq=>kl A[j].k q.k)=(A.take (j+1)++A.drop (j+1)).filter (λq=>kl A[j].k q.k):=by rw[tD]
   _=A.drop (j+1):=by rw[List.filter_append,k,m,nA]
 rw[g];simp
theorem xD0(l)(lo hi):l.filter (inR lo hi)=(qE9 l lo).filter λq=>kl q.k hi:=by
 rw[qE9,List.filter_filter];refine List.filter_congr λq _=>?_;rw[inR,Bool.and_comm]
theorem xE4{l}(h:Sorted l)(lo hi){j:Nat}(p:j<=(qE9 l lo).length)(g:∀ q∈(qE9 l lo).take j,kl q.k hi=true)(k:∀ q,(qE9 l lo)[j]?=some q->kl q.k hi=false):l.filter (inR lo hi)=(qE9 l lo).take j:=by
 rw[xD0];have o:=xE3 h lo;generalize qE9 l lo=A at *;have d:=List.filter_eq_self.2 g;have f:(A.drop j).filter (λq=>kl q.k hi)=[]:=by
  rw[List.filter_eq_nil_iff];intro q n;obtain⟨i,m,rfl⟩:=gO n;rw[List.getElem_drop];simp only[lD] at m;have c:j<A.length:=oM
  have b:=k A[j] (by simp[c]);by_cases e:i=0
  .subst e;simp[b]
  .have:=pG o j (j+i) c oM oM;by_cases a:kl A[j+i].k hi=true
   .have:=qO6 this a;rw[b] at this;cases this
   .simpa using a
 calc A.filter (λq=>kl q.k hi)=(A.take j++A.drop j).filter (λq=>kl q.k hi):=by rw[tD]
  _=A.take j:=by rw[List.filter_append,d,f,aN]
theorem jM1{l}(h:Sorted l)(lo hi){j:Nat}(c:j<=(qE9 l lo).length)(b:∀ q∈(qE9 l lo).take j,kl q.k hi=true):(qE9 l lo).take j <+: l.filter (inR lo hi):=by
 rw[xD0];generalize qE9 l lo=A at *;have a:=List.filter_eq_self.2 b;refine⟨(A.drop j).filter (λq=>kl q.k hi),?_⟩
 calc A.take j++(A.drop j).filter (λq=>kl q.k hi)=(A.take j++A.drop j).filter (λq=>kl q.k hi):=by rw[List.filter_append,a]
  _=A.filter (λq=>kl q.k hi):=by rw[tD]
theorem kO8(lo):Up λk=>!kl k lo:=λa b hab ha=>by
 by_cases e:kl b lo=true
 .have:=qO6 hab e;simp[this] at ha
 .simpa using e
theorem kO9(p):Up λk=>kl p k:=λa b hab ha=>qO6 ha hab
section
attribute [local go_sem] Oper.semAt_some
def YS(W:World)(N:Nat)(S:List Nat):Prop:=∀ k∈S,k<N∧((∃ c t fr,W.heap[k]?=some (.cells c t fr)∧(t=29∨t=42))∨∃ rec,W.heap[k]?=some (.loop rec))
theorem YS.keep{W W'}{N:Nat}{S}(h:YS W N S)(hK:Kp S W W'){k:Nat}{c}{t}{fr}(d:W.heap[k]?=some (.cells c t fr))(f:t≠29/\(t≠42\/N<=k)):W'.heap[k]?=some (.cells c t fr):=by
 refine hK.heap d λi=>?_;obtain⟨m,g⟩:=h k i;rcases g with⟨j,t',l,a,b⟩|⟨n,a⟩
 .rw[d] at a;cases a;rcases b with b|b
  .exact f.1 b
  .rcases f.2 with e|e
   .exact e b
   .omega
 .rw[d] at a;cases a
theorem YS.apt{W}{N:Nat}{S}(h:YS W N S):Apt W S qF1:=λk f c t j e g=>by
 obtain⟨m,b⟩:=h k f;rcases b with⟨i,t',l,a,d⟩|⟨n,a⟩
 .rw[e] at a;cases a;rcases d with rfl|rfl<;>revert g<;>decide
 .rw[e] at a;cases a
structure AllIn(E:SEnv)(x A n:Nat)(t:Tx)(s:Sto)(r:Root)(B Lc Hc:Nat)(lo hi:ByteArray)(w:World):Prop where
 live:LiveT E w x A n t s r
 hB:w.heap[B]?=some (.cells #[.pointer (some ⟨x,0,none⟩)] 32)
 hL:w.heap[Lc]?=some (.cells #[.string lo] 9)
 hH:w.heap[Hc]?=some (.cells #[.string hi] 9)
theorem AllIn.more{E}{x A n:Nat}{t}{s}{r}{B b a:Nat}{lo hi}{w w'}(h:AllIn E x A n t s r B b a lo hi w)(hK:Kp [] w w'):AllIn E x A n t s r B b a lo hi w':=
 ⟨h.live.more hK,hK.hp h.hB,hK.hp h.hL,hK.hp h.hH⟩
theorem AllIn.turn{E}{x A n:Nat}{t}{s}{r}{B j i:Nat}{lo hi}{w w'}{L}(h:AllIn E x A n t s r B j i lo hi w)(hK:Kp L w w')(p:w'.heap[t.St]?=some (ν 0 s))(q:E.Dev w')
  (l:∀ k∈L,k=t.St\/k∈E.S\/∃ c u b,w.heap[k]?=some (.cells c u b)/\u ∉ [99,32,9,263,213,185,87]):AllIn E x A n t s r B j i lo hi w':=by
 have f:∀ k c u b,w.heap[k]?=some (.cells c u b)->u∈[99,32,9,213,185,87]->k ∉ L:=λk c u b hk hu d=>by
  rcases l k d with a|a|⟨m,v,o,a,g⟩
  .subst a;rw[h.live.hSt] at hk;cases hk
   revert hu;decide
  .exact E.nin h.live.dev hk ((show ∀ u∈([99,32,9,213,185,87]:List TypeId),u ∉ qO2 by decide) u hu) a
  .rw[hk] at a;cases a;exact g ((show ∀ u∈([99,32,9,213,185,87]:List TypeId),u∈([99,32,9,263,213,185,87]:List TypeId) by decide) u hu)
 have hV:E.V ∉ L:=λd=>by
  rcases l _ d with a|a|⟨m,v,o,a,g⟩
  .exact qA1 h.live.hV h.live.hSt dC a
  .exact h.live.vS a
  .rw[h.live.hV] at a;cases a;exact g dC
 refine⟨{ h.live with hx:=hK.heap h.live.hx (f _ _ _ _ h.live.hx dC),hSt:=p,hV:=hK.heap h.live.hV hV,dev:=q,rr:=h.live.rr.keepT hK (λk hk c u b e d=>f k c u b e ((show ∀ u∈qF1,u∈([99,32,9,213,185,87]:List TypeId) by decide) u d) hk) },hK.heap h.hB (f _ _ _ _ h.hB dC),hK.heap h.hL (f _ _ _ _ h.hL dC),hK.heap h.hH (f _ _ _ _ h.hH dC)⟩
end
section
attribute [local go_sem] Oper.semAt_some
theorem YS.off{W}{N:Nat}{S}(h:YS W N S):OffD W S:=λk f c t j e g=>by
 obtain⟨m,b⟩:=h k f;rcases b with⟨i,t',l,a,d⟩|⟨n,a⟩
 .rw[e] at a;cases a;rcases d with rfl|rfl<;>revert g<;>decide
 .rw[e] at a;cases a
theorem AllIn.round{E}{x A n:Nat}{t}{s}{r}{B c b:Nat}{lo hi}{w w'}{N:Nat}{SY}(h:AllIn E x A n t s r B c b lo hi w)(a:YS w N SY)(hK:Kp SY w w'):AllIn E x A n t s r B c b lo hi w':=by
 have d:=a.keep hK h.live.hSt ⟨dC,.inl dC⟩;refine⟨{ h.live with hx:=a.keep hK h.live.hx ⟨dC,.inl dC⟩,hSt:=d,hV:=a.keep hK h.live.hV ⟨dC,.inl dC⟩,dev:=E.keepX w w' SY h.live.dev hK a.off,rr:=h.live.rr.keepT hK a.apt },a.keep hK h.hB ⟨dC,.inl dC⟩,a.keep hK h.hL ⟨dC,.inl dC⟩,a.keep hK h.hH ⟨dC,.inl dC⟩⟩
theorem xV4(E)(x A n:Nat)(t)(s)(r)(B P O:Nat)(lo m call)(H G g:Nat)(cap)(f:ByteArray->Bool)(w)(S:AllIn E x A n t s r B P O lo m w)(M:w.heap[H]?=some (qP3 (some ⟨E.V,0,none⟩) t.h))(K:w.heap[G]?=some (.cells #[.func (.func g) #[] cap] 92))(d j:Nat)
  (y:w.heap[d]?=some (.cells #[.string ⟨#[]⟩,.string ⟨#[]⟩] 42)) (C:w.heap[j]?=some (.cells #[.bool false] 4)) (Y:Up f)
  (V:∀ W,Kp (t.St::E.S) w W->∀ k,Calls prog g (#[.string k]++cap) W λe I=>e=.returned (.bool (f k))/\Kp [] W I)
  (X:∀ (args) (W),Sem.run prog (callFunc g args) W=.ok (.enter g args) W):
  Calls prog 45 #[.pointer (some ⟨x,0,none⟩),.string call,.func (.func 179) #[] #[.pointer (some ⟨H,0,none⟩),.pointer (some ⟨G,0,none⟩),.pointer (some ⟨d,0,none⟩),.pointer (some ⟨j,0,none⟩)]] w λe p=>e=.returned .nilIface/\p.heap[d]?=some (.cells #[.string (pkv (r.cont.find? λq=>f q.k)).k,.string (pkv (r.cont.find? λq=>f q.k)).v] 42)/\p.heap[j]?=some (.cells #[.bool (r.cont.find? λq=>f q.k).isSome] 4)/\p.heap[t.St]?=some (ν 0 s)/\E.Dev p/\Kp (t.St::d::j::E.S) w p:=by
 have a:=S.live;refine (qT4 none dC x t.St 179 t s s #[] _ call (d::j::E.S) (λW b=>E.Dev b/\Ϙ b t.St (ν 1 s)/\Ϙ b d (.cells #[.string (pkv (r.cont.find? λq=>f q.k)).k,.string (pkv (r.cont.find? λq=>f q.k)).v] 42)/\Ϙ b j (.cells #[.bool (r.cont.find? λq=>f q.k).isSome] 4)) w a.hx a.over rfl a.hSt a.po a.xS (jC4 _) (λi m=>by
  simp only[mC] at m;rcases m with h|h|h
  .rw[h];exact ζ y
  .rw[h];exact ζ C
  .exact E.low w a.dev i h) ?_).mono ?_
 .intro W hK T;have D:=a.devS hK;have o:∀ {k:Nat} {c:Array Value} {u:TypeId} {fr:Nat × Nat},Ϙ w k (.cells c u fr)->u≠169->k ∉ [t.St]:=λhk hu hm=>qA1 hk a.hSt hu (mS hm);have L:=hK.heap y (o y dC);have N:=hK.heap C (o C dC);refine (xU9 E H G d j g cap f t.h r W (hK.heap M (o M dC)) (hK.heap K (o K dC)) L N D (a.rr.keepT hK (Apt.one a.hSt dC)) a.good Y (λI k U=>V I ((hK.mono (S':=t.St::E.S) sM).trans U.kp (by simp +contextual)) k) X).mono ?_;rintro e F ⟨rfl,Q,R,b,l,J⟩;have z:Ϙ F t.St (ν 1 s):=J.heap (E.stay D l T dC) (by
   simp only[mC,lN,or_false,not_or];exact⟨qA1 a.hSt y dC,qA1 a.hSt C dC⟩)
  exact⟨rfl,⟨E.keepX b F _ l.dev J ((OffD.one (E.stay D l L dC) dC).cons (OffD.one (E.stay D l N dC) dC)),z,Q,R⟩,(l.kp.mono (S':=t.St::d::j::E.S) (by simp +contextual)).trans J (by intro i m _;simp at m |-;rcases m with h | h<;>simp[h]),z⟩
 .rintro e F ⟨v,rfl,hv,z,hK2,W,b,Bb,⟨hd1,hS1,hP1,l⟩,hKW,hb1,hb2,hb3,hKB⟩;have Z:v=.nilIface:=hv;subst Z;have o:∀ {k:Nat} {c:Array Value} {u:TypeId} {fr:Nat × Nat},Ϙ b k (.cells c u fr)->u≠169->u≠38->k ∉ [t.St,Bb]:=λhk hu hu2 hm=>by
   simp only[mC,lN,or_false] at hm;rcases hm with h|h
   .exact qA1 hk hS1 hu h
   .exact qA1 hk hb3 hu2 h
  exact⟨rfl,hKB.heap hP1 (o hP1 dC dC),hKB.heap l (o l dC dC),z,E.keepX b F _ hd1 hKB (qR0 hS1 hb3),hK2⟩
theorem xV3(E)(x A n:Nat)(t)(s)(r)(B z y:Nat)(lo hi call)(b:Nat)(w)(h:AllIn E x A n t s r B z y lo hi w)(l:w.heap[b]?=some (qP3 none ⟨⟨#[]⟩,0,0,none⟩)):
  Calls prog 45 #[.pointer (some ⟨x,0,none⟩),.string call,.func (.func 177) #[] #[.pointer (some ⟨B,0,none⟩),.pointer (some ⟨b,0,none⟩)]] w λe g=>e=.returned .nilIface/\g.heap[b]?=some (qP3 (some ⟨E.V,0,none⟩) t.h)/\g.heap[t.St]?=some (ν 0 s)/\E.Dev g/\Kp [t.St,b] w g:=by
 have a:=h.live;refine (qT4 none dC x t.St 177 t s s #[] _ call [b] (λW d=>E.Dev d/\Ϙ d t.St (ν 1 s)/\Ϙ d b (qP3 (some ⟨E.V,0,none⟩) t.h)) w a.hx a.over rfl a.hSt a.po a.xS (jC2 _) (λi hi=>by rw[mS hi];exact ζ l) ?_).mono ?_
 .intro W hK q;have C:=a.devS hK;have o:∀ {k:Nat} {c:Array Value} {u:TypeId} {fr:Nat × Nat},Ϙ w k (.cells c u fr)->u≠169->k ∉ [t.St]:=λhk hu hm=>qA1 hk a.hSt hu (mS hm);have m:=hK.heap l (o l dC);refine (xU7 B b x t W (hK.heap h.hB (o h.hB dC)) m (hK.heap a.hx (o a.hx dC))).mono ?_;rintro e d ⟨rfl,p,j⟩;have f:=j.heap q (by simp;exact qA1 q m dC);rw[a.on] at p;exact⟨rfl,⟨E.keepX W d _ C j (OffD.one m dC),f,p⟩,j.mono (by simp +contextual),f⟩
 .rintro e F ⟨v,rfl,hv,hSt2,hK2,W,d,Bb,⟨hd1,f,hP1⟩,hKW,hb1,hb2,hb3,hKB⟩;have D:v=.nilIface:=hv;subst D;refine⟨rfl,hKB.heap hP1 ?_,hSt2,E.keepX d F _ hd1 hKB (qR0 f hb3),hK2⟩;simp only[mC,lN,or_false,not_or];exact⟨qA1 hP1 f dC,qA1 hP1 hb3 dC⟩
structure AllSt(E:SEnv)(x A n:Nat)(t:Tx)(s:Sto)(r:Root)(B Lc Hc:Nat)(lo hi:ByteArray)(Sx Nx:Nat)(J:Nat→List KV→World→Prop)(j:Nat)(w:World):Prop where
 inn:AllIn E x A n t s r B Lc Hc lo hi w
 le:j≤(qE9 r.cont lo).length
 ahead:∀ q∈(qE9 r.cont lo).take j,kl q.k hi=true
 hS:w.heap[Sx]?=some (qP3 (some ⟨E.V,0,none⟩) t.h)
 hN:(j=0∧w.heap[Nx]?=some (.cells #[.func (.func 178) #[] #[.pointer (some ⟨Lc,0,none⟩)]] 92))∨∃ p Px,1≤j∧(qE9 r.cont lo)[j-1]?=some p∧w.heap[Nx]?=some (.cells #[.func (.func 180) #[] #[.pointer (some ⟨Px,0,none⟩)]] 92)∧w.heap[Px]?=some (.cells #[.string p.k,.string p.v] 42)
 jj:J w.heap.size ((qE9 r.cont lo).take j) w
theorem AllSt.asks{E}{x A n:Nat}{t}{s}{r}{B d o:Nat}{lo hi}{y i:Nat}{J:Nat->List KV->World->Prop}{j:Nat}{w}(h:AllSt E x A n t s r B d o lo hi y i J j w)(F:Sorted r.cont):
  ∃ g cap f,w.heap[i]?=some (.cells #[.func (.func g) #[] cap] 92)/\Up f/\(∀ (args) (W),Sem.run prog (callFunc g args) W=.ok (.enter g args) W)/\(r.cont.find? λq=>f q.k)=(qE9 r.cont lo)[j]?/\
   ∀ W,Kp (t.St::E.S) w W->∀ k,Calls prog g (#[.string k]++cap) W λe W'=>e=.returned (.bool (f k))/\Kp [] W W':=by
 have m:∀ {k:Nat} {c:Array Value} {u:TypeId} {fr:Nat × Nat},Ϙ w k (.cells c u fr)->u≠169->u ∉ qO2->k ∉ t.St::E.S:=λhk hu hd hm=>by
  rcases List.mem_cons.1 hm with a|a
  .exact qA1 hk h.inn.live.hSt hu a
  .exact E.nin h.inn.live.dev hk hd a
 rcases h.hN with⟨rfl,b⟩|⟨p,v,G,C,b,l⟩
 .exact⟨_,_,_,b,kO8 lo,jC3,jL9 _ _,λW hK k=>xU8 d lo k W (hK.heap h.inn.hL (m h.inn.hL dC dC))⟩
 .obtain⟨z,D⟩:=gS C;refine⟨_,_,_,b,kO9 p.k,jC5,?_,λW hK k=>xV0 v p.k k p.v W (hK.heap l (m l dC dC))⟩;have e:=jM0 F lo z;rw[D] at e;rw[e,show j-1+1=j by omega]
theorem xV2(E)(x A n:Nat)(t)(s)(r)(B F I l m:Nat)(lo a)(J:Nat->List KV->World->Prop)(Jx:List KV->World->Prop)(w)
  (hJ:∀ N d W G S,J N d W->Kp S W G->(∀ k∈S,k=t.St\/k∈E.S\/(w.heap.size<=k/\∃ c fr,W.heap[k]?=some (.cells c 92 fr)))->G.heap[t.St]?=some (ν 0 s)->E.Dev G->J N d G)
  (bj:∀ N N' d W,J N d W->N<=N'->J N' d W)
  (hY:∀ N d p P,J N d P->N<=P.heap.size->d++[p] <+: r.cont.filter (inR lo a)->AllIn E x A n t s r B F I lo a P->YieldAt Fence.wide (m-1) prog l #[.agg #[.string p.k,.string p.v],.nilIface] P λe G=>∃ SY,YS P N SY/\Kp SY P G/\((e=.returned (.bool true)/\J G.heap.size (d++[p]) G)\/(e=.returned (.bool false)/\Jx (d++[p]) G)))
  (Q:AllIn E x A n t s r B F I lo a w) (h0:J w.heap.size [] w):
  CallsIn Fence.wide m prog 176 #[.func (.yield l) #[] #[],.pointer (some ⟨B,0,none⟩),.pointer (some ⟨F,0,none⟩),.pointer (some ⟨I,0,none⟩)] w λe w'=>(∃ v,e=.returned v)/\((∃ N,J N (r.cont.filter (inR lo a)) w')\/∃ d,d <+: r.cont.filter (inR lo a)/\Jx d w'):=by
 have cj:=zM;have HI:=zh Q;have HJ:=zh hJ;have ba:=zh bj;have HY:=zh hY;have bx:=zh h0;have ae:=zh ((zS9 Q.live.good).1);have bd:=ρ (.cells ϛ 89) Q.hB;have b0:=ξ bd 0;simp only[zG,zH] at b0;have be:=ζ Q.hB;have b6:=ζ Q.live.hSt;clear Q hJ bj hY h0 bd;refine callsIn_of_wp func176 rfl trivial ?_ rfl;simp only[ntmps176,List.size_toArray,lC,List.length_nil,Nat.reduceAdd,Nat.reduceSub,Array.replicate_succ,Array.replicate_zero,List.push_toArray,aT,nA,cA]
 gi_wp2_with fail
 refine⟨trivial,λh=>(by cases h),?_⟩;obtain⟨w0,bt,az,ag⟩:∃ w0,w0=w.alloc (.cells ϛ 89)/\Ϙ w0 w.heap.size (qP3 none ⟨⟨#[]⟩,0,0,none⟩)/\Kp [] w w0:=⟨_,rfl,υ _ _,kF.alloc _⟩;rw[<-bt];clear bt b0;have aw:=HI.out.more ag;refine callsIn_wide.2 ((xV3 E x A n t s r B F I lo a _ w.heap.size w0 aw az).mono ?_);rintro e w1 ⟨rfl,bm,a1,a5,ah⟩;have bf:=aw.turn ah a1 a5 (λk b=>by
  simp only[mC,lN,or_false] at b;rcases b with h|h
  .exact .inl h
  .rw[h];exact .inr (.inr ⟨_,_,_,az,dC⟩))
 have bh:=HJ.out _ _ _ _ [t.St] bx ((ag.mono (S':=[t.St]) sM).trans ah (by intro i a b8;simp at a |-;omega)) sM a1 a5;have b9:=lT ag.size ah.size;clear az ag aw ah
 gi_wp2_with fail
 obtain⟨w2,bu,bk,X⟩:=alA w1 (.cells #[.func (.func 178) #[] #[ϖ F]] 92);rw[<-bu];clear bu;have af:=bf.more X;have a8:Hid (AllSt E x A n t s r B F I lo a w.heap.size w1.heap.size J 0 w2):=
  ⟨af,zL _,sM,X.hp bm,.inl ⟨rfl,bk⟩,ba _ _ _ _ (HJ _ _ _ _ [] bh X sM af.live.hSt af.live.dev) (by have:=X.size;omega)⟩
 clear af bf bk X bm a1 a5 bh;obtain⟨Sx,a4⟩:=eX w.heap.size;obtain⟨y,ax⟩:=eX w1.heap.size;rw[<-a4,<-ax] at a8;rw[<-a4,<-ax];have b5:w.heap.size<=y:=oM
 clear a4 ax b9 be b6
 gi_loopg [6] ((qE9 r.cont lo).length+1) (λk b4 wr=>∃ j,k+j=(qE9 r.cont lo).length+1/\b4=.nilIface/\Hid (AllSt E x A n t s r B F I lo a Sx y J j wr))
 case atStart=>exact⟨0,rfl,rfl,a8⟩
 case round=>
  obtain⟨j,ci,rfl,o⟩:=hrel;obtain⟨g,cap,f,hN,bs,bp,bq,bn⟩:=o.out.asks ae.out;have av:=o.out.inn.hB;have bo:=ρ (.cells #[.bool false] 4) (ρ (.cells ϝ 42) av);have be:=ζ av;have b0:=ϻ bo 0;have M:=zh (n5 hN bs bp bq bn)
  clear hN bs bp bq bn av bo
  gi_wp2_with fail
  refine⟨trivial,λh=>(by cases h),?_⟩;obtain⟨w3,bv,Z,ab,K,ck⟩:=alC wr (.cells ϝ 42) (.cells #[.bool false] 4)
  rw[<-bv];clear bv b0;have R:=o.out.inn.more K;have ak:=K.hp o.out.hS;have ai:=K.hp M.1;refine callsIn_wide.2 ((xV4 E x A n t s r B F I lo a _ Sx y g cap f w3 R ak ai wr.heap.size (wr.heap.size+1) Z ab M.2.1 (λW hK k=>M.2.2.2.2 W ((K.mono sM).trans hK (λ_ h _=>h)) k) M.2.2.1).mono ?_);rintro e w4 ⟨rfl,z,C,aa,ac,Y⟩;rw[M.out.2.2.2.1] at z C;have a2:=R.live.hSt;have O:=(K.mono (S':=t.St::E.S) sM).trans Y (by
   intro i a b8;simp only[mC] at a |-;rcases a with h|h|h|h
   .exact .inl h
   .omega
   .omega
   .exact .inr h)
  have ao:∀ k∈t.St::wr.heap.size::(wr.heap.size+1)::E.S,k=t.St\/k∈E.S\/∃ c u fr,Ϙ w3 k (.cells c u fr)/\u ∉ [99,32,9,263,213,185,87]:=λk b=>by
   simp only[mC] at b;rcases b with h|h|h|h
   .exact .inl h
   .rw[h];exact .inr (.inr ⟨_,_,_,Z,dC⟩)
   .rw[h];exact .inr (.inr ⟨_,_,_,ab,dC⟩)
   .exact .inr (.inl h)
  have ar:=zh (R.turn Y aa ac ao);have au:=zh (HJ _ _ _ _ (t.St::E.S) o.out.jj O (λk b=>by
   rcases List.mem_cons.1 b with h|h
   .exact .inl h
   .exact .inr (.inl h)) aa ac)
  have ad:∀ {k:Nat} {c:Array Value} {u:TypeId} {fr:Nat × Nat},Ϙ wr k (.cells c u fr)->u≠169->u ∉ qO2->k ∉ t.St::E.S:=λb hu hdv D=>by
   rcases List.mem_cons.1 D with h1|h1
   .exact qA1 b o.out.inn.live.hSt hu h1
   .exact E.nin o.out.inn.live.dev b hdv h1
  have b3:=zh (O.heap o.out.hS (ad o.out.hS dC dC));have aj:=O.heap M.1 (ad M.1 dC dC);have b1:=zh z;have bz:=zh aj;have cg:=ζ z;have ch:=ζ C;have U:=ar.out.hH;have ce:=ζ U;have br:=o.out.le;have ap:=zh o.out.ahead;have y0:=ϻ U 0
  cases hq:(qE9 r.cont lo)[j]? with
  | none=>
   rw[hq] at C;have c0:=ϻ C 0;have aq:=zh (xE4 ae lo a br ap (λq h=>by rw[hq] at h;cases h));clear hq z C Y O ao ad R ak ai Z ab K aj aa ac a2 U
   gi_wp2
   refine⟨λ_ h=>(by cases h),?_⟩
   gi_wp2
   refine bodyPost_ret (results_none results176 _ _ _) rfl ?_;exact⟨⟨_,rfl⟩,.inl ⟨wr.heap.size,by rw[aq.out];exact au⟩⟩
  | some q=>
   rw[hq] at C z;simp only[pkv,Option.isSome_some] at C z;have c0:=ϻ C 0;have p0:=ξ z;obtain⟨al,a7⟩:=gS hq;have HQ:=zh hq
   cases hh:kl q.k a with
   | false=>
    have b7:Op.bytesLess q.k.toList a.toList=false:=hh;have aq:=zh (xE4 ae lo a br ap (λq' h=>by rw[hq] at h;cases h;exact hh));clear hq z C Y O ao ad R ak ai Z ab K aj aa ac a2 U hh al a7
    gi_wp2
    refine⟨λ_ h=>(by cases h),?_⟩
    gi_wp2
    refine bodyPost_ret (results_none results176 _ _ _) rfl ?_;exact⟨⟨_,rfl⟩,.inl ⟨wr.heap.size,by rw[aq.out];exact au⟩⟩
   | true=>
    have b7:Op.bytesLess q.k.toList a.toList=true:=hh;have an:(qE9 r.cont lo).take (j+1)=(qE9 r.cont lo).take j++[q]:=by rw[tA al,a7]
    have a9:Hid (∀ q'∈(qE9 r.cont lo).take (j+1),kl q'.k a=true):=λq' D=>by
     rw[an] at D;rcases mA D with D|D
     .exact ap q' D
     .rw[mS D];exact hh
    have bb:Hid ((qE9 r.cont lo).take j++[q] <+: r.cont.filter (inR lo a)):=by
     show _ <+: _;rw[<-an];exact jM1 ae lo a oM a9
    obtain⟨fn,cl,cb,cc,hy,hR⟩:=HY.out wr.heap.size ((qE9 r.cont lo).take j) q w4 au (by have:=O.size;omega) bb ar.out;have bc:=zh (n2 an al);have b2:=zh z;clear hq z C Y O ao ad R ak ai Z ab K aj aa ac a2 U hh al a7 an b1
    gi_wp2
    refine⟨λh=>(by cases h),hR.mono ?_⟩;clear hR hy;rintro e w5 ⟨SY,hYS,hKY,⟨rfl,hJ5⟩|⟨rfl,hJx⟩⟩
    .have V:=ar.out.round hYS hKY;have a0:=hYS.keep hKY b3 ⟨dC,.inl dC⟩;have H:=hYS.keep hKY bz ⟨dC,.inl dC⟩;have ay:=hYS.keep hKY b2 ⟨dC,.inr lR⟩;have cf:=ζ H;obtain⟨T,ca,bl,L⟩:∃ T,T=w5.setCell ⟨y,0,none⟩ (.func (.func 180) #[] #[ϖ wr.heap.size])/\Ϙ T y (.cells #[.func (.func 180) #[] #[ϖ wr.heap.size]] 92)/\Kp [y] w5 T:=⟨_,rfl,μ H 0 _,kF.sc _⟩;have am:∀ {k:Nat} {c:Array Value} {u:TypeId} {fr:Nat × Nat},Ϙ w5 k (.cells c u fr)->u≠92->k ∉ [y]:=λb hu D=>qA1 b H hu (mS D);have a3:=L.heap V.live.hSt (am V.live.hSt dC);have a6:=E.keepX w5 T [y] V.live.dev L (OffD.one H dC);have bg:=V.turn L a3 a6 (λk b=>by rw[mS b];exact .inr (.inr ⟨_,_,_,H,dC⟩));have bi:=HJ.out _ _ _ _ [y] hJ5 L (λk b=>by rw[mS b];exact .inr (.inr ⟨b5,_,_,H⟩)) a3 a6;have bw:Hid (AllSt E x A n t s r B F I lo a Sx y J (j+1) T):=
      ⟨bg,bc.2,a9,L.heap a0 (am a0 dC),.inr ⟨q,wr.heap.size,oM,HQ,bl,L.heap ay (am ay dC)⟩,by
       rw[bc.out.1];exact ba _ _ _ _ bi L.size⟩
     have n0:=ϻ H 0;have cd:=ψ H 0;clear V a0 ay bl L am a3 a6 bg bi hJ5 hYS hKY H
     gi_wp2
     rw[<-ca]
     gi_roundg (gk-1)
     .exact⟨j+1,oM,rfl,bw⟩
     .omega
    .have HX:=zh hJx;clear hJx hYS hKY
     gi_wp2
     refine bodyPost_ret (results_none results176 _ _ _) rfl ?_;exact⟨⟨_,rfl⟩,.inr ⟨_,bb,HX⟩⟩
end
section
attribute [local go_sem] Oper.semAt_some
theorem Kp.putObj{S}{a b}(h:Kp S a b){l:Nat}(c:l∈S\/a.heap.size<=l)(o):Kp S a (b.putObj l o):=
 ⟨h.os,h.tape,h.output,by have:=h.size;simp[World.putObj];omega,λk f d=>(World.putObj_heap_other (by
  rcases c with c|c
  .intro e;subst e;exact d c
  .omega)).trans (h.block k f d)⟩
structure ScI(E:SEnv)(t:Tx)(s:Sto)(Ob M:Nat)(rec:LoopState→Option Code→Loop)(w:World)(N:Nat)(pre:List KV)(W:World):Prop where
 kp:Kp (t.St::Ob::E.S) w W
 hSt:W.heap[t.St]?=some (ν 0 s)
 dev:E.Dev W
 out:∃ v,W.heap[Ob]?=some (.cells #[v] 29)∧OPA W w.heap.size v pre∧∀ k,v.ownBlock=some k→k<N
 le:pre.length≤M
 lt:w.heap.size+1<N
 dfr:W.heap[w.heap.size]?=some (.deferred (some []))
 loop:W.heap[w.heap.size+1]?=some (.loop (rec .ready none))
def ScX(E:SEnv)(t:Tx)(s:Sto)(Ob M id:Nat)(rec:LoopState→Option Code→Loop)(w:World)(pre:List KV)(W:World):Prop:=
 ∃ q p v,pre=q++[p]∧q.length=M∧Kp (t.St::Ob::E.S) w W∧W.heap[t.St]?=some (ν 0 s)∧E.Dev W∧W.heap[Ob]?=some (.cells #[v] 29)∧OPA W w.heap.size v q∧W.heap[w.heap.size]?=some (.deferred (some []))∧W.heap[w.heap.size+1]?=some (.loop (rec .done (some (.exit id))))
theorem OPA.keep{S}{w w'}{base:Nat}{v}{ps}(h:OPA w base v ps)(hK:Kp S w w')(i:∀ k∈S,∀ c fr,w.heap[k]?≠some (.cells c 42 fr)):OPA w' base v ps:=by
 refine⟨h.1,?_⟩;rcases h.2 with b|⟨g,cap,cur,d,e,a,f⟩
 .exact .inl b
 .exact .inr ⟨g,cap,cur,d,e,hK.heap a (λj=>i g j _ _ a),f⟩
theorem kQ8{nn:Nat}{g:Operand}{ps:Array Tmp}{assign body:Code}{Q:Exit→Act→World→Prop}{a:Act}{w:World}(E:SEnv)(x A n:Nat)(t:Tx)(s:Sto)(r:Root)(B Lc Hc Ob M id:Nat)(lo hi:ByteArray)(h1:1≤nn)
  (hg:a.eval g=.func (.func 176) #[] #[.pointer (some ⟨B,0,none⟩),.pointer (some ⟨Lc,0,none⟩),.pointer (some ⟨Hc,0,none⟩)]) (hps:ps.size=2)
  (hI:AllIn E x A n t s r B Lc Hc lo hi w) (hO:w.heap[Ob]?=some (.cells #[.slice none 0 0] 29))
  (a₁:KV→Nat→Act)
  (hassign:∀ (l:Nat) (p:KV) (W:World) (K:Act→World→Prop),K (a₁ p W.heap.size) (W.alloc (.cells #[.string p.k,.string p.v] 42))→
   assign.wpIn (Fence.wide.inRound l) (nn-1-1) prog (Exit.then K (fun _ _ _=>False)) { tmps:=(ps.zip #[.agg #[.string p.k,.string p.v],.nilIface]).foldl (fun t (p,v)=>t.setIfInBounds p v) a.tmps,defers:=[] } W)
  (hbody:∀ (l:Nat) (pre:List KV) (p:KV) (W:World) (v:Value) (Pb:Nat),W.heap[Ob]?=some (.cells #[v] 29)→OPA W w.heap.size v pre→W.heap[Pb]?=some (.cells #[.string p.k,.string p.v] 42)→w.heap.size≤Pb→v.ownBlock≠some Pb→Kp (t.St::Ob::E.S) w W→pre.length≤M→pre.length≤70000→
   body.wpIn (Fence.wide.inRound l) (nn-1-1) prog (fun e _ W3=>match e with
    | .normal=>pre.length<M∧∃ v3 S3,Kp S3 W W3∧(∀ k∈S3,k=Ob∨v.ownBlock=some k)∧W3.heap[Ob]?=some (.cells #[v3] 29)∧OPA W3 w.heap.size v3 (pre++[p])∧∀ k,v3.ownBlock=some k→k<W3.heap.size
    | .exit i=>i=id∧pre.length=M∧W3=W
    | _=>False) (a₁ p Pb) W)
  (hdone:∀ (W:World) (v:Value),Kp (t.St::Ob::E.S) w W→W.heap[t.St]?=some (ν 0 s)→E.Dev W→W.heap[Ob]?=some (.cells #[v] 29)→OPA W w.heap.size v (qG8 r.cont lo hi M)→W.heap[w.heap.size]?=some (.deferred (some []))→w.heap.size<W.heap.size→Q .normal { a with defers:={ target:=.collected w.heap.size,args:=#[] }::a.defers } W)
  (hstop:∀ (W:World) (v:Value),Kp (t.St::Ob::E.S) w W→W.heap[t.St]?=some (ν 0 s)→E.Dev W→W.heap[Ob]?=some (.cells #[v] 29)→OPA W w.heap.size v (qG8 r.cont lo hi M)→W.heap[w.heap.size]?=some (.deferred (some []))→w.heap.size<W.heap.size→(Code.exit id).wpIn Fence.wide nn prog Q { a with defers:={ target:=.collected w.heap.size,args:=#[] }::a.defers } W):
  (Code.rangeFunc g ps assign body).wpIn Fence.wide nn prog Q a w:=by
 refine wpIn_rangeFunc ?_;intro fn hfn;obtain⟨rec,hrec⟩:∃ rec:LoopState→Option Code→Loop,rec=fun st pe=>{ state:=st,pending:=pe,fn,tmps:=a.tmps,params:=ps,assign,body,defers:=w.heap.size }:=⟨_,rfl⟩;obtain⟨W1,hW1⟩:∃ W1,(w.alloc (.deferred (some []))).alloc (.loop (rec .ready none))=W1:=⟨_,rfl⟩;have hL1:W1.heap[w.heap.size+1]?=some (.loop (rec .ready none)):=by
  rw[←hW1];have:=World.alloc_heap_new (w.alloc (.deferred (some []))) (.loop (rec .ready none));rwa [World.size_alloc] at this
 have hD1:W1.heap[w.heap.size]?=some (.deferred (some [])):=by
  rw[←hW1];exact (Below.heap_alloc _ _ _ (by simp)).trans (World.alloc_heap_new w _)
 have hK1:Kp [] w W1:=by rw[←hW1];exact ((Kp.refl _ _).alloc _).alloc _
 have hs1:W1.heap.size=w.heap.size+2:=by rw[←hW1];simp
 have hI1:=hI.more hK1;refine⟨w.heap.size+1,[{ target:=.collected w.heap.size,args:=#[] }],W1,{ target:=.fn (.func 176) #[.pointer (some ⟨B,0,none⟩),.pointer (some ⟨Lc,0,none⟩),.pointer (some ⟨Hc,0,none⟩)],args:=#[.func (.yield (w.heap.size+1)) #[] #[]] },W1,176,
  #[.func (.yield (w.heap.size+1)) #[] #[],.pointer (some ⟨B,0,none⟩),.pointer (some ⟨Lc,0,none⟩),.pointer (some ⟨Hc,0,none⟩)],W1,?_,?_,?_,?_,fun h=>(by cases h),?_⟩
 ·rw[←hW1,hrec];exact run_enterLoop_outer _ _ _ _ _
 ·simp only[resolve,hg];simp[go_sem]
 ·intro f' hf';trivial
 ·simp[invoke,go_sem,zZ2]
 ·have hObs:=ζ hO;have hSts:=ζ hI.live.hSt;have hObSt:Ob≠t.St:=qA1 hO hI.live.hSt (by decide);refine (xV2 E x A n t s r B Lc Hc (w.heap.size+1) (nn-1) lo hi (ScI E t s Ob M rec w) (ScX E t s Ob M id rec w) W1 ?_ ?_ ?_ hI1 ?_).mono ?_
  ·
   intro N pre W W' S h hK hS hSt' hd';obtain⟨v,hv1,hv2,hv3⟩:=h.out;have hno:∀ k∈S,∀ c u fr,W.heap[k]?=some (.cells c u fr)→u=29∨u=42→False:=fun k hk c u fr e hu=>by
    rcases hS k hk with h1|h1|⟨_,c',fr',h1⟩
    ·rw[h1,h.hSt] at e;cases e;rcases hu with hu | hu<;>revert hu<;>decide
    ·exact E.nin h.dev e (by rcases hu with rfl | rfl<;>decide) h1
    ·rw[e] at h1;cases h1;rcases hu with hu | hu<;>revert hu<;>decide
   have hnl:∀ k∈S,∀ o,W.heap[k]?=some o→(∀ c u fr,o≠.cells c u fr)→False:=fun k hk o e ho=>by
    rcases hS k hk with h1|h1|⟨_,c',fr',h1⟩
    ·rw[h1,h.hSt] at e;cases e;exact ho _ _ _ rfl
    ·obtain⟨c',t',fr',h2,h3⟩:=E.offS W h.dev k h1;rw[e] at h2;cases h2;exact ho _ _ _ rfl
    ·rw[e] at h1;cases h1;exact ho _ _ _ rfl
   refine⟨h.kp.trans hK (fun i hi hlt=>?_),hSt',hd',⟨v,hK.heap hv1 (fun hm=>hno _ hm _ _ _ hv1 (.inl rfl)),hv2.keep hK (fun k hk c fr e=>hno k hk _ _ _ e (.inr rfl)),hv3⟩,h.le,h.lt,hK.heap h.dfr (fun hm=>hnl _ hm _ h.dfr (by intros;simp)),hK.heap h.loop (fun hm=>hnl _ hm _ h.loop (by intros;simp))⟩;rcases hS i hi with h1|h1|⟨h1,_⟩
   ·simp[h1]
   ·simp[h1]
   ·omega
  ·intro N N' pre W h hN;obtain⟨v,hv1,hv2,hv3⟩:=h.out;exact { h with out:=⟨v,hv1,hv2,fun k hk=>by have:=hv3 k hk;omega⟩,lt:=by have:=h.lt;omega }
  ·
   intro N pre p W h hNs hpre hA;obtain⟨v,hv1,hv2,hv3⟩:=h.out;have hlt:w.heap.size+1<W.heap.size:=ζ h.loop;have hy:=run_yield (P:=prog) (args:=#[.agg #[.string p.k,.string p.v],.nilIface]) h.loop (by rw[hrec];simp[hps]);rw[hrec] at hy;refine⟨fn,_,assign,body,hy,roundIn_of_wpIn hfn (hassign _ p W _ ?_)⟩;clear hy;have hKa:Kp [] W (W.alloc (.cells #[.string p.k,.string p.v] 42)):=(Kp.refl _ _).alloc _;have hLa:=hKa.hp h.loop;refine⟨_,run_beginRound hLa (by rw[hrec]),?_⟩;obtain⟨W2,hW2,hL2,hK2,hP2,hs2⟩:∃ W2,W2=(W.alloc (.cells #[.string p.k,.string p.v] 42)).putObj (w.heap.size+1) (.loop { rec .ready none with state:=.busy })∧W2.heap[w.heap.size+1]?=some (.loop { rec .ready none with state:=.busy })∧Kp [w.heap.size+1] W W2∧W2.heap[W.heap.size]?=some (.cells #[.string p.k,.string p.v] 42)∧W2.heap.size=W.heap.size+1:=
    ⟨_,rfl,World.putObj_heap_same (by simp;omega),((hKa.mono (by simp)).putObj (by simp) _),(World.putObj_heap_other (by omega)).trans (υ _ _),by simp[World.putObj]⟩
   rw[←hW2];clear hW2 hKa hLa;have hne2:∀ {k:Nat} {c:Array Value} {u:TypeId} {fr:Nat × Nat},W.heap[k]?=some (.cells c u fr)→k ∉ [w.heap.size+1]:=fun hk hm=>by
    rw[List.mem_singleton.1 hm,h.loop] at hk;cases hk
   have hO2:=hK2.heap hv1 (hne2 hv1);have hOP2:OPA W2 w.heap.size v pre:=hv2.keep hK2 (fun k hk c fr e=>by rw[List.mem_singleton.1 hk,h.loop] at e;cases e);have hkw2:Kp (t.St::Ob::E.S) w W2:=h.kp.trans hK2 (by intro i hi hlt;simp at hi;omega);have hown:∀ k,v.ownBlock=some k→k<N∧∃ cur,W.heap[k]?=some (.cells cur 42):=fun k hk=>⟨hv3 k hk,by
    rcases hv2.2 with⟨h0,_⟩|⟨gb,cap,cur,e1,e2,e3,_⟩
    ·rw[h0] at hk;cases hk
    ·rw[e1] at hk;cases hk;exact⟨cur,e3⟩⟩
   have hlen:pre.length≤70000:=by
    have h1:=List.IsPrefix.length_le hpre;have h2:=List.length_filter_le (inR lo hi) r.cont;have h3:=hI.live.sz;simp at h1;omega
   refine wpIn_mono (hbody _ pre p W2 v W.heap.size hO2 hOP2 hP2 (by omega) (fun e=>by have:=(hown _ e).1;omega) hkw2 h.le hlen) ?_;rintro e a3 W3 hp
   cases e with
   | normal=>
    obtain⟨hm,v3,S3,hK3,hS3,hO3,hOP3,hv33⟩:=hp;have hL3:W3.heap[w.heap.size+1]?=some (.loop { rec .ready none with state:=.busy }):=hK3.heap hL2 (fun hmm=>by
     rcases hS3 _ hmm with e|e
     ·rw[←e] at hv1;rw[h.loop] at hv1;cases hv1
     ·obtain⟨_,cur,e2⟩:=hown _ e;rw[h.loop] at e2;cases e2)
    have hr:=run_endRound (P:=prog) none hL3;rw[hrec] at hr;have hK13:Kp ((w.heap.size+1)::S3) W W3:=(hK2.mono (by simp +contextual)).trans hK3 (by simp +contextual);have hin3:∀ k∈S3,k∈[Ob]∨w.heap.size≤k:=fun k hk=>by
     rcases hS3 k hk with e|e
     ·exact .inl (by simp[e])
     ·exact .inr (hv2.low k e)
    have hs3:=hK3.size;have hYS:YS W N ((w.heap.size+1)::S3):=fun k hk=>by
     rcases List.mem_cons.1 hk with e|e
     ·rw[e];exact⟨h.lt,.inr ⟨_,h.loop⟩⟩
     ·rcases hS3 k e with e2|e2
      ·rw[e2];refine⟨?_,.inl ⟨_,_,_,hv1,.inl rfl⟩⟩;have:=h.lt;omega
      ·obtain⟨e3,cur,e4⟩:=hown k e2;exact⟨e3,.inl ⟨_,_,_,e4,.inr rfl⟩⟩
    have hKf:Kp ((w.heap.size+1)::S3) W (W3.putObj (w.heap.size+1) (.loop (rec .ready none))):=hK13.putObj (by simp) _;have hSt3:=hYS.keep hKf h.hSt ⟨by decide,.inl (by decide)⟩;have hneL:∀ {k:Nat} {c:Array Value} {u:TypeId} {fr:Nat × Nat},W3.heap[k]?=some (.cells c u fr)→k≠w.heap.size+1:=fun hk e=>by rw[e,hL3] at hk;cases hk
    refine⟨_,_,hr,((w.heap.size+1)::S3),hYS,?_,.inl ⟨rfl,?_⟩⟩
    ·rw[hrec] at hKf;exact hKf
    ·have hfin:ScI E t s Ob M rec w (W3.putObj (w.heap.size+1) (.loop (rec .ready none))).heap.size (pre++[p]) (W3.putObj (w.heap.size+1) (.loop (rec .ready none))):=by
      refine⟨h.kp.trans hKf (fun i hi hlt=>?_),hSt3,E.keepX _ _ _ h.dev hKf hYS.off,⟨v3,(World.putObj_heap_other (hneL hO3)).trans hO3,hOP3.keep ((Kp.refl [w.heap.size+1] W3).putObj (by simp) _) (fun k hk c fr e=>by rw[List.mem_singleton.1 hk,hL3] at e;cases e),fun k hk=>by have:=hv33 k hk;simp[World.putObj];omega⟩,by simp;omega,by simp[World.putObj];omega,?_,World.putObj_heap_same (ζ hL3)⟩
      ·rcases List.mem_cons.1 hi with e|e
       ·omega
       ·rcases hin3 i e with e2|e2
        ·simp at e2;simp[e2]
        ·omega
      ·refine (World.putObj_heap_other (by omega)).trans (hK13.heap h.dfr (fun hm=>?_));rcases List.mem_cons.1 hm with e|e
       ·omega
       ·rcases hS3 _ e with e2|e2
        ·rw[←e2] at hv1;rw[h.dfr] at hv1;cases hv1
        ·obtain⟨_,cur,e4⟩:=hown _ e2;rw[h.dfr] at e4;cases e4
     rw[hrec] at hfin ⊢;exact hfin
   | exit i=>
    obtain⟨rfl,hm,rfl⟩:=hp;have hr:=run_endRound (P:=prog) (some (.exit i)) hL2;rw[hrec] at hr;have hYS:YS W N [w.heap.size+1]:=fun k hk=>by rw[List.mem_singleton.1 hk];exact⟨h.lt,.inr ⟨_,h.loop⟩⟩
    have hKf:Kp [w.heap.size+1] W (W3.putObj (w.heap.size+1) (.loop (rec .done (some (.exit i))))):=hK2.putObj (by simp) _;refine⟨_,_,hr,[w.heap.size+1],hYS,?_,.inr ⟨rfl,?_⟩⟩
    ·rw[hrec] at hKf;exact hKf
    ·have hfin:ScX E t s Ob M i rec w (pre++[p]) (W3.putObj (w.heap.size+1) (.loop (rec .done (some (.exit i))))):=
      ⟨pre,p,v,rfl,hm,h.kp.trans hKf (by intro i hi hlt;simp at hi;omega),hYS.keep hKf h.hSt ⟨by decide,.inl (by decide)⟩,E.keepX _ _ _ h.dev hKf hYS.off,hKf.heap hv1 (hne2 hv1),hv2.keep hKf (fun k hk c fr e=>by rw[List.mem_singleton.1 hk,h.loop] at e;cases e),hKf.hp h.dfr,World.putObj_heap_same (ζ hL2)⟩
     rw[hrec] at hfin ⊢;exact hfin
   | ret=>exact hp.elim
   | goto l=>exact hp.elim
   | panic ch=>exact hp.elim
   | outgrown=>exact hp.elim
  ·exact⟨hK1.mono (by simp),hI1.live.hSt,hI1.live.dev,⟨_,hK1.hp hO,OPA.nil _ _,fun k hk=>by cases hk⟩,Nat.zero_le _,by omega,hD1,hL1⟩
  ·
   rintro e W2 ⟨⟨v,rfl⟩,⟨N,h⟩|⟨pre,hpre,q,p,v2,rfl,hM,hkp,hSt2,hd2,hO2,hOP2,hD2,hL2⟩⟩
   ·obtain⟨v2,hO2,hOP2,_⟩:=h.out;have hr:=run_endLoop (P:=prog) h.loop (by rw[hrec];simp);rw[hrec] at hr;have hKf:Kp [w.heap.size+1] W2 (W2.putObj (w.heap.size+1) (.loop { rec .ready none with state:=.exhausted })):=(Kp.refl _ _).putObj (by simp) _;have hsc:qG8 r.cont lo hi M=r.cont.filter (inR lo hi):=by
     rw[qG8];exact List.take_of_length_le (by have:=h.le;simp;omega)
    have hneL:∀ {k:Nat} {c:Array Value} {u:TypeId} {fr:Nat × Nat},W2.heap[k]?=some (.cells c u fr)→k ∉ [w.heap.size+1]:=fun hk hm=>by rw[List.mem_singleton.1 hm,h.loop] at hk;cases hk
    refine⟨none,_,hr,?_⟩;have:=hdone (W2.putObj (w.heap.size+1) (.loop { rec .ready none with state:=.exhausted })) v2 (h.kp.trans hKf (by intro i hi hlt;simp at hi;omega)) (hKf.heap h.hSt (hneL h.hSt)) (E.keepX _ _ _ h.dev hKf (fun k hk c u fr e=>by rw[List.mem_singleton.1 hk,h.loop] at e;cases e)) (hKf.heap hO2 (hneL hO2)) (by rw[hsc];exact hOP2.keep hKf (fun k hk c fr e=>by rw[List.mem_singleton.1 hk,h.loop] at e;cases e)) (hKf.hp h.dfr) (by have:=ζ h.loop;simp[World.putObj];omega);rw[hrec] at this;exact this
   ·have hr:=run_endLoop (P:=prog) hL2 (by rw[hrec];simp);rw[hrec] at hr;have hKf:Kp [w.heap.size+1] W2 (W2.putObj (w.heap.size+1) (.loop { rec .done (some (.exit id)) with state:=.exhausted })):=(Kp.refl _ _).putObj (by simp) _;have hsc:qG8 r.cont lo hi M=q:=by
     rw[qG8];obtain⟨z,hz⟩:=hpre;rw[←hz,Int.toNat_natCast,List.append_assoc,←hM,List.take_left'];rfl
    have hneL:∀ {k:Nat} {c:Array Value} {u:TypeId} {fr:Nat × Nat},W2.heap[k]?=some (.cells c u fr)→k ∉ [w.heap.size+1]:=fun hk hm=>by rw[List.mem_singleton.1 hm,hL2] at hk;cases hk
    refine⟨some (.exit id),_,hr,?_⟩;have:=hstop (W2.putObj (w.heap.size+1) (.loop { rec .done (some (.exit id)) with state:=.exhausted })) v2 (hkp.trans hKf (by intro i hi hlt;simp at hi;omega)) (hKf.heap hSt2 (hneL hSt2)) (E.keepX _ _ _ hd2 hKf (fun k hk c u fr e=>by rw[List.mem_singleton.1 hk,hL2] at e;cases e)) (hKf.heap hO2 (hneL hO2)) (by rw[hsc];exact hOP2.keep hKf (fun k hk c fr e=>by rw[List.mem_singleton.1 hk,hL2] at e;cases e)) (hKf.hp hD2) (by have:=ζ hL2;simp[World.putObj];omega);rw[hrec] at this;exact this
end
section
attribute [local go_sem] Oper.semAt_some
theorem kO1(w:World)(a b:Value)(t:TypeId):∀ j u,[a,b][j]?=some u->(w.alloc (.cells #[a,b] t)).cell? ((⟨w.heap.size,0,none⟩:Addr).add j)=some u:=λj u hj=>by
 rw[qH0,ξ (υ _ _)];simpa using hj
theorem jN2{W b:World}{X:Obj}{a:Option Nat}{k:Nat}{o:Obj}(h:W.heap[k]?=some o)(c:(W.alloc X).grownBy b a)(d:a≠some k):b.heap[k]?=some o:=
 (c.block k (by have:=ζ h;simp;omega) (λe=>d e.symm)).trans (ρ _ h)
theorem OPA.keepR{S}{w w'}{base n sz:Nat}{v}{xs:List Value}(h:w.ownsRow base 42 sz v n xs)(hK:Kp S w w')(i:∀ k∈S,∀ c fr,w.heap[k]?≠some (.cells c 42 fr)):w'.ownsRow base 42 sz v n xs:=by
 refine⟨h.1,?_⟩;rcases h.2 with b|⟨g,cap,cur,d,e,a,f⟩
 .exact .inl b
 .exact .inr ⟨g,cap,cur,d,e,hK.heap a (λj=>i g j _ _ a),f⟩
theorem xP9(E)(x A n:Nat)(t)(s)(r)(lo a)(g:Int)(w)(P:LiveT E w x A n t s r)(bz:-9223372036854775808<=g)(b0:g<=9223372036854775807):
  Calls prog 71 #[.pointer (some ⟨x,0,none⟩),.string lo,.string a,.int .i64 g] w λe w'=>∃ v,e=.returned (.tuple #[v,.nilIface])/\OPA w' w.heap.size v (qG8 r.cont lo a g)/\BadT E w w' t s:=by
 have HL:=zh P;have b6:=ζ P.hx;have bv:=ζ P.hSt;clear P;obtain⟨M,hM⟩:∃ M:Nat,M=g.toNat:=⟨_,rfl⟩;have a1:Hid (qG8 r.cont lo a g=qG8 r.cont lo a M):=by show _=_;rw[qG8,qG8,hM,Int.toNat_natCast]
 obtain⟨i0,ba,bh,bi,bj⟩:=info_parts zO2;refine (callsIn_wide (n:=9)).1 ?_;refine callsIn_of_wp_marks func71 rfl trivial ?_ rfl;simp only[ntmps71,List.size_toArray,List.length_cons,List.length_nil,Nat.reduceAdd,Nat.reduceSub,Array.replicate_succ,Array.replicate_zero,List.push_toArray,List.append_toArray,List.nil_append,List.cons_append];obtain⟨j,au,an,ap,ai,ao,Z,ad⟩:=alG w (.cells #[ϊ (M:Int)] 3) (.cells #[.slice none 0 0] 29) (.cells #[.nilIface] 38) (.cells #[.slice none 0 0] 29)
 have ag:=zh au;have a0:=zh ad;clear au ad;by_cases hb:g<1
 focus
  obtain⟨bb,aq⟩:=eX true;have m:(0:Int)=(M:Int):=oM
  have Y:=zh m;clear m hM
  gi_wp2_with fail
  refine⟨trivial,?_⟩;rw[Y.out,<-ag.out]
 rotate_left
 focus
  obtain⟨bb,aq⟩:=eX false;have m:g=(M:Int):=oM
  have Y:=zh m;clear m hM
  gi_wp2_with fail
  refine⟨trivial,?_⟩;have G:(((w.alloc (.cells #[ϊ g] 3)).alloc (.cells #[.slice none 0 0] 29)).alloc (.cells #[.nilIface] 38)).alloc (.cells #[.slice none 0 0] 29)=j:=by rw[ag.out,<-Y.out]
  rw[G];clear G
 all_goals
  have al:=HL.out.more Z;refine callsIn_wide.2 ((zW2 x lo a j).mono ?_);rintro e J ⟨rfl,ah,am,aj,B⟩;have N:AllIn E x A n t s r j.heap.size (j.heap.size+1) (j.heap.size+2) lo a J:=⟨al.more B,ah,am,aj⟩;have m:=B.hp an;have U:=B.hp ap;have L:=B.hp ai;have R:=B.hp ao;have ax:=zh (Z.tr B);have b2:=B.size;clear an ap ai ao Z B ah am aj al
  gi_wp2_with fail
  have bu:t.St≠w.heap.size+1+1+1:=oM
  refine kQ8 E x A n t s r j.heap.size (j.heap.size+1) (j.heap.size+2) (w.heap.size+1+1+1) M 0 lo a dC rfl rfl N R (λp Pb=>{ tmps:=#[ϖ x,.string lo,.string a,ϊ g,undef,undef,undef,ϖ w.heap.size,ϖ (w.heap.size+1),ϖ (w.heap.size+1+1),ϖ (w.heap.size+1+1+1),ϖ Pb,.nilIface,ϊ g,.bool bb,ϖ x,.string lo,.string a,.func (.func 176) #[] #[ϖ j.heap.size,ϖ (j.heap.size+1),ϖ (j.heap.size+2)],.agg #[.string p.k,.string p.v],.nilIface,undef,undef,undef,undef,undef,undef,undef,undef,undef,undef,undef,undef],defers:=[] }) ?_ ?_ ?_ ?_
  .intro l p W K hK
   gi_wp2
   subst aq;exact hK
  .intro l z p W v Pb d C T br b1 f bw bx;have Q:=f.heap m (by
    simp only[List.mem_cons,not_or];exact⟨oM,oM,λh=>by have:=E.low w HL.dev _ h;omega⟩)
   have a6:=ζ d;have bs:=ζ T;have bq:=ζ Q;have o0:=ϻ d 0;have bl:=ψ d 0;have p0:=ξ T;have m0:=ϻ Q 0;obtain⟨o,q,rfl⟩:=C.form;by_cases hq:z.length=M
   .have bg:(z.length:Int)=(M:Int):=oM
    clear m U L R N d T Q
    gi_wp2
    all_goals exact⟨rfl,hq,rfl⟩
   .have bg:¬(z.length:Int)=(M:Int):=oM
    have af:=zh (n3 d C f);have b5:=f.size;have ay:Hid ((Value.slice o z.length q).ownBlock≠some (w.heap.size+1+1+1)):=λe=>by
     rcases C.2 with⟨h0,_⟩|⟨gb,cap,cur,e1,e2,e3,_⟩
     .rw[h0] at e;cases e
     .rw[e1] at e;cases e;rw[d] at e3;cases e3
    clear m U L R N d T Q C f
    gi_wp2_with (gi_at_builtin;refine wpListIn_append_own _ rfl _ _ 29 rfl J.heap.size 42 i0 (.agg #[.string ⟨#[]⟩,.string ⟨#[]⟩]) 2 32 underlying29 ba bh bi bj rfl dC _ _ _ rfl (World.ownsRow.alloc af.2.1 _) ⟨W.heap.size,0,none⟩ 1 1 [.string p.k,.string p.v] rfl rfl (kO1 _ _ _ _) (by simp[Value.oneCell']) (by unfold maxLen;omega) oM sO ?_;intro v5 F aa ab _;obtain⟨g5,c5,rfl⟩:=qL7 aa;have S:=jN2 af.1 ab ay.out;have o5:=ξ S 0;have bm:=ψ S 0;simp only[zG,zH] at o5)
    have bf:z.length<M:=oM
    have b3:=ab.size;refine⟨bf,.slice (some ⟨g5,0,none⟩) (z.length+1) c5,[w.heap.size+1+1+1]++(Value.slice o z.length q).ownBlock.toList,?_,?_,μ S 0 _,?_,?_⟩
    .refine ((((Kp.refl _ W).alloc _).grown ab (λk b=>.inl (List.mem_append.2 (.inr (by have bc:(Value.slice o z.length q).ownBlock=some k:=b;rw[bc];simp))))).sc _)
    .intro k b;rcases List.mem_append.1 b with h|h
     .exact .inl (List.mem_singleton.1 h)
     .exact .inr (by simpa using h)
    .have e:=kB0 z p;unfold OPA;rw[e,List.length_append];refine OPA.keepR aa ((Kp.refl [w.heap.size+1+1+1] F).sc _) (λk b c fr e=>?_);rw[List.mem_singleton.1 b,S] at e;cases e
    .intro k b;have:=(World.ownsRow.lt aa k b).2;simp[World.setCell];omega
  all_goals
   intro W v f V X d C H ar;have ac:∀ k,w.heap.size<=k->k≠w.heap.size+1+1+1->k ∉ t.St::(w.heap.size+1+1+1)::E.S:=λk b hne hm=>by
    simp only[List.mem_cons] at hm;rcases hm with h|h|h
    .omega
    .omega
    .have:=E.low w HL.dev _ h;omega
   have y:=f.heap U (ac _ oM oM);have u:=f.heap L (ac _ oM oM);have a6:=ζ d;have bt:=ζ y;have bp:=ζ u;obtain⟨o,q,a9⟩:=C.form;subst a9;have o0:=ϻ d 0;have r0:=ϻ y 0;have bn:=ψ y 0;have G:=ϻ u 0;have bk:=ψ u 0;obtain⟨I,ae⟩:=eX ((qG8 r.cont lo a M).length);rw[<-ae] at o0;have az:Hid (OPA W J.heap.size (.slice o I q) (qG8 r.cont lo a M)):=by rw[ae];exact C
   have HW:=zh (n6 V X f y u H);clear m U L R N V X f y u H d C ae ac
   gi_wp2
   obtain⟨V,X,f,y,u,H⟩:=HW.out;have ad:=a0.out;have ak:=(ax.mono sM).trans f (λ_ h _=>h);have b4:=ak.size;have bo:=E.low w HL.dev;obtain⟨D,av,a7,a3,a2,a5⟩:∃ D,D=(W.setCell ⟨w.heap.size+1,0,none⟩ (.slice o I q)).setCell ⟨w.heap.size+1+1,0,none⟩ .nilIface/\D.heap[w.heap.size+1]?=some (.cells #[.slice o I q] 29)/\D.heap[w.heap.size+1+1]?=some (.cells #[.nilIface] 38)/\Ϙ D J.heap.size (.deferred (some []))/\Kp [w.heap.size+1,w.heap.size+1+1] W D:=
    ⟨_,rfl,(qB2 oM _ _).trans (μ y 0 _),μ ((qB2 oM _ _).trans u) 0 _,(qB2 oM _ _).trans ((qB2 oM _ _).trans H),((Kp.refl _ _).sc _).sc _⟩
   rw[<-av];clear av;refine⟨sM,.inl ⟨_,_,rfl,run_takeDeferred a2,?_⟩⟩;obtain⟨F,aw,a8,a4,O⟩:∃ F,F=D.putObj J.heap.size (.deferred none)/\F.heap[w.heap.size+1]?=some (.cells #[.slice o I q] 29)/\F.heap[w.heap.size+1+1]?=some (.cells #[.nilIface] 38)/\Kp [w.heap.size+1,w.heap.size+1+1,J.heap.size] W F:=
    ⟨_,rfl,(World.putObj_heap_other oM).trans a7,(World.putObj_heap_other oM).trans a3,(a5.mono (by simp +contextual)).putObj sM _⟩
   rw[<-aw];clear aw;have r0:=ξ a8 0;have G:=ξ a4 0;simp only[zG,zH] at r0 G;have bd:=(OffD.one y dC).cons ((OffD.one u dC).cons (λk b c t fr e=>by rw[List.mem_singleton.1 b,H] at e;cases e));have be:=az.out.keep O (λk b c fr e=>by
    simp only[List.mem_cons,List.not_mem_nil,or_false] at b;rcases b with h|h|h
    .rw[h,y] at e;cases e
    .rw[h,u] at e;cases e
    .rw[h,H] at e;cases e)
   refine⟨.tuple #[.slice o I q,.nilIface],?_,.slice o I q,rfl,?_,E.keepX _ _ _ X O bd,O.heap V ?_,ak.trans O ?_ |>.mono ?_⟩
   .simp[results,results71,go_sem,r0,G]
   .rw[a1.out];exact qL0 be oM
   .simp only[List.mem_cons,List.not_mem_nil,or_false,not_or];exact⟨oM,oM,oM⟩
   .intro i a ar;simp at a;omega
   .intro i a ar;simp only[List.mem_cons] at a |-;rcases a with h|h|h
    .exact .inl h
    .omega
    .exact .inr h
end
section
attribute [local go_sem] Oper.semAt_some
theorem xV1(x:Nat)(t)(s)(B f I l m:Nat)(o:World->Prop)(w)(C:w.heap[x]?=some (qA5 t))(K:t.over=true)(j:w.heap[t.St]?=some (ν 0 s))(L:s.po=false)(D:x≠t.St)(i:w.heap[B]?=some (.cells #[.pointer (some ⟨x,0,none⟩)] 32))
  (z:∀ W F g,Kp [t.St] w W->W.heap[t.St]?=some (ν 0 s)->W.heap[F]?=some (.cells #[.string g,.iface 45 (.int .i64 5)] 246)->YieldAt Fence.wide (m-1) prog l #[.agg #[.string ⟨#[]⟩,.string ⟨#[]⟩],.iface 243 (.pointer (some ⟨F,0,none⟩))] W λe W'=>e=.returned (.bool false)/\o W'):
  CallsIn Fence.wide m prog 176 #[.func (.yield l) #[] #[],.pointer (some ⟨B,0,none⟩),.pointer (some ⟨f,0,none⟩),.pointer (some ⟨I,0,none⟩)] w λe N=>(∃ v,e=.returned v)/\o N:=by
 have T:=zM;have H:=zh z;have d:=zh (n3 C D j);have q:=ρ (.cells ϛ 89) i;have p:=ξ q 0;simp only[zG,zH] at p;have R:=ζ i;have S:=ζ j;clear z q C D j i;refine callsIn_of_wp func176 rfl trivial ?_ rfl;simp only[ntmps176,List.size_toArray,lC,List.length_nil,Nat.reduceAdd,Nat.reduceSub,Array.replicate_succ,Array.replicate_zero,List.push_toArray,aT,nA,cA]
 gi_wp2_with fail
 refine⟨trivial,λh=>(by cases h),?_⟩;obtain⟨c,A,b⟩:∃ c,c=w.alloc (.cells ϛ 89)/\Kp [] w c:=⟨_,rfl,kF.alloc _⟩;rw[<-A];clear A p;refine callsIn_wide.2 ((qZ6 x t.St 177 t s #[] _ _ c (b.hp d.1) K rfl (b.hp d.2.2) L d.2.1).mono ?_);rintro e n ⟨v,rfl,⟨F,g,rfl,hF⟩,hSt1,hK1⟩;have u:=(b.mono sM).trans hK1 (λ_ h _=>h);have U:∀ W:World,Sem.run prog (binOp .eql 38 (.iface 243 (ϖ F)) .nilIface) W=.ok (.bool false) W:=λW=>by kernel_rfl
 have a:Kp [] n (n.alloc (.cells #[.func (.func 178) #[] #[ϖ f]] 92)):=kF.alloc _;obtain⟨E,k⟩:=eX (n.alloc (.cells #[.func (.func 178) #[] #[ϖ f]] 92));rw[<-k] at a;obtain⟨Q,V,O,P,M,y⟩:=H.out E F g (u.tr a) (a.hp hSt1) (a.hp hF);clear b hK1 u a hSt1 hF
 gi_wp2_with fail
 rw[<-k];clear k
 gi_loopw [6] (λJ wr=>J=.iface 243 (ϖ F)/\wr=E) (λ_ _=>0)
 case atStart=>exact⟨rfl,rfl⟩
 case round=>
  obtain⟨rfl,rfl⟩:=hrel
  gi_wp2
  refine⟨λh=>(by cases h),y.mono ?_⟩;rintro e X ⟨rfl,r⟩;have G:=zh r;clear r M y
  gi_wp2
  go_end0
  exact⟨⟨_,rfl⟩,G⟩
def xU1(R:World→World→Prop)(W W3:World):Prop:=∃ S3:List Nat,Kp S3 W W3∧(∀ k∈S3,∃ c u fr,W.heap[k]?=some (.cells c u fr)∧u≠169∧u≠246)∧R W W3
def xU2(B1 B2:Nat)(W W3:World):Prop:=∃ F,(∃ call,W.heap[F]?=some (.cells #[.string call,.iface 45 (.int .i64 5)] 246))∧W3.heap[B1]?=some (.cells #[.slice none 0 0] 29)∧W3.heap[B2]?=some (.cells #[.iface 243 (.pointer (some ⟨F,0,none⟩))] 38)∧Kp [B1,B2] W W3
theorem kR0{nn:Nat}{g:Operand}{ps:Array Tmp}{assign body:Code}{Q:Exit->Act->World->Prop}{a:Act}{w:World}(x:Nat)(t:Tx)(s:Sto)(B Lc Hc:Nat)(Ty:TypeId)(h1:1<=nn)
  (hg:a.eval g=.func (.func 176) #[] #[.pointer (some ⟨B,0,none⟩),.pointer (some ⟨Lc,0,none⟩),.pointer (some ⟨Hc,0,none⟩)]) (hps:ps.size=2)
  (hx:w.heap[x]?=some (qA5 t)) (ho:t.over=true) (hSt:w.heap[t.St]?=some (ν 0 s)) (hpo:s.po=false) (hxS:x≠t.St) (hB:w.heap[B]?=some (.cells #[.pointer (some ⟨x,0,none⟩)] 32))
  (a₁:Value->Nat->Act) (R:World->World->Prop)
  (hassign:∀ (l:Nat) (v:Value) (W:World) (K:Act->World->Prop),K (a₁ v W.heap.size) (W.alloc (.cells #[.string ⟨#[]⟩,.string ⟨#[]⟩] 42))->
   assign.wpIn (Fence.wide.inRound l) (nn-1-1) prog (Exit.then K (λ_ _ _=>False)) { tmps:=(ps.zip #[.agg #[.string ⟨#[]⟩,.string ⟨#[]⟩],v]).foldl (λt (p,v)=>t.setIfInBounds p v) a.tmps,defers:=[] } W)
  (hbody:∀ (l F:Nat) (call:ByteArray) (W:World) (Pb:Nat),Kp [t.St] w W->W.heap[t.St]?=some (ν 0 s)->W.heap[F]?=some (.cells #[.string call,.iface 45 (.int .i64 5)] 246)->
   body.wpIn (Fence.wide.inRound l) (nn-1-1) prog (λe _ W3=>match e with
    | .ret=>xU1 R W W3
    | _=>False) (a₁ (.iface 243 (.pointer (some ⟨F,0,none⟩))) Pb) W)
  (hstop:∀ (W:World),(∃ (Wa W3:World) (F:Nat) (call:ByteArray) (S3:List Nat),Kp [t.St] w Wa/\Wa.heap[F]?=some (.cells #[.string call,.iface 45 (.int .i64 5)] 246)/\Wa.heap[t.St]?=some (ν 0 s)/\R Wa W3/\Kp S3 Wa W3/\(∀ k∈S3,∃ c u fr,Wa.heap[k]?=some (.cells c u fr)/\u≠169/\u≠246)/\Kp [w.heap.size+1] W3 W/\(∃ rr,W3.heap[w.heap.size+1]?=some (.loop rr)))->W.heap[w.heap.size]?=some (.deferred (some []))->(Code.ret).wpIn Fence.wide nn prog Q { a with defers:={ target:=.collected w.heap.size,args:=#[] }::a.defers } W):
  (Code.rangeFunc g ps assign body).wpIn Fence.wide nn prog Q a w:=by
 refine wpIn_rangeFunc ?_;intro fn hfn;obtain⟨rec,hrec⟩:∃ rec:LoopState->Option Code->Loop,rec=λst pe=>{ state:=st,pending:=pe,fn,tmps:=a.tmps,params:=ps,assign,body,defers:=w.heap.size }:=⟨_,rfl⟩;obtain⟨W1,hW1⟩:=eY ((w.alloc (.deferred (some []))).alloc (.loop (rec .ready none)));have hL1:W1.heap[w.heap.size+1]?=some (.loop (rec .ready none)):=by
  rw[<-hW1];have:=World.alloc_heap_new (w.alloc (.deferred (some []))) (.loop (rec .ready none));rwa [World.size_alloc] at this
 have hD1:Ϙ W1 w.heap.size (.deferred (some [])):=by
  rw[<-hW1];exact (Below.heap_alloc _ _ _ sM).trans (World.alloc_heap_new w _)
 have hK1:Kp [] w W1:=by rw[<-hW1];exact (kF.alloc _).alloc _
 have hs1:W1.heap.size=w.heap.size+2:=by rw[<-hW1];simp
 have hSts:=ζ hSt;refine⟨w.heap.size+1,[{ target:=.collected w.heap.size,args:=#[] }],W1,{ target:=.fn (.func 176) #[ϖ B,ϖ Lc,ϖ Hc],args:=#[.func (.yield (w.heap.size+1)) #[] #[]] },W1,176,
  #[.func (.yield (w.heap.size+1)) #[] #[],ϖ B,ϖ Lc,ϖ Hc],W1,?_,?_,?_,?_,λh=>(by cases h),?_⟩
 .rw[<-hW1,hrec];exact run_enterLoop_outer _ _ _ _ _
 .simp only[resolve,hg];simp[go_sem]
 .intro f' hf';trivial
 .simp[invoke,go_sem,zZ2]
 .refine (xV1 x t s B Lc Hc (w.heap.size+1) (nn-1) (λW=>W.heap[w.heap.size+1]?=some (.loop (rec .done (some .ret)))/\Ϙ W w.heap.size (.deferred (some []))/\∃ (Wa W3:World) (F:Nat) (call:ByteArray) (S3:List Nat),Kp [t.St] w Wa/\Ϙ Wa F (.cells #[.string call,.iface 45 (ϊ 5)] 246)/\Ϙ Wa t.St (ν 0 s)/\R Wa W3/\Kp S3 Wa W3/\(∀ k∈S3,∃ c u fr,Ϙ Wa k (.cells c u fr)/\u≠169/\u≠246)/\Kp [w.heap.size+1] W3 W/\(∃ rr,W3.heap[w.heap.size+1]?=some (.loop rr))) W1 (hK1.hp hx) ho (hK1.hp hSt) hpo hxS (hK1.hp hB) ?_).mono ?_
  .intro W F call hK hStW hF;have hL:=hK.ho hL1;have hD:=hK.ho hD1;have hlt:=ζ hL;have hy:=run_yield (P:=prog) (args:=#[.agg #[.string ⟨#[]⟩,.string ⟨#[]⟩],.iface 243 (ϖ F)]) hL (by rw[hrec];simp[hps]);rw[hrec] at hy;refine⟨fn,_,assign,body,hy,roundIn_of_wpIn hfn (hassign _ _ W _ ?_)⟩;clear hy;have hKa:Kp [] W (W.alloc (.cells ϝ 42)):=kF.alloc _;have hLa:=hKa.hp hL;refine⟨_,run_beginRound hLa (by rw[hrec]),?_⟩;obtain⟨W2,hW2,hL2,hK2⟩:∃ W2,W2=(W.alloc (.cells ϝ 42)).putObj (w.heap.size+1) (.loop { rec .ready none with state:=.busy })/\W2.heap[w.heap.size+1]?=some (.loop { rec .ready none with state:=.busy })/\Kp [w.heap.size+1] W W2:=
    ⟨_,rfl,World.putObj_heap_same sO,((hKa.mono sM).putObj sM _)⟩
   rw[<-hW2];clear hW2 hKa hLa;have hF2:=hK2.heap hF (λhm=>by rw[mS hm,hL] at hF;cases hF);have hSt2:=hK2.heap hStW (λhm=>by rw[mS hm,hL] at hStW;cases hStW);have hKw2:=((hK1.mono (S':=[t.St]) sM).trans hK (λ_ h _=>h)).trans hK2 (by intro i hi hlt;simp at hi;omega);have hD2:=hK2.hp hD;refine wpIn_mono (hbody _ F call W2 W.heap.size hKw2 hSt2 hF2) ?_;rintro e a3 W3 hp
   cases e with
   | ret=>
    obtain⟨S3,hK3,hS3,hR3⟩:=hp;have hno:∀ k o,Ϙ W2 k o->(∀ c u fr,o≠.cells c u fr)->k ∉ S3:=λk o ho' hn hm=>by
     obtain⟨c,u,fr,e,_⟩:=hS3 k hm;rw[ho'] at e;cases e;exact hn _ _ _ rfl
    have hL3:=hK3.heap hL2 (hno _ _ hL2 (by intros;simp));have hr:=run_endRound (P:=prog) (some .ret) hL3;rw[hrec] at hr;refine⟨_,_,hr,rfl,?_⟩;have hfin:(λW:World=>W.heap[w.heap.size+1]?=some (.loop (rec .done (some .ret)))/\Ϙ W w.heap.size (.deferred (some []))/\∃ (Wa W3:World) (F:Nat) (call:ByteArray) (S3:List Nat),Kp [t.St] w Wa/\Ϙ Wa F (.cells #[.string call,.iface 45 (ϊ 5)] 246)/\Ϙ Wa t.St (ν 0 s)/\R Wa W3/\Kp S3 Wa W3/\(∀ k∈S3,∃ c u fr,Ϙ Wa k (.cells c u fr)/\u≠169/\u≠246)/\Kp [w.heap.size+1] W3 W/\(∃ rr,W3.heap[w.heap.size+1]?=some (.loop rr))) (W3.putObj (w.heap.size+1) (.loop (rec .done (some .ret)))):=
     ⟨World.putObj_heap_same (ζ hL3),(World.putObj_heap_other oM).trans (hK3.heap hD2 (hno _ _ hD2 (by intros;simp))),W2,W3,F,call,S3,hKw2,hF2,hSt2,hR3,hK3,hS3,kF.putObj sM _,_,hL3⟩
    rw[hrec] at hfin |-;exact hfin
   | normal=>exact hp.elim
   | exit i=>exact hp.elim
   | goto l=>exact hp.elim
   | panic ch=>exact hp.elim
   | outgrown=>exact hp.elim
  .rintro e W2 ⟨⟨v,rfl⟩,hL,hD,Wa,W3,F,call,S3,p1,p2,p3,p4,p5,p6,p7,rr,p8⟩;have hr:=run_endLoop (P:=prog) hL (by rw[hrec];simp);rw[hrec] at hr;refine⟨some .ret,_,hr,?_⟩;have:=hstop (W2.putObj (w.heap.size+1) (.loop { rec .done (some .ret) with state:=.exhausted })) ⟨Wa,W3,F,call,S3,p1,p2,p3,p4,p5,p6,p7.putObj sM _,rr,p8⟩ ((World.putObj_heap_other oM).trans hD);rw[hrec] at this;exact this
theorem kE7(x:Nat)(t)(s)(lo g)(m:Int)(w)(V:w.heap[x]?=some (qA5 t))(ho:t.over=true)(B:w.heap[t.St]?=some (ν 0 s))(an:s.po=false)(aj:x≠t.St):
  Calls prog 71 #[.pointer (some ⟨x,0,none⟩),.string lo,.string g,.int .i64 m] w λe X=>∃ v,e=.returned (.tuple #[.slice none 0 0,v])/\ErrV X v (some 5)/\X.heap[t.St]?=some (ν 0 s)/\Kp [t.St] w X:=by
 have L:=zh (n3 V aj B);have ay:=ζ V;have av:=ζ B;clear V aj B;refine (callsIn_wide (n:=9)).1 ?_;refine callsIn_of_wp_marks func71 rfl trivial ?_ rfl;simp only[ntmps71,List.size_toArray,lC,List.length_nil,Nat.reduceAdd,Nat.reduceSub,Array.replicate_succ,Array.replicate_zero,List.push_toArray,aT,nA,cA];obtain⟨o,E⟩:∃ o:Int,o=if m<1 then 0 else m:=⟨_,rfl⟩
 obtain⟨a,ah,ad,ab,ac,U⟩:∃ a,a=(((w.alloc (.cells #[ϊ o] 3)).alloc (.cells #[.slice none 0 0] 29)).alloc (.cells #[.nilIface] 38)).alloc (.cells #[.slice none 0 0] 29)/\a.heap[w.heap.size+1]?=some (.cells #[.slice none 0 0] 29)/\a.heap[w.heap.size+1+1]?=some (.cells #[.nilIface] 38)/\Kp [] w a/\a.heap.size=w.heap.size+4:=by
  refine⟨_,rfl,ρ _ (ρ _ ?_),ρ _ ?_,(((kF.alloc _).alloc _).alloc _).alloc _,sM⟩
  .have e:=υ (w.alloc (.cells #[ϊ o] 3)) (.cells #[.slice none 0 0] 29);simpa using e
  .have e:=υ ((w.alloc (.cells #[ϊ o] 3)).alloc (.cells #[.slice none 0 0] 29)) (.cells #[.nilIface] 38);simpa using e
 have aa:=zh ah;have ak:=zh U;clear ah U;by_cases hb:m<1
 focus
  obtain⟨bb,ae⟩:=eX true;have J:Hid (o=0):=by show _=_;rw[E,if_pos hb]
  clear E
  gi_wp2_with fail
  refine⟨trivial,?_⟩;have b:(((w.alloc (.cells #[ϊ 0] 3)).alloc (.cells #[.slice none 0 0] 29)).alloc (.cells #[.nilIface] 38)).alloc (.cells #[.slice none 0 0] 29)=a:=by rw[aa.out,J.out]
  rw[b];clear b
 rotate_left
 focus
  obtain⟨bb,ae⟩:=eX false;have J:Hid (o=m):=by show _=_;rw[E,if_neg hb]
  clear E
  gi_wp2_with fail
  refine⟨trivial,?_⟩;have b:(((w.alloc (.cells #[ϊ m] 3)).alloc (.cells #[.slice none 0 0] 29)).alloc (.cells #[.nilIface] 38)).alloc (.cells #[.slice none 0 0] 29)=a:=by rw[aa.out,J.out]
  rw[b];clear b
 all_goals
  refine callsIn_wide.2 ((zW2 x lo g a).mono ?_);rintro e H ⟨rfl,N,am,al,y⟩;have R:=y.hp ad;have P:=y.hp ab;have I:=zh (ac.tr y);have aw:=y.size;clear ad ab ac y am al
  gi_wp2_with fail
  refine kR0 x t s a.heap.size (a.heap.size+1) (a.heap.size+2) 0 dC rfl rfl (I.hp L.1) ho (I.hp L.2.2) an L.2.1 N (λv Pb=>{ tmps:=#[ϖ x,.string lo,.string g,ϊ m,undef,undef,undef,ϖ w.heap.size,ϖ (w.heap.size+1),ϖ (w.heap.size+1+1),ϖ (w.heap.size+1+1+1),ϖ Pb,v,ϊ m,.bool bb,ϖ x,.string lo,.string g,.func (.func 176) #[] #[ϖ a.heap.size,ϖ (a.heap.size+1),ϖ (a.heap.size+2)],.agg #[.string ⟨#[]⟩,.string ⟨#[]⟩],v,undef,undef,undef,undef,undef,undef,undef,undef,undef,undef,undef,undef],defers:=[] })  (xU2 (w.heap.size+1) (w.heap.size+1+1)) ?assign ?body ?stop
  case assign=>
   intro l v W K hK
   gi_wp2
   subst ae;exact hK
  case body=>
   intro l F M W Pb af B hF;have f:=af.ho R;have d:=af.ho P;have au:=ζ f;have ar:=ζ d;have p:=ϻ f 0;have aq:=ψ f 0;have b:=ϻ d 0;have ao:=ψ d 0;have hq:∀ W:World,Sem.run prog (binOp .neq 38 (.iface 243 (ϖ F)) .nilIface) W=.ok (.bool true) W:=λW=>by kernel_rfl
   have q:=zh (n3 f d hF);clear R P f d hF B N
   gi_wp2
   refine⟨[w.heap.size+1,w.heap.size+1+1],(kF.sc _).sc _,?_,F,⟨M,q.2.2⟩,(qB2 oM _ _).trans (μ q.1 0 _),μ ((qB2 oM _ _).trans q.2.1) 0 _,(kF.sc _).sc _⟩;intro k j;simp only[mC,lN,or_false] at j;rcases j with rfl|rfl
   .exact⟨_,_,_,q.1,dC,dC⟩
   .exact⟨_,_,_,q.2.1,dC,dC⟩
  case stop=>
   rintro W ⟨Wa,W3,F0,call0,S3,p1,p2,p3,⟨F,⟨M,q1⟩,q2,q3,q4⟩,p5,p6,p7,rr,p8⟩ O;have U:=ak.out;have ax:=lT p1.size (lT p5.size p7.size);have C:∀ {k:Nat} {c:Array Value} {u:TypeId} {fr:Nat × Nat},W3.heap[k]?=some (.cells c u fr)->k ∉ [H.heap.size+1]:=λj hm=>by rw[mS hm,p8] at j;cases j
   have T:∀ {k:Nat} {c:Array Value} {u:TypeId} {fr:Nat × Nat},Wa.heap[k]?=some (.cells c u fr)->(u=169\/u=246)->k ∉ S3:=λj hu hm=>by
    obtain⟨c',u',ap,e1,e2,e3⟩:=p6 _ hm;rw[j] at e1;cases e1;rcases hu with h|h
    .exact e2 h
    .exact e3 h
   have f:=p7.heap q2 (C q2);have d:=p7.heap q3 (C q3);have Q:=p5.heap q1 (T q1 (.inr rfl));have r:=p7.heap Q (C Q);have S:=p5.heap p3 (T p3 (.inl rfl));have A:=p7.heap S (C S);have p:=ξ f 0;have b:=ξ d 0;simp only[zG,zH] at p b;have D:=(((I.mono (S':=[t.St]) sM).trans p1 (λ_ h _=>h)).trans q4 (by intro i g ag;simp at g;omega)).trans p7 (by intro i g ag;simp at g;omega);have Z:=zh (n6 r A D f d O);clear R P N p1 p2 p3 p5 p6 p7 p8 q1 q2 q3 q4 C T f d Q r S A D p b
   gi_wp2
   refine⟨sM,.inl ⟨_,_,rfl,run_takeDeferred Z.2.2.2.2.2,?_⟩⟩;obtain⟨r,A,D,f,d,O⟩:=Z.out;obtain⟨Y,ai,z⟩:∃ Y,Y=W.putObj H.heap.size (.deferred none)/\Kp [H.heap.size] W Y:=⟨_,rfl,kF.putObj sM _⟩;rw[<-ai];clear ai;have G:∀ {k:Nat} {c:Array Value} {u:TypeId} {fr:Nat × Nat},W.heap[k]?=some (.cells c u fr)->k ∉ [H.heap.size]:=λj hm=>by rw[mS hm,O] at j;cases j
   have p:=ξ (z.heap f (G f)) 0;have b:=ξ (z.heap d (G d)) 0;simp only[zG,zH] at p b;refine⟨.tuple #[.slice none 0 0,.iface 243 (ϖ F)],?_,_,rfl,⟨F,M,rfl,z.heap r (G r)⟩,z.heap A (G A),D.trans z (by intro i g ag;simp at g;omega)⟩;simp[results,results71,go_sem,p,b]
end
theorem qK1(k:Int)(w):Calls prog 127 #[.int .i64 k] w λe a=>e=.returned (.int .i64 k)/\a=w:=by
 go_enter func127,ntmps127;go_wp2;go_ret;exact⟨rfl,rfl⟩
theorem zB1(c:Int)(n:Nat)(w)(h:-9223372036854775808<=c)(i:c<=9223372036854775807)(l:1<=n)(m:n<=1000000):
  Calls prog 79 #[.int .i64 c,.int .i64 n] w λe g=>∃ j:Nat,e=.returned (.int .i64 j)/\j<n/\g=w:=by
 have b:¬((n:Int)=0):=oM
 by_cases k:c<0
 .go_enter func79,ntmps79;go_wp2;go_ret;have d:-((c+1).tmod (n:Int))=(-(c+1)) % (n:Int):=by rw[<-Int.neg_tmod,Int.tmod_eq_emod_of_nonneg oM]
  have a:=Int.emod_nonneg (-(c+1)) b;have f:=Int.emod_lt_of_pos (-(c+1)) (show (0:Int)<n by omega);refine⟨((-(c+1)) % (n:Int)).toNat,?_,oM,rfl⟩;rw[Int.toNat_of_nonneg a,<-d];rfl
 .go_enter func79,ntmps79;go_wp2;go_ret;have a:=Int.emod_nonneg c b;have f:=Int.emod_lt_of_pos c (show (0:Int)<n by omega);refine⟨(c % (n:Int)).toNat,?_,oM,rfl⟩;rw[Int.toNat_of_nonneg a];rfl
theorem xZ8(c:Int)(w)(h:c<0):Calls prog 122 #[.int .i64 c] w λe a=>e=.returned (.int .i64 0)/\a=w:=by
 go_enter func122,ntmps122;go_wp2;go_ret;exact⟨rfl,rfl⟩
theorem xZ7(c:Int)(w)(h:¬c<0):Calls prog 122 #[.int .i64 c] w λe a=>e=.returned (.int .i64 (c % 1000))/\a=w:=by
 go_enter func122,ntmps122;go_wp2;go_ret;exact⟨rfl,rfl⟩
theorem zG1:(prog.info? 126).map (λi=>(i.zero,i.size,i.bytes))=some (some (.agg #[.slice none 0 0]),1,24):=kR
theorem kD6(w)(ty):Sem.run prog (Builtin.append_ #[121,121] ty #[.slice none 0 0,.slice none 0 0]) w=.ok (.slice none 0 0) w:=by
 obtain⟨e,a,b,c,d⟩:=info_parts zG1;simp[Builtin.append_,run_underlying underlying121,sizeOf,typeInfo,a,Builtin.lenOf,Builtin.firstCells]
theorem qS9{P:Program}{c:Array Oper}{d:List Oper}{b:Option Tmp}{ty}{k:String}{e:Array Edge}{a:Act}{w w'}{Q:Exit->Act->World->Prop}{s x:Operand}{t}{vs vx v'}(i:a.eval s=vs)(j:a.eval x=vx)
  (g:Sem.run P (Builtin.append_ #[t,t] ty #[vs,vx]) w=.ok v' w') (h:wpList P c Q d (a.put b v') w'):
  wpList P c Q (⟨b,.call { callee:=.builtin .append,args:=#[s,x],argTypes:=#[t,t] },ty,k,e,none⟩::d) a w:=by
 refine wpList_plain rfl λK hK=>?_;have f:=hK _ _ h;unfold Oper.wp execOp;simp only[resolve,invoke,builtin,Sem.run_bind,Sem.run_pure,Result.andThen_ok,List.map_toArray,List.map_cons,List.map_nil,i,j,g];exact f
def Apart(w:World)(S:List Nat)(t:TypeId):Prop:=∀ k,k∈S→∃ c u fr,w.heap[k]?=some (.cells c u fr)∧u≠t
theorem jJ6(may were)(n:Nat)(e wl bt:Bool)(w)(c:8<=n)(b:n<=400):
  Calls prog 128 #[.agg #[.int .i64 n,may,.bool e,were,.bool wl,.bool bt]] w λr a=>r=.returned (.bool true)/\Kp [] w a:=by
 go_enter func128,ntmps128;go_wp2;go_ret;exact⟨by show Ending.returned (Value.bool (decide ((n:Int)<=400)))=_;rw[decide_eq_true oM],kF.alloc _⟩
theorem jJ5(may were)(n:Nat)(e wl bt:Bool)(w)(a:n<8\/400<n):
  Calls prog 128 #[.agg #[.int .i64 n,may,.bool e,were,.bool wl,.bool bt]] w λr b=>r=.returned (.bool false)/\Kp [] w b:=by
 by_cases d:n<8
 .clear a;go_enter func128,ntmps128;go_wp2;go_ret;exact⟨rfl,kF.alloc _⟩
 .have c:400<n:=oM
  clear a;go_enter func128,ntmps128;go_wp2;go_ret;exact⟨by show Ending.returned (Value.bool (decide ((n:Int)<=400)))=_;rw[decide_eq_false oM],kF.alloc _⟩
theorem jN6:(prog.info? 66).map (λi=>(i.zero,i.size,i.bytes))=some (some (.agg #[.int .i64 0,.int .i64 0,.int .i64 0,.int .i64 0,.int .i64 0,.string ⟨#[]⟩,.string ⟨#[]⟩]),7,72):=kR
theorem kD4(w)(base g:Nat)(v)(n:Nat)(xs:List Value)(a:List Value)(d:a.length=7)(ty)
  (h:w.ownsRow base 66 7 v n xs) (t:n<=1000000) (f:w.heap[g]?=some (.cells a.toArray 66)) (l:∀ u∈a,u.oneCell'=true) (e:base<=w.heap.size):
  ∃ c b,Sem.run prog (Builtin.append_ #[22,22] ty #[v,.slice (some ⟨g,0,none⟩) 1 1]) w=.ok c b/\b.ownsRow base 66 7 c (n+1) (xs++a)/\w.grownBy b v.ownBlock:=by
 obtain⟨q,i,m,o,p⟩:=info_parts jN6;obtain⟨c,b,k,r,s,x⟩:=run_append_own (P:=prog) w base 22 ty 66 q _ 7 72 underlying22 i m o p rfl dC v n _ h ⟨g,0,none⟩ 1 1 a (by simp[d]) (λj v hv=>by
  rw[qH0,ξ f];simpa using hv) l (by unfold maxLen;omega) oM e
 exact⟨c,b,k,r,s⟩
theorem kF1{w}{base:Nat}{p}{c:Nat}{a:List SOp}(h:w.ownsRow base 66 7 (.slice p a.length c) a.length (a.flatMap SOp.cells)):Script w p a.length (λi=>a.getD i ⟨0,0,0,0,0,⟨#[]⟩,⟨#[]⟩⟩):=by
 intro x;rcases h.2 with⟨_,q⟩|⟨g,cap,cur,j,r,d,s,t,u,k⟩
 .omega
 .cases j;refine⟨g,0,rfl,ζ d,λi b c v=>?_⟩;rw[ξ d];have m:∀ (l:List SOp) (i:Nat) (b:i<l.length),(l.flatMap SOp.cells)[i*7+c]?=(l[i]).cells[c]?:=by
   intro l
   induction l with
   | nil=>intro i b;simp at b
   | cons o l ih=>
    intro i b;rw[fC];have n:o.cells.length=7:=rfl
    cases i with
    | zero=>rw[List.getElem?_append_left oM];simp
    | succ i=>rw[List.getElem?_append_right oM,show (i+1)*7+c-o.cells.length=i*7+c by omega,ih i (by simpa using b)];simp
  have e:=m a i b;rw[<-k,List.getElem?_take_of_lt oM] at e;have f:a.getD i ⟨0,0,0,0,0,⟨#[]⟩,⟨#[]⟩⟩=a[i]:=by simp[List.getD,b]
  show _=(a.getD i _).cells[c]?;rw[f,<-e];simp
end Go.Proofs.YtdohpenfkdckiaaGreatDoor
namespace Go.Proofs.YtdohpenfkdckiaaGreatDoor.Gw
open Go.Proofs.Tryz
open Go.RowKit
def I64(x:Int):Prop:=-9223372036854775808≤x∧x≤9223372036854775807
structure SFits(o:SOp):Prop where
 x:I64 o.x
 y:I64 o.y
 a:I64 o.a
 b:I64 o.b
structure Fit(ks:List Int)(o:SOp):Prop where
 k:o.k<4∨o.k∈ks
 f:SFits o
theorem kB3(ks:List Int)(n3:Nat)(ay:n3<=20)(ae:ks.length=n3)(Q:∀ (p) (n cap:Nat) (f:Nat->SOp) (w),n<=16384->0<w.heap.size->w.cell? ⟨0,0,none⟩=some qF5->Script w p n f->(∀ i,i<n->Fit ks (f i))->Calls prog 17 #[.slice p n cap] w λe P=>e=.returned (.int .i64 (-1))/\Kp [] w P)
  (p) (n cap:Nat) (f:Nat->SOp) (w) (K:Script w p n f) (Y:∀ i,i<n->SFits (f i)) (X:0<w.heap.size) (hg:w.cell? ⟨0,0,none⟩=some qF5) (I:Nat) (z:w.heap[I]?=some (.cells (ks.map (.int .i64)).toArray 3)):
  Calls prog 15 #[.slice p n cap,.slice (some ⟨I,0,none⟩) n3 n3] w λe P=>e=.returned (.bool true)/\Kp [] w P:=by
 have HU:=zh Q;have HS:=zh K;have HF:=zh Y;have G:Hid (0<w.heap.size/\w.cell? ⟨0,0,none⟩=some qF5/\Ϙ w I (.cells (ks.map (.int .i64)).toArray 3)):=⟨X,hg,z⟩;have au:=ζ z;have ah:=zh ae;clear Q Y X hg ae;go_enter func15,ntmps15;go_wp2_with fail;refine (kF5 p n cap f w K).mono ?_;rintro e w1 ⟨r,rfl,hr,m,rfl⟩
 cases r with
 | false=>
  go_wp2;go_ret;exact⟨rfl,(Kp.refl _ _).drewN _⟩
 | true=>
  have hn:=hr rfl;clear hr K z;go_wp2
  go_loopw [6,7] (λl i wr=>∃ (j:Nat) (d:List SOp) (q:Option Addr) (c:Nat),j<=n/\i=.int .i64 j/\l=.slice q d.length c/\d.length<=j/\(∀ o,o∈d->Fit ks o)/\wr.ownsRow w.heap.size 66 7 (.slice q d.length c) d.length (d.flatMap SOp.cells)/\Kp [] w wr) (λ_ i _=>n-(intOf i).toNat)
  case atStart=>exact⟨0,[],none,0,Nat.zero_le _,rfl,rfl,Nat.zero_le _,sM,World.ownsRow_nil _ _ _ _,(Kp.refl _ _).drewN _⟩
  case round=>
   obtain⟨j,d,q,H,hj,rfl,rfl,ax,D,F,hK⟩:=hrel;by_cases v:j<n
   .obtain⟨ap,a0,rfl,aq,u⟩:=(HS.keep hK) oM;have Z:=HF.out j v;have z:=hK.hp G.2.2;have av:=ζ z;generalize N:f j=o at *;have c0:=u j v 0 dC;have R:=u j v 1 dC;have S:=u j v 2 dC;have T:=u j v 3 dC;have U:=u j v 4 dC;have C:=u j v 5 dC;have V:=u j v 6 dC;rw[N] at c0 R S T U C V;obtain⟨k,x,y,a,b,s,t⟩:=o;simp only[SOp.cells,zH,zI,Nat.add_zero] at c0 R S T U C V;have am:(j:Int)<(n:Int):=oM
    have HO:=zh N;have A:Hid (wr.ownsRow w.heap.size 66 7 (.slice q d.length H) d.length (d.flatMap SOp.cells)/\Kp [] w wr/\(∀ o,o∈d->Fit ks o)):=⟨F,hK,D⟩;have HJ:=zh Z;have HQ:Hid (∀ i,i<n3->∃ J,wr.cell? ⟨I,i,none⟩=some (ϊ J)/\J∈ks):=by
     intro i L;rw[ξ z];have ab:i<ks.length:=by have:=ah.out;omega
     exact⟨ks[i],by simp[ab],List.getElem_mem ab⟩
    clear u F hK D Z N z;go_wp2
    go_loop [9,10] (λq i=>∃ (g:Nat) (B:Bool),g<=n3/\i=.int .i64 g/\q=.bool B/\Hid (B=true->k<4\/k∈ks)) (λ_ i=>n3-(intOf i).toNat)
    case atStart=>exact⟨0,_,Nat.zero_le _,rfl,rfl,λh=>Or.inl (by simpa using h)⟩
    case round=>
     obtain⟨g,B,ar,rfl,rfl,M⟩:=hrel;by_cases an:g<n3
     .obtain⟨J,aw,ad⟩:=HQ.out g an;have al:(g:Int)<(n3:Int):=oM
      have ag:=zh ad;clear ad
      cases B with
      | true=>
       go_wp2;exact⟨⟨g+1,true,oM,by go_num,rfl,M⟩,by simp[intOf];omega⟩
      | false=>
       go_wp2;exact⟨⟨g+1,decide (k=J),oM,by go_num,rfl,λh=>by have h:=of_decide_eq_true h;subst h;exact Or.inr ag⟩,by simp[intOf];omega⟩
     .have al:¬(g:Int)<(n3:Int):=oM
      cases B with
      | false=>
       go_wp2;obtain⟨F,hK,D⟩:=A.out;exact⟨⟨j+1,d,q,H,oM,by go_num,rfl,oM,D,F,hK⟩,by simp[intOf];omega⟩
      | true=>
       have ac:=M.out rfl;have af:=zh ac;clear ac M;have az:=A.out.2.1.size;obtain⟨v5,w5,ao,O,aa⟩:=kD4 (wr.alloc (.cells #[ϊ k,ϊ x,ϊ y,ϊ a,ϊ b,.string s,.string t] 66)) w.heap.size wr.heap.size (.slice q d.length H) d.length _ [ϊ k,ϊ x,ϊ y,ϊ a,ϊ b,.string s,.string t] rfl 22 (A.1.alloc _) oM (υ _ _) (by simp[Value.oneCell']) sO;obtain⟨W,C,rfl⟩:=qL7 O;have ai:Hid (w5.ownsRow w.heap.size 66 7 (.slice (some ⟨W,0,none⟩) (d.length+1) C) (d.length+1) (d.flatMap SOp.cells++[ϊ k,ϊ x,ϊ y,ϊ a,ϊ b,.string s,.string t])/\Kp [] w w5):=⟨O,(A.2.1.alloc _).grown aa (λk hk=>Or.inr (World.ownsRow.lt A.1 k hk).1)⟩;clear O aa
       go_wp2_with (at_builtin;((with_reducible refine qS9 ?_ ?_ ao ?_);rfl;rfl))
       obtain⟨r1,r2⟩:=ai.out;refine⟨⟨j+1,d++[⟨k,x,y,a,b,s,t⟩],some ⟨W,0,none⟩,C,oM,by go_num,sM,sO,?_,?_,r2⟩,by simp[intOf];omega⟩
       .intro o E;rcases List.mem_append.1 E with E|E
        .exact A.2.2 o E
        .rw[List.mem_singleton.1 E];exact⟨af,HJ⟩
       .rw[List.length_append,List.flatMap_append];simpa [SOp.cells] using r1
   .have am:¬(j:Int)<(n:Int):=oM
    have hs:=kF1 F;have H0:=hK.size;have ak:wr.cell? ⟨0,0,none⟩=some qF5:=(hK.cell (a:=⟨0,0,none⟩) G.1 sM).trans G.2.1;go_wp2_with fail;refine (HU q d.length H _ wr oM (by have:=G.out.1;omega) ak hs (λi L=>?_)).mono ?_
    .have e2:d.getD i ⟨0,0,0,0,0,⟨#[]⟩,⟨#[]⟩⟩=d[i]:=by simp[List.getD,L]
     show Fit ks (d.getD i _);rw[e2];exact D _ (List.getElem_mem L)
    rintro e w3 ⟨rfl,aj⟩;go_wp2;go_ret;exact⟨rfl,hK.tr aj⟩
end Go.Proofs.YtdohpenfkdckiaaGreatDoor.Gw
namespace Go.Proofs.YtdohpenfkdckiaaGreatDoor
open Go.Proofs.Tryz
open Go.RowKit
structure KF where
 A:Nat
 n:Nat
 may:Value
 emp:Bool
 were:Value
 wild:Bool
 bit:Bool
 x:Option Addr
 c:Value
 com:Int
 po:Bool
 ts:Value
 li:Value
 wa:Value
def kob(k:KF):Obj:=
 .cells #[.pointer (some ⟨k.A,0,none⟩),.int .i64 k.n,k.may,.bool k.emp,k.were,.bool k.wild,.bool k.bit,.pointer k.x,k.c,.int .i64 k.com,.bool k.po,k.ts,k.li,k.wa] 130
structure TF where
 x:Nat
 v:Value
 wr:Bool
 dn:Bool
 chg:Int
 most:Int
 com:Int
 stp:Int
 cs:Value
def tob(f:TF):Obj:=
 .cells #[.pointer (some ⟨f.x,0,none⟩),f.v,.bool f.wr,.bool f.dn,.int .i64 f.chg,.int .i64 f.most,.int .i64 f.com,.int .i64 f.stp,f.cs] 197
theorem qL1(v)(k:Option Int)(w)(g:w.cell? ⟨0,0,none⟩=some qF5)(h:ErrV w v k):
  Calls prog 24 #[v] w λe a=>e=.returned (.int .i64 (k.getD 0))/\Kp [] w a:=by
 cases k with
 | none=>
  have i:v=.nilIface:=h;subst i;exact (zU2 w).mono λe a ⟨c,d⟩=>⟨c,by rw[d];exact Kp.refl _ _⟩
 | some k=>
  obtain⟨F,b,rfl,f⟩:=h;exact kN3 F b k w g f
def qH7(wr dn:Bool)(k v:ByteArray):Int:=if dn then 5 else if wr=false then 6 else if qH4 k=false then 1 else if 12<v.size then 2 else 0
theorem zB2(v cs:Value)(wr j:Bool)(o t p u:Int)(k a:ByteArray)(w:World)(r:∃ b n c,v=.slice b n c):
  Calls prog 192 #[.agg #[v,.bool wr,.bool j,.int .i64 o,.int .i64 t,.int .i64 p,.int .i64 u],.string k,.string a] w λe d=>e=.returned (.int .i64 (qH7 wr j k a))/\Kp [] w d:=by
 obtain⟨b,n,c,rfl⟩:=r;have m:=zB3 k;obtain⟨s,l⟩:=eY (qH4 k);rw[l] at m;have h:=zh l;have f:=zh m;clear l m
 cases j with
 | true=>
  go_enter func192,ntmps192
  go_wp2_with (go_at_call 198;refine (f _).mono ?_;rintro e d ⟨rfl,rfl⟩)
  go_ret;exact⟨rfl,kF.alloc _⟩
 | false=>
  cases wr with
  | false=>
   go_enter func192,ntmps192
   go_wp2_with (go_at_call 198;refine (f _).mono ?_;rintro e d ⟨rfl,rfl⟩)
   go_ret;exact⟨rfl,kF.alloc _⟩
  | true=>
   cases s with
   | false=>
    go_enter func192,ntmps192
    go_wp2_with (go_at_call 198;refine (f _).mono ?_;rintro e d ⟨rfl,rfl⟩)
    go_ret;exact⟨by rw[qH7,h.out];rfl,kF.alloc _⟩
   | true=>
    by_cases g:12<a.size
    .have q:(12:Int)<(a.size:Int):=oM
     have i:=zh g;clear g;go_enter func192,ntmps192
     go_wp2_with (go_at_call 198;refine (f _).mono ?_;rintro e d ⟨rfl,rfl⟩)
     go_ret;refine⟨?_,kF.alloc _⟩;have:qH7 true false k a=2:=by simp[qH7,h.out,i.out]
     rw[this];rfl
    .have q:¬(12:Int)<(a.size:Int):=oM
     have i:=zh g;clear g;go_enter func192,ntmps192
     go_wp2_with (go_at_call 198;refine (f _).mono ?_;rintro e d ⟨rfl,rfl⟩)
     go_ret;refine⟨?_,kF.alloc _⟩;have:qH7 true false k a=0:=by simp[qH7,h.out,i.out]
     rw[this];rfl
def PRow(w:World)(T:TypeId)(v:Value)(tbs:List Nat):Prop:=∃ p c,v=.slice p tbs.length c∧(1≤tbs.length→∃ g cur,p=some ⟨g,0,none⟩∧w.heap[g]?=some (.cells cur T)∧∀ i (h:i<tbs.length),cur[i]?=some (.pointer (some ⟨tbs[i],0,none⟩)))
def qQ2(tbs:List Nat):List Value:=tbs.map fun b=>.pointer (some ⟨b,0,none⟩)
theorem PRow.of{w}{base:Nat}{T}{v}{tbs}(h:w.ownsRow base T 1 v tbs.length (qQ2 tbs)):PRow w T v tbs:=by
 rcases h.2 with⟨b,a⟩|⟨g,cap,cur,a,f,c,j,k,l,d⟩
 .exact⟨none,0,by rw[b,a],λh=>by omega⟩
 .refine⟨some ⟨g,0,none⟩,cap,a,λ_=>⟨g,cur,rfl,c,λi hi=>?_⟩⟩;have e:(qQ2 tbs)[i]?=some (ϖ (tbs[i])):=by simp[qQ2,hi]
  rw[<-d,List.getElem?_take_of_lt oM] at e;simpa using e
theorem PRow.keep0{w w'}{T}{v}{tbs}(h:PRow w T v tbs)(hK:Kp [] w w'):PRow w' T v tbs:=by
 obtain⟨p,c,e,f⟩:=h;exact⟨p,c,e,λh=>by obtain⟨g,cur,a,b,d⟩:=f h;exact⟨g,cur,a,hK.hp b,d⟩⟩
def qG0(com:Int):List (TF × Nat)→Int
 | []=>0
 | (f,l)::fs=>(if f.dn=false∧f.com<com then (l:Int)+4 else 0)+qG0 com fs
theorem xR2(c:Int):∀ a b:List (TF × Nat),qG0 c (a++b)=qG0 c a+qG0 c b
 | [],b=>by simp[qG0]
 | (f,l)::a,b=>by simp only[cA,qG0,xR2 c a b];omega
theorem zJ4(b:Int):∀ a:List (TF × Nat),(∀ x∈a,x.2<=100000)->0<=qG0 b a/\qG0 b a<=100004*a.length
 | [],_=>by simp[qG0]
 | (f,l)::a,h=>by
  have e:=zJ4 b a (λx d=>h x (by simp[d]));have c:=h (f,l) sM;simp only[qG0,lC];simp only at c;split<;>omega
structure TFs(w:World)(k:KF)(tbs:List Nat)(fs:List (TF × Nat)):Prop where
 row:PRow w 132 k.ts tbs
 len:fs.length=tbs.length
 at_:∀ i (h:i<tbs.length) (h':i<fs.length),w.heap[tbs[i]]?=some (tob fs[i].1)∧∃ b c,fs[i].1.v=.slice b fs[i].2 c
theorem TFs.keep0{w w'}{k:KF}{tbs}{a:List (TF × Nat)}(h:TFs w k tbs a)(hK:Kp [] w w'):TFs w' k tbs a:=
 ⟨h.row.keep0 hK,h.len,λi b c=>⟨hK.heap (h.at_ i b c).1 sM,(h.at_ i b c).2⟩⟩
theorem kL0(B:Nat)(k:KF)(tbs)(a:List (TF × Nat))(w)(m:w.heap[B]?=some (kob k))(n:TFs w k tbs a)(hn:tbs.length<=100000)(D:∀ x∈a,x.2<=100000):
  Calls prog 242 #[.pointer (some ⟨B,0,none⟩)] w λe Z=>e=.returned (.int .i64 (qG0 k.com a))/\Kp [] w Z:=by
 obtain⟨p,c,K,H⟩:=n.row;have aa:=ζ m;have R:=ξ m 9;have z:=ξ m 11;simp only[kob,zG,zH,zI] at R z;rw[K] at z;have Q:=zh n;have P:=zh H;have HL:=zh D;have N:=zh n.len;clear n H D K m;go_enter func242,ntmps242;go_wp2_with fail
 go_loopw [3,4] (λs i wr=>∃ (j:Nat),j<=tbs.length/\i=.int .i64 j/\s=.int .i64 (qG0 k.com (a.take j))/\∃ d,wr=w.drewN d) (λ_ i _=>tbs.length-(intOf i).toNat)
 case atStart=>exact⟨0,zL _,rfl,rfl,0,rfl⟩
 case round=>
  obtain⟨j,hj,rfl,rfl,d,rfl⟩:=hrel;have E:=N.out;have V:=zJ4 k.com (a.take j) (λx W=>HL x (mT W));have I:(a.take j).length=j:=sO
  rw[I] at V;clear I;by_cases G:j<tbs.length
  .have U:(j:Int)<(tbs.length:Int):=oM
   have v:j<a.length:=oM
   obtain⟨g,cur,rfl,t,A⟩:=P.out oM;obtain⟨b,vb,vc,q⟩:=Q.out.at_ j G v;have o:qG0 k.com (a.take (j+1))=qG0 k.com (a.take j)+(if a[j].1.dn=false/\a[j].1.com<k.com then (a[j].2:Int)+4 else 0):=by
    rw[tA v,xR2];simp[qG0]
   have F:=HL.out a[j] (gM v);obtain⟨⟨f,l⟩,C⟩:∃ f,a[j]=f:=⟨_,rfl⟩;obtain⟨tb,J⟩:=eY (tbs[j]);have u:=A j G;rw[J] at u b;rw[C] at b q o F;simp only at b q o F;have r:=zh o;generalize S:qG0 k.com (a.take j)=M at *;have ac:=ζ t;have ab:=ζ b;have X:=ξ t j;rw[u] at X;have L:=ξ b 1;have y:=ξ b 3;have Y:=ξ b 6;simp only[tob,zG,zH,zI] at L y Y;rw[q] at L;clear A t b o C J u S q E
   cases hdn:f.dn with
   | true=>
    rw[hdn] at y;go_wp2_with fail
    go_quiet (fail)
    go_wp2;refine⟨⟨j+1,oM,by go_num,?_,_,rfl⟩,by simp[intOf];omega⟩;rw[r.out,hdn];simp
   | false=>
    rw[hdn] at y;by_cases T:f.com<k.com
    .go_wp2_with fail
     go_quiet (fail)
     go_wp2;refine⟨⟨j+1,oM,by go_num,?_,_,rfl⟩,by simp[intOf];omega⟩;rw[r.out,hdn,if_pos ⟨rfl,T⟩]
     go_num
    .go_wp2_with fail
     go_quiet (fail)
     go_wp2;refine⟨⟨j+1,oM,by go_num,?_,_,rfl⟩,by simp[intOf];omega⟩;rw[r.out,if_neg (λh=>by omega)];simp
  .have U:¬(j:Int)<(tbs.length:Int):=oM
   have O:Hid (qG0 k.com (a.take j)=qG0 k.com a):=by show _=_;rw[tL oM]
   generalize qG0 k.com (a.take j)=M at *;clear E;go_wp2;go_ret;exact⟨qK7 O,kF.drewN _⟩
def qR8(k:KF)(cl:Nat)(most keys stale:Int):Bool:=
 decide (3*(max (max most keys) (cl:Int))+12+stale≤(k.n:Int)) && !k.wild
theorem xK2(B tb:Nat)(k:KF)(f:TF)(tbs)(q:List (TF × Nat))(j:Int)(w)(o:w.heap[B]?=some (kob k))(D:w.heap[tb]?=some (tob f))(C:TFs w k tbs q)(F:tbs.length<=100000)(E:∀ x∈q,x.2<=100000)(cb)(g J:Nat)(I:k.c=.slice cb g J)(T:g<=100000)(X:0<=f.most)(Y:f.most<=100000)(U:0<=j)(V:j<=100000)(W:k.n<=100000):
  Calls prog 195 #[.pointer (some ⟨B,0,none⟩),.pointer (some ⟨tb,0,none⟩),.int .i64 j] w λe O=>e=.returned (.bool (qR8 k g f.most j (qG0 k.com q)))/\Kp [] w O:=by
 have Q:=ζ o;have S:=ζ D;have N:=zJ4 k.com q E;have M:=C.len;have y:=zh (kL0 B k tbs q w o C F E);have v:=zh o;have c:=ξ o 1;have H:=ξ o 5;have p:=ξ o 8;simp only[kob,zG,zH,zI] at c H p;rw[I] at p;have u:=ξ D 5;simp only[tob,zG,zH,zI] at u;clear o D C E I;generalize qG0 k.com q=ST at *;obtain⟨t,r⟩:=eY (max f.most j);obtain⟨l,s⟩:=eY (max t (g:Int));have i:Hid (qR8 k g f.most j ST=(decide (3*l+12+ST<=(k.n:Int)) && !k.wild)):=by show _=_;rw[qR8,r,s]
 have Z:0<=l/\l<=100000:=oM
 have L:=F;have R:0<=ST/\ST<=10000500000:=oM
 clear N M F L;go_enter func195,ntmps195;by_cases P:f.most<j
 .have z:t=j:=oM
  subst z;by_cases K:t<(g:Int)
  .have n:l=(g:Int):=oM
   subst n;clear r s;go_wp2_with fail;refine (show Calls _ _ _ _ _ from y).mono ?_;rintro e G ⟨rfl,b⟩;have a:=b.hp v.out;have A:=ζ a;have d:=zh b;clear c H p;have c:=ξ a;simp only[kob,zG,zH,zI] at c;clear a b u;by_cases h:3*(g:Int)+12+ST<=(k.n:Int)
   .go_wp2;go_ret;exact⟨by rw[i.out,decide_eq_true h];rfl,d⟩
   .have m:=zh (decide_eq_false h);go_wp2;go_ret;exact⟨by rw[i.out,m.out];rfl,d⟩
  .have n:l=t:=oM
   subst n;clear r s;go_wp2_with fail;refine (show Calls _ _ _ _ _ from y).mono ?_;rintro e G ⟨rfl,b⟩;have a:=b.hp v.out;have A:=ζ a;have d:=zh b;clear c p;have c:=ξ a;simp only[kob,zG,zH,zI] at c;clear a b u;by_cases h:3*l+12+ST<=(k.n:Int)
   .go_wp2;go_ret;exact⟨by rw[i.out,decide_eq_true h];rfl,d⟩
   .have m:=zh (decide_eq_false h);go_wp2;go_ret;exact⟨by rw[i.out,m.out];rfl,d⟩
 .have z:t=f.most:=oM
  subst z;by_cases K:f.most<(g:Int)
  .have n:l=(g:Int):=oM
   subst n;clear r s;go_wp2_with fail;refine (show Calls _ _ _ _ _ from y).mono ?_;rintro e G ⟨rfl,b⟩;have a:=b.hp v.out;have A:=ζ a;have d:=zh b;clear c p;have c:=ξ a;simp only[kob,zG,zH,zI] at c;clear a b u;by_cases h:3*(g:Int)+12+ST<=(k.n:Int)
   .go_wp2;go_ret;exact⟨by rw[i.out,decide_eq_true h];rfl,d⟩
   .have m:=zh (decide_eq_false h);go_wp2;go_ret;exact⟨by rw[i.out,m.out];rfl,d⟩
  .have n:l=f.most:=oM
   subst n;clear r s;go_wp2_with fail;refine (show Calls _ _ _ _ _ from y).mono ?_;rintro e G ⟨rfl,b⟩;have a:=b.hp v.out;have A:=ζ a;have d:=zh b;clear c p;have c:=ξ a;simp only[kob,zG,zH,zI] at c;clear a b u;by_cases h:3*f.most+12+ST<=(k.n:Int)
   .go_wp2;go_ret;exact⟨by rw[i.out,decide_eq_true h];rfl,d⟩
   .have m:=zh (decide_eq_false h);go_wp2;go_ret;exact⟨by rw[i.out,m.out];rfl,d⟩
def zI4:List TypeId:=[169,99,80,114,115,117]
def ProgS(w:World)(S:List Nat):Prop:=∀ k∈S,0<k∧∀ c t fr,w.heap[k]?=some (.cells c t fr)→t∈zI4
theorem ProgS.stay{w w'}{S}(h:ProgS w S)(hK:Kp S w w'){k:Nat}{c}{t}{fr}(a:w.heap[k]?=some (.cells c t fr))(d:t ∉ zI4):w'.heap[k]?=some (.cells c t fr):=
 hK.heap a λb=>d ((h k b).2 _ _ _ a)
theorem ProgS.g0{w w'}{S}(h:ProgS w S)(hK:Kp S w w')(b:w.cell? ⟨0,0,none⟩=some qF5)(d:0<w.heap.size):w'.cell? ⟨0,0,none⟩=some qF5:=
 (hK.cell (a:=⟨0,0,none⟩) (by simpa using d) (λc=>by have:=(h _ c).1;simp at this)).trans b
theorem ProgS.prow{w w'}{S}(h:ProgS w S)(hK:Kp S w w'){T}(i:T ∉ zI4){v}{tbs}(k:PRow w T v tbs):PRow w' T v tbs:=by
 obtain⟨p,c,e,f⟩:=k;exact⟨p,c,e,λj=>by obtain⟨g,cur,a,b,d⟩:=f j;exact⟨g,cur,a,h.stay hK b i,d⟩⟩
theorem ProgS.tfs{w w'}{S}(h:ProgS w S)(hK:Kp S w w'){k:KF}{tbs}{b:List (TF × Nat)}(a:TFs w k tbs b):TFs w' k tbs b:=
 ⟨h.prow hK dC a.row,a.len,λi c d=>⟨h.stay hK (a.at_ i c d).1 dC,(a.at_ i c d).2⟩⟩
theorem ProgS.apt{w}{S}(h:ProgS w S){Ts:List TypeId}(a:∀ t∈Ts,t ∉ zI4):Apt w S Ts:=λk hk c t fr e hm=>a t hm ((h k hk).2 _ _ _ e)
theorem SPR.slc{w}{v}{ps}(h:SPR w v ps):∃ b n c,v=.slice b n c:=by
 obtain⟨b,c,e⟩:=h.form;exact⟨b,_,c,e⟩
structure ChIn(w:World)(B tb A n C:Nat)(cache:Value)(calls writes:Int)(k:KF)(f:TF)(tbs:List Nat)(fs:List (TF × Nat))(ps:List KV):Prop where
 hB:w.heap[B]?=some (kob k)
 po:k.po=false
 kA:k.A=A
 hA:∃ κ,w.heap[A]?=some (qA6 κ n C cache calls writes)
 hT:w.heap[tb]?=some (tob f)
 sp:SPR w f.v ps
 sz:ps.length≤70000
 g0:w.cell? ⟨0,0,none⟩=some qF5
 m0:0≤f.most
 m1:f.most≤100000
 c0:0≤f.chg
 c1:f.chg≤100000000
 s0:0≤f.stp
 s1:f.stp≤100000000
theorem jD3(B tb A n C:Nat)(cache)(y Y:Int)(k:KF)(f:TF)(tbs)(fs:List (TF × Nat))(ps)(key val)(j:Int)(s:Option Int)(ad:s=some j)(S)(R:World->Prop)(w)(b:ChIn w B tb A n C cache y Y k f tbs fs ps)(F:ProgS w S)(L:qH7 f.wr f.dn key val=j)(ac:j≠0)(J:Calls prog 34 #[.pointer (some ⟨f.x,0,none⟩),.string key,.string val] w λe l=>∃ v,e=.returned v/\ErrV l v s/\R l/\Kp S w l):
  Calls prog 132 #[.pointer (some ⟨B,0,none⟩),.pointer (some ⟨tb,0,none⟩),.string key,.string val,.bool false] w λe l=>e=.returned (.bool true)/\∃ g,R g/\Kp S w g/\Kp [] g l:=by
 have ai:=ζ b.hB;have al:=ζ b.hT;have af:=ζ b.hA.choose_spec;have c:=zh b;have m:=zh F;have z:=b.hB;have H:=b.hT;have M:=b.kA;have Z:=zh J;have o:=ξ z 0;simp only[kob,zG,zH,zI] at o;have P:=ξ H 0;simp only[tob,zG,zH,zI] at P;rw[M] at o;clear b F z H M J;go_enter func132,ntmps132;go_wp2_with fail;refine (qL8 A n C cache y Y w c.hA.choose_spec).mono ?_;rintro e w0 ⟨rfl,rfl⟩;go_wp2_with fail;refine (show Calls _ _ _ _ _ from Z).mono ?_;rintro e g ⟨v,rfl,O,G,d⟩;have D:=m.out.stay d c.hB dC;have I:=m.out.stay d c.hT dC;have N:=c.out.sp.keep d (m.apt dC);have K:=m.out.g0 d c.g0 oM;have u:=zh (n2 G d);clear o P G;go_wp2_with fail;refine (qL1 v s g K O).mono ?_;rintro e w2 ⟨rfl,h⟩;have p:=h.hp D;have a:=h.hp I;have q:=N.keep0 h;have aj:=ζ a;have ag:=ζ p;have t:=ξ a 1;have Q:=ξ a 2;have T:=ξ a 3;have U:=ξ a 4;have V:=ξ a 5;have W:=ξ a 6;have X:=ξ a 7;simp only[tob,zG,zH,zI] at t Q T U V W X;obtain⟨vb,vl,vc,r⟩:=q.slc;rw[r] at t;have ae:=zh r;clear r
 go_wp2_with (go_at_call 127;refine (qK1 _ _).mono ?_;rintro e w2 ⟨rfl,rfl⟩)
 refine (zB2 (.slice vb vl vc) f.cs f.wr f.dn f.chg f.most f.com f.stp key val _ ⟨_,_,_,rfl⟩).mono ?_;rintro e w3 ⟨rfl,i⟩;have E:=i.hp p;have ab:=i.hp a;have an:=q.keep0 i;have ah:=ζ E;have ak:=ζ ab;have x:=ξ E 10;simp only[kob,zG,zH,zI] at x;rw[c.out.po] at x;have aa:=zh (h.tr i);clear t Q T U V W X D I N K d h i p a q O;rw[L];have am:¬(j=0):=ac;clear L ad;go_wp2;go_ret;exact⟨sM,g,u.1,u.2,aa⟩
theorem jD1(B tb A n C:Nat)(cache)(y Y:Int)(k:KF)(f:TF)(tbs)(fs:List (TF × Nat))(ps)(key val)(j:Int)(s:Option Int)(ad:s=some j)(S)(R:World->Prop)(w)(b:ChIn w B tb A n C cache y Y k f tbs fs ps)(F:ProgS w S)(L:qH7 f.wr f.dn key ⟨#[]⟩=j)(ac:j≠0)(J:Calls prog 28 #[.pointer (some ⟨f.x,0,none⟩),.string key] w λe l=>∃ v,e=.returned v/\ErrV l v s/\R l/\Kp S w l):
  Calls prog 132 #[.pointer (some ⟨B,0,none⟩),.pointer (some ⟨tb,0,none⟩),.string key,.string val,.bool true] w λe l=>e=.returned (.bool true)/\∃ g,R g/\Kp S w g/\Kp [] g l:=by
 have ai:=ζ b.hB;have al:=ζ b.hT;have af:=ζ b.hA.choose_spec;have c:=zh b;have m:=zh F;have z:=b.hB;have H:=b.hT;have M:=b.kA;have Z:=zh J;have o:=ξ z 0;simp only[kob,zG,zH,zI] at o;have P:=ξ H 0;simp only[tob,zG,zH,zI] at P;rw[M] at o;clear b F z H M J;go_enter func132,ntmps132;go_wp2_with fail;refine (qL8 A n C cache y Y w c.hA.choose_spec).mono ?_;rintro e w0 ⟨rfl,rfl⟩;go_wp2_with fail;refine (show Calls _ _ _ _ _ from Z).mono ?_;rintro e g ⟨v,rfl,O,G,d⟩;have D:=m.out.stay d c.hB dC;have I:=m.out.stay d c.hT dC;have N:=c.out.sp.keep d (m.apt dC);have K:=m.out.g0 d c.g0 oM;have u:=zh (n2 G d);clear o P G;go_wp2_with fail;refine (qL1 v s g K O).mono ?_;rintro e w2 ⟨rfl,h⟩;have p:=h.hp D;have a:=h.hp I;have q:=N.keep0 h;have aj:=ζ a;have ag:=ζ p;have t:=ξ a 1;have Q:=ξ a 2;have T:=ξ a 3;have U:=ξ a 4;have V:=ξ a 5;have W:=ξ a 6;have X:=ξ a 7;simp only[tob,zG,zH,zI] at t Q T U V W X;obtain⟨vb,vl,vc,r⟩:=q.slc;rw[r] at t;have ae:=zh r;clear r
 go_wp2_with (go_at_call 127;refine (qK1 _ _).mono ?_;rintro e w2 ⟨rfl,rfl⟩)
 refine (zB2 (.slice vb vl vc) f.cs f.wr f.dn f.chg f.most f.com f.stp key ⟨#[]⟩ _ ⟨_,_,_,rfl⟩).mono ?_;rintro e w3 ⟨rfl,i⟩;have E:=i.hp p;have ab:=i.hp a;have an:=q.keep0 i;have ah:=ζ E;have ak:=ζ ab;have x:=ξ E 10;simp only[kob,zG,zH,zI] at x;rw[c.out.po] at x;have aa:=zh (h.tr i);clear t Q T U V W X D I N K d h i p a q O;rw[L];have am:¬(j=0):=ac;clear L ad;go_wp2;go_ret;exact⟨sM,g,u.1,u.2,aa⟩
def TF.step(f:TF)(v:Value)(m:Nat):TF:={ f with v:=v,chg:=f.chg+1,most:=if f.most<m then (m:Int) else f.most,stp:=f.stp+1 }
def zK7(f:TF)(tb:Nat)(R:World→Prop)(S:List Nat)(qs:List KV)(w w':World):Prop:=∃ w1 v',R w1∧Kp S w w1∧Kp [tb] w1 w'∧w'.heap[tb]?=some (tob (f.step v' qs.length))∧SPR w' v' qs
theorem jD4(B tb A n C:Nat)(cache)(ac av:Int)(k:KF)(f:TF)(tbs)(fs:List (TF × Nat))(ps)(key val)(T:Option Int)(az:T=none)(S)(R:World->Prop)(w)(j:ChIn w B tb A n C cache ac av k f tbs fs ps)(hP:ProgS w S)(hj:qH7 f.wr f.dn key val=0)(ah:Calls prog 34 #[.pointer (some ⟨f.x,0,none⟩),.string key,.string val] w λe t=>∃ v,e=.returned v/\ErrV t v T/\R t/\Kp S w t):
  Calls prog 132 #[.pointer (some ⟨B,0,none⟩),.pointer (some ⟨tb,0,none⟩),.string key,.string val,.bool false] w λe t=>e=.returned (.bool true)/\zK7 f tb R S (ins ⟨key,val⟩ ps) w t:=by
 have a5:=ζ j.hB;have bb:=ζ j.hT;have a2:=ζ j.hA.choose_spec;have g:=zh j;have u:=zh hP;have hB:=j.hB;have hT:=j.hT;have aj:=j.kA;have aw:=zh ah;have H:=ξ hB 0;simp only[kob,zG,zH,zI] at H;have t0:=ξ hT 0;simp only[tob,zG,zH,zI] at t0;rw[aj] at H;clear j hP hB hT aj ah;go_enter func132,ntmps132;go_wp2_with fail;refine (qL8 A n C cache ac av w g.hA.choose_spec).mono ?_;rintro e w0 ⟨rfl,rfl⟩;go_wp2_with fail;refine (show Calls _ _ _ _ _ from aw).mono ?_;rintro e X ⟨v,rfl,hv,hR,m⟩;have ad:=u.out.stay m g.hB dC;have ag:=u.out.stay m g.hT dC;have al:=g.out.sp.keep m (u.apt dC);have ai:=u.out.g0 m g.g0 oM;have x:=zh (n2 hR m);clear H t0 hR;go_wp2_with fail;refine (qL1 v T X ai hv).mono ?_;rintro e w2 ⟨rfl,p⟩;have I:=p.hp ad;have h:=p.hp ag;have N:=al.keep0 p;have a7:=ζ h;have a3:=ζ I;have i:=ξ h 1;have t2:=ξ h 2;have t3:=ξ h 3;have E:=ξ h 4;have t5:=ξ h 5;have t6:=ξ h 6;have t7:=ξ h 7;simp only[tob,zG,zH,zI] at i t2 t3 E t5 t6 t7;obtain⟨U,W,V,Q⟩:=N.slc;rw[Q] at i;have aa:=zh Q;clear Q
 go_wp2_with (go_at_call 127;refine (qK1 _ _).mono ?_;rintro e w2 ⟨rfl,rfl⟩)
 refine (zB2 (.slice U W V) f.cs f.wr f.dn f.chg f.most f.com f.stp key val _ ⟨_,_,_,rfl⟩).mono ?_;rintro e w3 ⟨rfl,q⟩;have z:=q.hp I;have D:=q.hp h;have am:=N.keep0 q;have a4:=ζ z;have a8:=ζ D;have ab:=ξ z 10;simp only[kob,zG,zH,zI] at ab;rw[g.out.po] at ab;have Y:=zh (p.tr q);clear i t2 t3 E t5 t6 t7 ad ag al ai m p q I h N hv;rw[hj];clear hj az;have i:=ξ D 1;simp only[tob,zG,zH,zI] at i;rw[aa.out] at i;have O:SPR w3 (.slice U W V) ps:=by rw[<-aa.out];exact am
 have ay:=zh D;have ax:=zh g.sz;have a1:=zh O;have a0:=zh z;clear D z am;go_wp2_with fail;refine (zT3 (.slice U W V) ps ⟨key,val⟩ _ O (by have:=ax.out;omega)).mono ?_;rintro e F ⟨v4,rfl,P,J⟩;have o:=J.hp ay.out;have a9:=ζ o;obtain⟨c,d,ap⟩:=P.form;obtain⟨a,M⟩:∃ a:Nat,(ins ⟨key,val⟩ ps).length=a:=⟨_,rfl⟩;rw[M] at ap;subst ap;have Z:=zh (n3 P M J);clear P M J i O;have i:=ξ o 1;simp only[tob,zG,zH,zI] at i;have f1:=ψ o 1;go_wp2_with fail;obtain⟨ao,ak,af⟩:=Z.out;obtain⟨b,ar,s,L,K⟩:∃ b,b=(F.setCell ⟨tb,1,none⟩ (.slice c a d)).alloc (.cells #[.slice c a d] 126)/\b.heap[tb]?=some (tob { f with v:=.slice c a d })/\b.heap[F.heap.size]?=some (.cells #[.slice c a d] 126)/\Kp [tb] F b:=
  ⟨_,rfl,ρ _ (μ o 1 _),by have e:=υ (F.setCell ⟨tb,1,none⟩ (.slice c a d)) (.cells #[.slice c a d] 126);simpa using e,(kF.sc _).alloc _⟩
 rw[<-ar];have ae:Kp [tb] w3 b:=(af.mono sM).tr K;have an:=ao.keep K (Apt.one o dC);clear ar i f1 o K ao af Z;have y:=zh s;have l:=zh (n3 ae an ak);have ba:=ζ s;have a6:=ζ L;have E:=ξ s;simp only[tob,zG,zH,zI] at E;have f4:=ψ s;have n0:=ξ L 0;simp only[tob,zG,zH,zI] at n0;clear s ae L an ak;have aq:wrap64 (f.chg+1)=f.chg+1:=by have h0:=g.out.c0;have h1:=g.out.c1;simp only[wrap64];omega
 have au:wrap64 (f.stp+1)=f.stp+1:=by have h0:=g.out.s0;have h1:=g.out.s1;simp only[wrap64];omega
 by_cases hq:f.most<(a:Int)
 .have G:Hid (f.step (.slice c a d) (ins ⟨key,val⟩ ps).length={ f with v:=.slice c a d,most:=((a:Nat):Int),chg:=f.chg+1,stp:=f.stp+1 }):=by show _=_;rw[l.out.2.2,TF.step,if_pos hq]
  go_quiet (fail)
  go_wp2
  try rw[aq,au]
  go_ret;have r:Kp [tb] b ((((b.drewN nq).setCell ⟨tb,5,none⟩ (ϊ a)).setCell ⟨tb,4,none⟩ (ϊ (f.chg+1))).setCell ⟨tb,7,none⟩ (ϊ (f.stp+1))):=((((Kp.refl _ b).drewN nq).sc _).sc _).sc _;refine⟨rfl,X,.slice c a d,x.1,x.2,((Y.mono sM).tr l.1).tr r,?_,l.2.1.keep r (Apt.one y dC)⟩;rw[G.out];exact μ (μ (μ (show (b.drewN nq).heap[tb]?=_ from y) 5 _) 4 _) 7 _
 .have G:Hid (f.step (.slice c a d) (ins ⟨key,val⟩ ps).length={ f with v:=.slice c a d,chg:=f.chg+1,stp:=f.stp+1 }):=by show _=_;rw[l.out.2.2,TF.step,if_neg hq]
  go_quiet (fail)
  go_wp2
  try rw[aq,au]
  go_ret;have r:Kp [tb] b (((b.drewN nq).setCell ⟨tb,4,none⟩ (ϊ (f.chg+1))).setCell ⟨tb,7,none⟩ (ϊ (f.stp+1))):=(((Kp.refl _ b).drewN nq).sc _).sc _;refine⟨rfl,X,.slice c a d,x.1,x.2,((Y.mono sM).tr l.1).tr r,?_,l.2.1.keep r (Apt.one y dC)⟩;rw[G.out];exact μ (μ (show (b.drewN nq).heap[tb]?=_ from y) 4 _) 7 _
theorem jD2(B tb A n C:Nat)(cache)(ap bd:Int)(k:KF)(f:TF)(tbs)(fs:List (TF × Nat))(ps)(key val)(ko:Option Int)(bh:ko=none)(S)(R:World->Prop)(w)(m:ChIn w B tb A n C cache ap bd k f tbs fs ps)(hP:ProgS w S)(hj:qH7 f.wr f.dn key ⟨#[]⟩=0)(az:Calls prog 28 #[.pointer (some ⟨f.x,0,none⟩),.string key] w λe z=>∃ v,e=.returned v/\ErrV z v ko/\R z/\Kp S w z):
  Calls prog 132 #[.pointer (some ⟨B,0,none⟩),.pointer (some ⟨tb,0,none⟩),.string key,.string val,.bool true] w λe z=>e=.returned (.bool true)/\zK7 f tb R S (del key ps) w z:=by
 have bn:=ζ m.hB;have bv:=ζ m.hT;have bk:=ζ m.hA.choose_spec;have d:=zh m;have E:=zh hP;have hB:=m.hB;have hT:=m.hT;have a1:=m.kA;have bf:=zh az;have X:=ξ hB 0;simp only[kob,zG,zH,zI] at X;have t0:=ξ hT 0;simp only[tob,zG,zH,zI] at t0;rw[a1] at X;clear m hP hB hT a1 az;go_enter func132,ntmps132;go_wp2_with fail;refine (qL8 A n C cache ap bd w d.hA.choose_spec).mono ?_;rintro e w0 ⟨rfl,rfl⟩;go_wp2_with fail;refine (show Calls _ _ _ _ _ from bf).mono ?_;rintro e w1 ⟨v,rfl,hv,hR,q⟩;have ar:=E.out.stay q d.hB dC;have ax:=E.out.stay q d.hT dC;have a2:=d.out.sp.keep q (E.apt dC);have a0:=E.out.g0 q d.g0 oM;have F:=zh (n2 hR q);clear X t0 hR;go_wp2_with fail;refine (qL1 v ko w1 a0 hv).mono ?_;rintro e w2 ⟨rfl,s⟩;have Y:=s.hp ar;have j:=s.hp ax;have ae:=a2.keep0 s;have bq:=ζ j;have bl:=ζ Y;have b:=ξ j 1;have t2:=ξ j 2;have t3:=ξ j 3;have M:=ξ j 4;have t5:=ξ j 5;have t6:=ξ j 6;have t7:=ξ j 7;simp only[tob,zG,zH,zI] at b t2 t3 M t5 t6 t7;obtain⟨N,P,O,ai⟩:=ae.slc;rw[ai] at b;have W:=zh ai;clear ai
 go_wp2_with (go_at_call 127;refine (qK1 _ _).mono ?_;rintro e w2 ⟨rfl,rfl⟩)
 refine (zB2 (.slice N P O) f.cs f.wr f.dn f.chg f.most f.com f.stp key ⟨#[]⟩ _ ⟨_,_,_,rfl⟩).mono ?_;rintro e w3 ⟨rfl,t⟩;have H:=t.hp Y;have J:=t.hp j;have a3:=ae.keep0 t;have bm:=ζ H;have br:=ζ J;have ao:=ξ H 10;simp only[kob,zG,zH,zI] at ao;rw[d.out.po] at ao;have ak:=zh (s.tr t);clear b t2 t3 M t5 t6 t7 ar ax a2 a0 q s t Y j ae hv;rw[hj];clear hj bh;have b:=ξ J 1;simp only[tob,zG,zH,zI] at b;rw[W.out] at b;have af:SPR w3 (.slice N P O) ps:=by rw[<-W.out];exact a3
 have bg:=zh J;have an:=zh d.sz;have am:=zh af;have bj:=zh H;clear J H a3;go_wp2_with fail;refine (zT3 (.slice N P O) ps ⟨key,⟨#[]⟩⟩ _ af (by have:=an.out;omega)).mono ?_;rintro e o ⟨v4,rfl,ag,Z⟩;have l:=Z.hp bg.out;have bs:=ζ l;obtain⟨b4,c4,a7⟩:=ag.form;obtain⟨K,ad⟩:∃ K:Nat,(ins ⟨key,⟨#[]⟩⟩ ps).length=K:=⟨_,rfl⟩;rw[ad] at a7;subst a7;have T:=zh (n3 ag ad Z);clear ag ad Z b af;have b:=ξ l 1;simp only[tob,zG,zH,zI] at b;rw[W.out] at b;go_wp2_with fail;have bi:=am.out;obtain⟨D,ba,ay,aw,aa⟩:∃ D,D=o.alloc (.cells #[.slice b4 K c4] 126)/\Ϙ D tb (tob f)/\Ϙ D o.heap.size (.cells #[.slice b4 K c4] 126)/\Kp [] w3 D:=
  ⟨_,rfl,ρ _ l,υ _ _,T.2.2.alloc _⟩
 rw[<-ba];have a4:=am.out.keep0 aa;have aq:=T.out.2.2.size;clear ba b l;refine (kE4 (.slice N P O) ps key _ a4 (by have:=an.out;omega)).mono ?_;rintro e w6 ⟨v6,rfl,ah,I⟩;have l:=I.hp ay;have x:=I.hp aw;have bu:=ζ l;have bp:=ζ x;obtain⟨g,h,a8⟩:=ah.form;obtain⟨a,r⟩:∃ a:Nat,(del key ps).length=a:=⟨_,rfl⟩;rw[r] at a8;subst a8;have al:Hid (o.heap.size≠tb):=by show o.heap.size≠tb;omega
 have be:=zh aq;have aj:=zh (n3 ah r (aa.tr I));have Q:=zh x;have V:=zh l;have b:=ξ l 1;simp only[tob,zG,zH,zI] at b;have f1:=ψ l 1;have L:=ξ x 0;simp only[tob,zG,zH,zI] at L;have g0:=ψ x 0;clear ah r I ay aw aa a4 l x T bi aq;go_wp2_with fail;obtain⟨c,bb,y,ac,ab⟩:∃ c,c=(w6.setCell ⟨o.heap.size,0,none⟩ (.slice g a h)).setCell ⟨tb,1,none⟩ (.slice g a h)/\Ϙ c tb (tob { f with v:=.slice g a h })/\Ϙ c o.heap.size (.cells #[.slice g a h] 126)/\Kp [tb,o.heap.size] w6 c:=
  ⟨_,rfl,μ ((qB2 (by have:=al.out;omega) _ _).trans V) 1 _,(qB2 (by have:=al.out;omega) _ _).trans (μ Q 0 _),(kF.sc _).sc _⟩
 rw[<-bb];obtain⟨a6,r,av⟩:=aj.out;have au:Kp [tb] w3 c:=(av.mono sM).trans ab (by intro i hi bw;have:=be.out;simp at hi |-;omega);have a5:=a6.keep ab ((Apt.one V dC).cons (Apt.one Q dC));clear bb b f1 L g0 ab a6 av aj Q V;have G:=zh y;have p:=zh (n3 au a5 r);have bt:=ζ y;have bo:=ζ ac;have M:=ξ y;simp only[tob,zG,zH,zI] at M;have f4:=ψ y;have L:=ξ ac 0;simp only[tob,zG,zH,zI] at L;clear y au ac a5 r;have a9:wrap64 (f.chg+1)=f.chg+1:=by have h0:=d.out.c0;have h1:=d.out.c1;simp only[wrap64];omega
 have bc:wrap64 (f.stp+1)=f.stp+1:=by have h0:=d.out.s0;have h1:=d.out.s1;simp only[wrap64];omega
 by_cases hq:f.most<(a:Int)
 .have U:Hid (f.step (.slice g a h) (del key ps).length={ f with v:=.slice g a h,most:=((a:Nat):Int),chg:=f.chg+1,stp:=f.stp+1 }):=by show _=_;rw[p.out.2.2,TF.step,if_pos hq]
  go_quiet (fail)
  go_wp2
  try rw[a9,bc]
  go_ret;have u:Kp [tb] c ((((c.drewN nq).setCell ⟨tb,5,none⟩ (ϊ a)).setCell ⟨tb,4,none⟩ (ϊ (f.chg+1))).setCell ⟨tb,7,none⟩ (ϊ (f.stp+1))):=((((Kp.refl _ c).drewN nq).sc _).sc _).sc _;refine⟨rfl,w1,.slice g a h,F.1,F.2,((ak.mono sM).tr p.1).tr u,?_,p.2.1.keep u (Apt.one G dC)⟩;rw[U.out];exact μ (μ (μ (show (c.drewN nq).heap[tb]?=_ from G) 5 _) 4 _) 7 _
 .have U:Hid (f.step (.slice g a h) (del key ps).length={ f with v:=.slice g a h,chg:=f.chg+1,stp:=f.stp+1 }):=by show _=_;rw[p.out.2.2,TF.step,if_neg hq]
  go_quiet (fail)
  go_wp2
  try rw[a9,bc]
  go_ret;have u:Kp [tb] c (((c.drewN nq).setCell ⟨tb,4,none⟩ (ϊ (f.chg+1))).setCell ⟨tb,7,none⟩ (ϊ (f.stp+1))):=(((Kp.refl _ c).drewN nq).sc _).sc _;refine⟨rfl,w1,.slice g a h,F.1,F.2,((ak.mono sM).tr p.1).tr u,?_,p.2.1.keep u (Apt.one G dC)⟩;rw[U.out];exact μ (μ (show (c.drewN nq).heap[tb]?=_ from G) 4 _) 7 _
theorem jD5(B tb A n C:Nat)(cache)(X av:Int)(k:KF)(f:TF)(tbs)(m:List (TF × Nat))(ps)(key val)(M:Option Int)(a0:M=some 3)(S)(R:World->Prop)(w)(c:ChIn w B tb A n C cache X av k f tbs m ps)(hP:ProgS w S)(hj:qH7 f.wr f.dn key val=0)(ai:Calls prog 34 #[.pointer (some ⟨f.x,0,none⟩),.string key,.string val] w λe r=>∃ v,e=.returned v/\ErrV r v M/\R r/\Kp S w r)
  (ag:TFs w k tbs m) (hn:tbs.length<=100000) (hl:∀ x∈m,x.2<=100000) (cb) (s Y:Nat) (hc:k.c=.slice cb s Y) (aj:s<=100000) (am:k.n<=100000) (an:(ins ⟨key,val⟩ ps).length<=100000) (ao:qR8 k s f.most ((ins ⟨key,val⟩ ps).length:Nat) (qG0 k.com m)=false):
  Calls prog 132 #[.pointer (some ⟨B,0,none⟩),.pointer (some ⟨tb,0,none⟩),.string key,.string val,.bool false] w λe r=>e=.returned (.bool true)/\∃ j,R j/\Kp S w j/\Kp [] j r:=by
 have g:=zh (n6 ag hn hl hc aj am);have ay:=zh (n2 an ao);clear ag hn hl hc aj am an ao;have a5:=ζ c.hB;have a9:=ζ c.hT;have a2:=ζ c.hA.choose_spec;have b:=zh c;have l:=zh hP;have Z:=c.hB;have hT:=c.hT;have al:=c.kA;have ax:=zh ai;have E:=ξ Z 0;simp only[kob,zG,zH,zI] at E;have t0:=ξ hT 0;simp only[tob,zG,zH,zI] at t0;rw[al] at E;clear c hP Z hT al ai;go_enter func132,ntmps132;go_wp2_with fail;refine (qL8 A n C cache X av w b.hA.choose_spec).mono ?_;rintro e w0 ⟨rfl,rfl⟩;go_wp2_with fail;refine (show Calls _ _ _ _ _ from ax).mono ?_;rintro e j ⟨v,rfl,hv,hR,h⟩;have aa:=l.out.stay h b.hB dC;have ad:=l.out.stay h b.hT dC;have ap:=b.out.sp.keep h (l.apt dC);have ak:=l.out.g0 h b.g0 oM;have D:=zh (n2 hR h);clear E t0 hR;go_wp2_with fail;refine (qL1 v M j ak hv).mono ?_;rintro e w2 ⟨rfl,o⟩;have F:=o.hp aa;have a:=o.hp ad;have I:=ap.keep0 o;have a6:=ζ a;have a3:=ζ F;have d:=ξ a 1;have t2:=ξ a 2;have t3:=ξ a 3;have t4:=ξ a 4;have t5:=ξ a 5;have t6:=ξ a 6;have t7:=ξ a 7;simp only[tob,zG,zH,zI] at d t2 t3 t4 t5 t6 t7;obtain⟨N,P,O,L⟩:=I.slc;rw[L] at d;have V:=zh L;clear L
 go_wp2_with (go_at_call 127;refine (qK1 _ _).mono ?_;rintro e w2 ⟨rfl,rfl⟩)
 refine (zB2 (.slice N P O) f.cs f.wr f.dn f.chg f.most f.com f.stp key val _ ⟨_,_,_,rfl⟩).mono ?_;rintro e w3 ⟨rfl,p⟩;have t:=p.hp F;have u:=p.hp a;have aq:=I.keep0 p;have a4:=ζ t;have a7:=ζ u;have W:=ξ t 10;simp only[kob,zG,zH,zI] at W;rw[b.out.po] at W;have Q:=zh (o.tr p);clear d t2 t3 t4 t5 t6 t7 aa ad ap ak h o p F a I hv;rw[hj];clear hj a0;have d:=ξ u 1;simp only[tob,zG,zH,zI] at d;rw[V.out] at d;have J:SPR w3 (.slice N P O) ps:=by rw[<-V.out];exact aq
 have U:=zh u;have az:=zh b.sz;have a1:=zh J;have aw:=zh t;clear u t aq;go_wp2_with fail;refine (zT3 (.slice N P O) ps ⟨key,val⟩ _ J (by have:=az.out;omega)).mono ?_;rintro e w4 ⟨v4,rfl,K,G⟩;have ae:=G.hp U.out;have a8:=ζ ae;obtain⟨b4,c4,ar⟩:=K.form;obtain⟨y,i⟩:∃ y:Nat,(ins ⟨key,val⟩ ps).length=y:=⟨_,rfl⟩;rw[i] at ar;subst ar;have T:=zh (n3 K i G);clear K i G d J;go_wp2_with fail;obtain⟨z,au,q⟩:∃ z,z=w4.alloc (.cells #[.slice b4 y c4] 126)/\Kp [] w3 z:=⟨_,rfl,T.2.2.alloc _⟩;rw[<-au];have ah:=((l.tfs D.2 g.1).keep0 Q).keep0 q;have ab:=q.hp aw.out;have af:=q.hp U.out;have i:=T.out.2.1;have H:=ay.out;rw[i] at H;clear au ae;refine (xK2 B tb k f tbs m (y:Int) z ab af ah g.2.1 g.2.2.1 cb s Y g.2.2.2.1 g.2.2.2.2.1 b.m0 b.m1 oM oM g.2.2.2.2.2).mono ?_;rintro e w6 ⟨rfl,ac⟩;have HE:=zh ((Q.tr q).tr ac);rw[H.2];clear H i ah ab af q ac;go_wp2;go_ret;exact⟨rfl,j,D.1,D.2,HE⟩
theorem zF2(s x:Int)(a:0<=s)(b:s<18446744073709551616)(c:0<=x)(d:x<256):qJ5 s x=(((s.toNat ^^^ x.toNat:Nat):Int)*1099511628211) % 18446744073709551616:=by
 unfold qJ5;rw[IntKind.wrap_u64,IntKind.wrap_u64,show x % 18446744073709551616=x by omega,u64_xor s x a b c oM]
theorem xK9(a:Nat)(b:a<18446744073709551616):((a:Int)*1099511628211) % 18446744073709551616*14886173955864302971 % 18446744073709551616=(a:Int):=by
 rw[Int.mul_emod,Int.emod_emod,<-Int.mul_emod,Int.mul_assoc,show (1099511628211:Int)*14886173955864302971=1+18446744073709551616*887285111055 from by decide,Int.mul_add,Int.mul_one,Int.mul_left_comm,Int.add_mul_emod_self_left];exact Int.emod_eq_of_lt oM oM
theorem xL0(a b:Nat)(d:a<18446744073709551616)(e:b<18446744073709551616)(h:((a:Int)*1099511628211) % 18446744073709551616=((b:Int)*1099511628211) % 18446744073709551616):a=b:=by
 have c:=xK9 a d;rw[h,xK9 b e] at c;exact (Int.ofNat_inj.1 c).symm
theorem zK2(a b:Nat)(c:a<18446744073709551616)(d:b<18446744073709551616):a ^^^ b<18446744073709551616:=by
 have:=Nat.xor_lt_two_pow (n:=64) (x:=a) (y:=b) (by simpa using c) (by simpa using d);simpa using this
theorem xT8{a b c:Nat}(h:a ^^^ b=a ^^^ c):b=c:=by
 have:=congrArg (a ^^^ ·) h;simpa [<-Nat.xor_assoc] using this
theorem kR6{a b c:Nat}(h:b ^^^ a=c ^^^ a):b=c:=xT8 (a:=a) (by rw[Nat.xor_comm a b,Nat.xor_comm a c];exact h)
theorem jK4{s a x:Int}(g:0<=s)(i:s<18446744073709551616)(d:0<=a)(f:a<18446744073709551616)(b:0<=x)(c:x<256)(h:qJ5 s x=qJ5 a x):s=a:=by
 rw[zF2 s x g i b c,zF2 a x d f b c] at h;have e:=kR6 (xL0 _ _ (zK2 _ _ oM oM) (zK2 _ _ oM oM) h);omega
theorem jK5{s x y:Int}(a:0<=s)(b:s<18446744073709551616)(f:0<=x)(g:x<256)(c:0<=y)(d:y<256)(h:qJ5 s x=qJ5 s y):x=y:=by
 rw[zF2 s x a b f g,zF2 s y a b c d] at h;have e:=xT8 (xL0 _ _ (zK2 _ _ oM oM) (zK2 _ _ oM oM) h);omega
theorem zF3(s x:Int):0<=qJ5 s x:=by
 unfold qJ5;rw[IntKind.wrap_u64];omega
theorem xD9:∀ (xs:List Int) {s a:Int},0<=s->s<18446744073709551616->0<=a->a<18446744073709551616->(∀ x∈xs,0<=x/\x<256)->xs.foldl qJ5 s=xs.foldl qJ5 a->s=a
 | [],s,a,_,_,_,_,_,h=>h
 | x::xs,s,a,h0,h1,g0,g1,hx,h=>by
  have b:=hx x sM;exact jK4 h0 h1 g0 g1 b.1 b.2 (xD9 xs (zF3 _ _) (qZ2 _ _) (zF3 _ _) (qZ2 _ _) (λy c=>hx y (by simp[c])) h)
theorem jK6(a b:List Int)(x y:Int)(i:x≠y)(j:∀ z∈a,0<=z/\z<256)(g:∀ z∈b,0<=z/\z<256)(c:0<=x/\x<256)(d:0<=y/\y<256):fnv (a++x::b)≠fnv (a++y::b):=by
 intro h;unfold fnv at h;rw[List.foldl_append,List.foldl_append,List.foldl_cons,List.foldl_cons] at h;have e:0<=a.foldl qJ5 14695981039346656037:=qR3 a;have f:a.foldl qJ5 14695981039346656037<18446744073709551616:=qZ3 a;exact i (jK5 e f c.1 c.2 d.1 d.2 (xD9 b (zF3 _ _) (qZ2 _ _) (zF3 _ _) (qZ2 _ _) g h))
def One(p q:List UInt8):Prop:=p=q∨∃ a x y b,x≠y∧p=a++x::b∧q=a++y::b
theorem One.sum{p q}(h:One p q)(e:fnv (qE3 p)=fnv (qE3 q)):p=q:=by
 rcases h with h|⟨a,x,y,b,d,rfl,rfl⟩
 .exact h
 .refine absurd e ?_;have f:=x.toNat_lt;have g:=y.toNat_lt;have c:∀ z:UInt8,qE3 (a++z::b)=qE3 a++((z.toNat:Nat):Int)::qE3 b:=λz=>by simp[qE3]
  rw[c,c];exact jK6 _ _ _ _ (λh=>d (UInt8.toNat_inj.1 oM)) (zD7 a) (zD7 b) oM oM
theorem One.take{p q}(h:One p q)(k:Nat):One (p.take k) (q.take k):=by
 rcases h with rfl|⟨a,x,y,b,d,rfl,rfl⟩
 .exact .inl rfl
 .by_cases c:k<=a.length
  .exact .inl (by rw[List.take_append_of_le_length c,List.take_append_of_le_length c])
  .obtain⟨j,rfl⟩:∃ j,k=a.length+(j+1):=⟨k-a.length-1,oM⟩;exact .inr ⟨a,x,y,b.take j,d,by rw[List.take_length_add_append,List.take_succ_cons],by rw[List.take_length_add_append,List.take_succ_cons]⟩
theorem One.drop{p q}(h:One p q)(k:Nat):One (p.drop k) (q.drop k):=by
 rcases h with rfl|⟨a,x,y,b,d,rfl,rfl⟩
 .exact .inl rfl
 .by_cases c:k<=a.length
  .exact .inr ⟨a.drop k,x,y,b,d,by rw[List.drop_append_of_le_length c],by rw[List.drop_append_of_le_length c]⟩
  .obtain⟨j,rfl⟩:∃ j,k=a.length+(j+1):=⟨k-a.length-1,oM⟩;exact .inl (by rw[List.drop_append,List.drop_append];simp[show a.length+(j+1)-a.length=j+1 by omega])
theorem One.cut{p q}(h:One p q)(k:Nat):p.take k=q.take k\/p.drop k=q.drop k:=by
 rcases h with rfl|⟨a,x,y,b,d,rfl,rfl⟩
 .exact .inl rfl
 .by_cases c:k<=a.length
  .exact .inl (by rw[List.take_append_of_le_length c,List.take_append_of_le_length c])
  .obtain⟨j,rfl⟩:∃ j,k=a.length+(j+1):=⟨k-a.length-1,oM⟩;exact .inr (by rw[List.drop_append,List.drop_append];simp[show a.length+(j+1)-a.length=j+1 by omega])
open Go.Maps (Keyed)
section
attribute [local go_sem] Oper.semAt_some
structure Come(D:DataW Unit)(left:Lit→Bool)(ks:List Int):Prop where
 sub:∀ kl,left kl=true→Maps.has D kl=true
 has:∀ x∈ks,Maps.has D (ι x)=true∧keyOf prog 78 (.int .u64 x)=some (ι x)
 all:∀ kl,Maps.has D kl=true→left kl=true∨∃ x∈ks,kl=ι x
theorem Come.start(D):Come D (Maps.has D) []:=⟨λ_ h=>h,λx hx=>(by cases hx),λ_ h=>Or.inl h⟩
theorem Come.step{D}{left:Lit->Bool}{ks:List Int}(h:Come D left ks){x:Int}(f:left (ι x)=true)(b:keyOf prog 78 (.int .u64 x)=some (ι x)):Come D (λz=>left z && !z.sameKey (ι x)) (ks++[x]):=by
 refine⟨λkl b=>h.sub kl (by simp at b;exact b.1),λy a=>?_,λkl b=>?_⟩
 .rcases mA a with a|a
  .exact h.has y a
  .rw[mS a];exact⟨h.sub _ f,b⟩
 .rcases h.all kl b with d|⟨y,a,e⟩
  .by_cases c:kl.sameKey (ι x)=true
   .exact Or.inr ⟨x,sM,WideAt.sameKey_eq c⟩
   .exact Or.inl (by simp[d,c])
  .exact Or.inr ⟨y,by simp[a],e⟩
def KeysU(D:DataW Unit)(ks:List Int):Prop:=(∀ x∈ks,Maps.has D (ι x)=true∧keyOf prog 78 (.int .u64 x)=some (ι x))∧(∀ kl,Maps.has D kl=true→∃ x∈ks,kl=ι x)∧ks.length≤Maps.size D
theorem jQ8(n:Nat)(hn:1<=n)(l i M V b:Nat)(D)(J:List Int->World->Prop)
  (A:∀ h x W,J h W->h.length<Maps.size D->YieldAt Fence.wide (n-1) prog l #[.int .u64 x] W λe a=>e=.returned (.bool true)/\J (h++[x]) a/\KeepsWalks W a)
  (W) (j:AbidesFrom W.heap.size J) (hm:W.cell? ⟨i,0,none⟩=some (.map (some M))) (I:RM W V M b D) (t:J [] W):
  CallsIn Fence.wide n prog 239 #[.func (.yield l) #[] #[],.pointer (some ⟨i,0,none⟩)] W λe a=>(∃ v,e=.returned v)/\∃ ks:List Int,KeysU D ks/\J ks a:=by
 refine callsIn_of_wp func239 rfl trivial ?_ rfl;simp only[ntmps239,List.size_toArray,lC,List.length_nil,Nat.reduceAdd,Nat.reduceSub,Array.replicate_succ,Array.replicate_zero,List.push_toArray,aT,nA,cA]
 gi_wp2_with (first
  | (gi_at_range;refine wpListIn_range_own _ rfl _ 167 rfl 78 89 qM3 zA5 _ M b _ rfl I ?_;intro P K B aa)
  | gi_in)
 go_frame
 gi_loopw [3] (λ_ wr=>∃ (left:Lit->Bool) (cnt:Nat) (ks:List Int),wr.ranges prog 78 (qV1 V) M W.heap.size b D left cnt/\ks.length+cnt<=Maps.size D/\Come D left ks/\J ks wr)
  (λ_ wr=>wr.rangeLeft M W.heap.size)
 case atStart=>
  exact⟨_,_,[],K,sM,Come.start D,j [] W P none t B (λr e=>by cases e)⟩
 case round=>
  obtain⟨left,cnt,ks,g,Y,d,k⟩:=hrel
  gi_wp2_with (first
   | (gi_at_next;refine wpListIn_next_ranges _ rfl _ rfl 78 qM3 (qV1 V) (.int .u64) (λv:Value=>v) (λkey kl f=>by obtain⟨x,hx,_⟩:=Maps.keyOf_int_inv underlying78 f;exact⟨x,hx⟩) (λv y O=>⟨v,rfl⟩) M W.heap.size b _ _ _ rfl g ?_ ?_)
   | gi_in)
  .intro X F
   gi_wp2
   go_end0
   exact⟨⟨_,rfl⟩,ks,⟨d.has,λkl f=>(d.all kl f).resolve_left (by simp[F]),oM⟩,k⟩
  .intro x c kl yd yp p q m G O U L H C N Z;obtain⟨x',s,rfl,_⟩:=Maps.keyOf_int_inv underlying78 m;cases s;have u:=j ks wr p (some W.heap.size) k C (λr e=>by cases e;exact⟨lR,g.iter_walk⟩);obtain⟨T,ab,R,S,hy,z⟩:=A ks x p u oM;clear N
   gi_wp2
   refine z.mono ?_;rintro e Q ⟨rfl,w,E⟩
   gi_wp2
   have o:=L.of_walks E
   go_roundw
   case rel=>exact⟨_,q,ks++[x],o,sO,d.step G m,w⟩
   case measure=>rw[o.left_eq,g.left_eq];exact H
end
section
attribute [local go_sem] Oper.semAt_some
theorem Kp.ofGrown{a b}{c:Option Nat}(h:a.grownBy b c):Kp c.toList a b:=kF.grown h (λk d=>Or.inl (by rw[d];simp))
theorem Kp.putO{S}{a b}(h:Kp S a b){l:Nat}(f:l∈S)(o):Kp S a (b.putObj l o):=
 ⟨h.os,h.tape,h.output,by have:=h.size;simp[World.putObj];omega,λk d c=>(World.putObj_heap_other (by intro e;subst e;exact c f)).trans (h.block k d c)⟩
theorem kQ9{nn:Nat}{g:Operand}{ps:Array Tmp}{assign body:Code}{Q:Exit→Act→World→Prop}{a:Act}{w:World}(gf:Nat)(lb:Array Value)(S:List Int→Prop)(N:Nat)(h1:1≤nn)
  (hg:a.eval g=.func (.func gf) #[] lb) (eg:∀ (args:Array Value) (W:World),Sem.run prog (callFunc gf args) W=.ok (.enter gf args) W) (hps:ps.size=1) (hseq:SeqGives Fence.wide (nn-1) prog gf lb (.int .u64) S N w)
  (J:List Int→World→Prop)
  (hJK:∀ s W W' T,J s W→Kp T W W'→(∀ k∈T,w.heap.size≤k∧∀ c t fr,W.heap[k]?≠some (.cells c t fr))→J s W')
  (hJ0:∀ W,Kp [] w W→J [] W)
  (a₁:Int→Act)
  (hassign:∀ (l:Nat) (x:Int) (W:World) (K:Act→World→Prop),K (a₁ x) W→assign.wpIn (Fence.wide.inRound l) (nn-1-1) prog (Exit.then K (fun _ _ _=>False)) { tmps:=(ps.zip #[.int .u64 x]).foldl (fun t (p,v)=>t.setIfInBounds p v) a.tmps,defers:=[] } W)
  (hbody:∀ (l:Nat) (pre:List Int) (x:Int) (W:World),J pre W→pre.length<N→w.heap.size+2≤W.heap.size→
   body.wpIn (Fence.wide.inRound l) (nn-1-1) prog (fun e _ W3=>match e with
    | .normal=>J (pre++[x]) W3∧W.heap.size≤W3.heap.size∧∀ (k:Nat) (o:Obj),W.heap[k]?=some o→(∀ c t fr,o≠Obj.cells c t fr)→W3.heap[k]?=some o
    | _=>False) (a₁ x) W)
  (hdone:∀ (W:World) (ss:List Int),S ss→J ss W→W.heap[w.heap.size]?=some (.deferred (some []))→Q .normal { a with defers:={ target:=.collected w.heap.size,args:=#[] }::a.defers } W):
  (Code.rangeFunc g ps assign body).wpIn Fence.wide nn prog Q a w:=by
 refine wpIn_rangeFunc ?_;intro fn hfn;obtain⟨rec,hrec⟩:∃ rec:LoopState→Option Code→Loop,rec=fun st pe=>{ state:=st,pending:=pe,fn,tmps:=a.tmps,params:=ps,assign,body,defers:=w.heap.size }:=⟨_,rfl⟩;obtain⟨W1,hW1⟩:∃ W1,(w.alloc (.deferred (some []))).alloc (.loop (rec .ready none))=W1:=⟨_,rfl⟩;have hL1:W1.heap[w.heap.size+1]?=some (.loop (rec .ready none)):=by
  rw[←hW1];have:=World.alloc_heap_new (w.alloc (.deferred (some []))) (.loop (rec .ready none));rwa [World.size_alloc] at this
 have hD1:W1.heap[w.heap.size]?=some (.deferred (some [])):=by
  rw[←hW1];exact (Below.heap_alloc _ _ _ (by simp)).trans (World.alloc_heap_new w _)
 have hK1:Kp [] w W1:=by rw[←hW1];exact ((Kp.refl _ _).alloc _).alloc _
 have hB1:Below w.heap.size w W1:=by rw[←hW1];exact ((Below.refl _ w).alloc (Nat.le_refl _) _).alloc (by simp) _
 have hs1:W1.heap.size=w.heap.size+2:=by rw[←hW1];simp
 refine⟨w.heap.size+1,[{ target:=.collected w.heap.size,args:=#[] }],W1,{ target:=.fn (.func gf) lb,args:=#[.func (.yield (w.heap.size+1)) #[] #[]] },W1,gf,
  #[.func (.yield (w.heap.size+1)) #[] #[]]++lb,W1,?_,?_,?_,?_,fun h=>(by cases h),?_⟩
 ·rw[←hW1,hrec];exact run_enterLoop_outer _ _ _ _ _
 ·simp only[resolve,hg];simp[go_sem]
 ·intro f' hf';trivial
 ·simp[invoke,go_sem,eg]
 ·refine (hseq (w.heap.size+1) (fun ss W=>J ss W∧W.heap[w.heap.size+1]?=some (.loop (rec .ready none))∧W.heap[w.heap.size]?=some (.deferred (some []))) W1 hB1 ?_ ?_ ⟨hJ0 W1 hK1,hL1,hD1⟩).mono ?_
  ·rintro ss W W' row ⟨hJ,hL,hD⟩ hgr hrow;have hr2:∀ r,row=some r→∃ o:Obj,W.heap[r]?=some o∧o.isWalk=true:=fun r e=>(hrow r e).2;refine⟨hJK ss W W' _ hJ (Kp.ofGrown hgr) (fun k hk=>?_),(grownBy_keeps hgr hr2 hL rfl).trans hL,(grownBy_keeps hgr hr2 hD rfl).trans hD⟩;obtain⟨h3,o,h4,h5⟩:=hrow k (by simpa using hk);exact⟨by omega,fun c t fr e=>by rw[h4] at e;cases e;cases h5⟩
  ·
   rintro pre x W ⟨hJ,hL,hD⟩ hpl;have hlt:w.heap.size+1<W.heap.size:=ζ hL;have hy:=run_yield (P:=prog) (args:=#[.int .u64 x]) hL (by rw[hrec];simp[hps]);rw[hrec] at hy;refine⟨fn,_,assign,body,hy,roundIn_of_wpIn hfn (hassign _ x W _ ?_)⟩;clear hy;refine⟨_,run_beginRound hL (by rw[hrec]),?_⟩;obtain⟨W3,hW3,hL3,hK3⟩:∃ W3,W3=W.putObj (w.heap.size+1) (.loop { rec .ready none with state:=.busy })∧W3.heap[w.heap.size+1]?=some (.loop { rec .ready none with state:=.busy })∧Kp [w.heap.size+1] W W3:=
    ⟨_,rfl,World.putObj_heap_same (ζ hL),(Kp.refl _ _).putO (by simp) _⟩
   have hk3:KeepsWalks W W3:=by rw[hW3];exact KeepsWalks.putObj _ hL rfl
   rw[←hW3];clear hW3;have hJ3:J pre W3:=hJK _ _ _ _ hJ hK3 (fun k hk=>by rw[List.mem_singleton.1 hk];exact⟨by omega,fun c t fr e=>by rw[hL] at e;cases e⟩);have hD3:=hK3.hp hD;refine wpIn_mono (hbody _ pre x W3 hJ3 hpl (by have:=hK3.size;omega)) ?_;rintro e a3 W4 hp
   cases e with
   | normal=>
    obtain⟨hJ4,hs4,hk4⟩:=hp;have hb1:=hk4 _ _ hL3 (fun c t fr e=>by cases e);have hb2:=hk4 _ _ hD3 (fun c t fr e=>by cases e);have hr:=run_endRound (P:=prog) none hb1;rw[hrec] at hr;refine⟨_,_,hr,rfl,?_⟩;have hKf:Kp [w.heap.size+1] W4 (W4.putObj (w.heap.size+1) (.loop (rec .ready none))):=(Kp.refl _ _).putO (by simp) _;have hfin:(J (pre++[x]) (W4.putObj (w.heap.size+1) (.loop (rec .ready none)))∧(W4.putObj (w.heap.size+1) (.loop (rec .ready none))).heap[w.heap.size+1]?=some (.loop (rec .ready none))∧(W4.putObj (w.heap.size+1) (.loop (rec .ready none))).heap[w.heap.size]?=some (.deferred (some [])))∧KeepsWalks W (W4.putObj (w.heap.size+1) (.loop (rec .ready none))):=
     ⟨⟨hJK _ _ _ _ hJ4 hKf (fun k hk=>by rw[List.mem_singleton.1 hk];exact⟨by omega,fun c t fr e=>by rw[hb1] at e;cases e⟩),World.putObj_heap_same (ζ hb1),hKf.hp hb2⟩,
      (hk3.trans ⟨hs4,fun k o hk ho=>hk4 k o hk (fun c t fr e=>by rw[e] at ho;cases ho)⟩).trans (KeepsWalks.putObj _ hb1 rfl)⟩
    rw[hrec] at hfin ⊢;exact hfin
   | ret=>exact hp.elim
   | exit i=>exact hp.elim
   | goto l=>exact hp.elim
   | panic ch=>exact hp.elim
   | outgrown=>exact hp.elim
  ·
   rintro e W2 ⟨⟨v,rfl⟩,ss,hS,hJ2,hL2,hD2⟩;have hr:=run_endLoop (P:=prog) hL2 (by rw[hrec];simp);rw[hrec] at hr;have hKf:Kp [w.heap.size+1] W2 (W2.putObj (w.heap.size+1) (.loop { rec .ready none with state:=.exhausted })):=(Kp.refl _ _).putO (by simp) _;refine⟨none,_,hr,?_⟩;have:=hdone (W2.putObj (w.heap.size+1) (.loop { rec .ready none with state:=.exhausted })) ss hS (hJK _ _ _ _ hJ2 hKf (fun k hk=>by rw[List.mem_singleton.1 hk];exact⟨by omega,fun c t fr e=>by rw[hL2] at e;cases e⟩)) (hKf.hp hD2);rw[hrec] at this;exact this
end
theorem jY4{k:Option Int}{e:Ending}(h:e=qB7 k):(e=.returned (.tuple #[])/\k=none)\/∃ c,e=.panicked c:=by
 cases k with
 | none=>exact .inl ⟨h,rfl⟩
 | some k=>exact .inr ⟨_,h⟩
theorem zZ3(args)(W):Sem.run prog (callFunc 68 args) W=.ok (.enter 68 args) W:=by
 simp[go_sem,func68]
theorem zB0{w:World}{a b:Nat}{c d:Array Value}{t u:TypeId}{g i:Nat × Nat}(j:w.heap[a]?=some (.cells c t g))(f:w.heap[b]?=some (.cells d u i))(h:t≠u):a≠b:=λe=>by
 subst e;rw[j] at f;cases f;exact h rfl
theorem jD9(i x n V:Nat)(t)(s)(D)(R:Option Int->World->World->Prop)(w)(g:w.heap[i]?=some (.cells #[.pointer (some ⟨x,0,none⟩)] 32))(c:w.heap[x]?=some (qA5 t))(m:w.heap[t.St]?=some (ν 1 s))(E:RM w s.V s.M n D)(h0:0<=t.nr)(h1:t.nr<=1000000000)(F:s.M≠t.St)(N:x≠t.St)(M:x≠s.M)(G:i≠s.M)(ae:s.M<w.heap.size)(ab:t.on=some ⟨V,0,none⟩)(ac:t.wrt=true)
  (J:∀ W:World,Kp [t.St,x,s.M] w W->W.heap[x]?=some (qA5 t.ended)->W.heap[t.St]?=some (ν 1 (s.left t.nr))->RM W s.V s.M n (D.del (ι t.nr))->Calls prog 70 #[.pointer (some ⟨t.St,0,none⟩),τ V t.h] W λe z=>∃ k,e=qB7 k/\R k W z):
  Calls prog 68 #[.pointer (some ⟨i,0,none⟩)] w λe z=>∃ k,e=qB7 k/\∃ W,Kp [t.St,x,s.M] w W/\W.heap[x]?=some (qA5 t.ended)/\W.heap[t.St]?=some (ν 1 (s.left t.nr))/\RM W s.V s.M n (D.del (ι t.nr))/\R k W z:=by
 have ak:=ζ c;have ah:=ζ g;have af:=ζ m;have I:=zB0 g c dC;have H:=zB0 g m dC;have O:=ϻ g 0;have A:=ξ c 4;have Q:=ξ c 5;have S:=ξ c 6;have T:=ξ c 7;have U:=ξ c 8;simp only[qA5,zG,zH,zI] at A Q S T U;rw[ab] at A;have HX:=zh c;have HT:=zh g;have HS:=zh m;have X:=zh E;have Y:=zh (n6 F N M G I H);have B:=zh J;clear c g m E F N M G I H J;go_enter func68,ntmps68;go_wp2_with fail;obtain⟨w0,L,aa,j,ai⟩:=alB w (.cells (ϟ V t.h) 89);rw[<-L];clear L O A Q S T U;obtain⟨n1,n2,n3,n4,n5,n6⟩:=Y.out;refine (qV6 x n t s D w0 (j.hp HX) (j.hp HS) (X.kp j sM) h0 h1 n1 n2 n3).mono ?_;rintro e a ⟨rfl,f,v,r,q⟩;have l:=(j.mono sM).trans q (λ_ h _=>h);have o:=l.heap HT (by simp;exact⟨n6,n5,n4⟩);have p:=q.ho aa;have ag:=ζ o;have aj:=ζ f;have ad:=ζ p;have O:=ϻ o 0;have x0:=ξ f 0;have P:=ξ f 2;simp only[qA5,Tx.ended,zG,zH,zI] at x0 P;rw[ac] at P;have C:=zh (B a.drew l.drew f v (r.kp ((Kp.refl [] a).drew) sM));have d:Hid (Kp [t.St,x,s.M] w a.drew/\Ϙ a.drew x (qA5 t.ended)/\Ϙ a.drew t.St (ν 1 (s.left t.nr))/\RM a.drew s.V s.M n (D.del (ι t.nr))):=⟨l.drew,f,v,r.kp ((Kp.refl [] a).drew) sM⟩;have y:Ϙ a.drew i (.cells #[ϖ x] 32)/\Ϙ a.drew x (qA5 t.ended)/\Ϙ a.drew w.heap.size (.cells (ϟ V t.h) 89):=⟨o,f,p⟩;clear B l v r q o f p;go_wp2_with fail;have b:=ξ y.2.2;have hb:=y.2.2;rw[τ] at C;clear y
 go_region_with (go_at_call 70;go_must (refine (show Calls _ _ _ _ _ from C).mono ?_);rintro e w2 ⟨k,K,u⟩;rcases jY4 K with⟨rfl,rfl⟩ | ⟨cc,rfl⟩;rotate_left;(go_wp2;exact⟨rfl,k,K,a.drew,d.1,d.2.1,d.2.2.1,d.2.2.2,u⟩))
 all_goals
  have Z:=hid u;clear u b hb;go_wp2
  go_end0
  exact⟨none,rfl,a.drew,d.1,d.2.1,d.2.2.1,d.2.2.2,Z⟩
theorem xR8(x n V:Nat)(t)(s)(D)(X)(R:Option Int->Sto->World->World->Prop)(w)(y:w.heap[x]?=some (qA5 t))(U:t.over=false)(G:w.heap[t.St]?=some (ν 0 s))(Z:s.po=false)(Q:RM w s.V s.M n D)(N:0<=t.nr)(O:t.nr<=1000000000)(F:s.M≠t.St)(z:x≠t.St)(ab:x≠s.M)(ac:s.M<w.heap.size)(Y:t.on=some ⟨V,0,none⟩)(aa:t.wrt=true)(H:∀ i∈X,i<w.heap.size)
  (I:∀ W:World,Kp [t.St,x,s.M] w W->W.heap[x]?=some (qA5 t.ended)->W.heap[t.St]?=some (ν 1 (s.left t.nr))->RM W s.V s.M n (D.del (ι t.nr))->Calls prog 70 #[.pointer (some ⟨t.St,0,none⟩),τ V t.h] W λe c=>∃ k a,k≠some 8/\e=qB7 k/\R k a W c/\Kp (t.St::X) W c/\c.heap[t.St]?=some (ν 1 a)):
  Calls prog 31 #[.pointer (some ⟨x,0,none⟩)] w λe c=>∃ k a v,e=.returned v/\ErrV c v k/\c.heap[t.St]?=some (ν 0 a)/\Kp (t.St::x::s.M::X) w c/\∃ W b B,Kp [t.St,x,s.M] w W/\W.heap[x]?=some (qA5 t.ended)/\W.heap[t.St]?=some (ν 1 (s.left t.nr))/\RM W s.V s.M n (D.del (ι t.nr))/\R k a W b/\Kp (t.St::X) W b/\b.heap[t.St]?=some (ν 1 a)/\w.heap.size<=B/\b.heap[B]?=some (.cells #[.nilIface] 38)/\Kp [t.St,B] b c:=by
 have ae:=zM;have ag:=ζ y;have ad:=ζ G;obtain⟨w0,J,P,q,af⟩:=qD5 w (.cells #[ϖ x] 32);have E:=hid (xE6 x t.St 68 t s #[] #[ϖ w.heap.size] (ByteArray.mk #[67,111,109,109,105,116]) (x::s.M::X) (λk a _ b=>∃ W,Kp [t.St,x,s.M] w W/\Ϙ W x (qA5 t.ended)/\Ϙ W t.St (ν 1 (s.left t.nr))/\RM W s.V s.M n (D.del (ι t.nr))/\R k a W b/\Kp (t.St::X) W b) w0 (q.hp y) U rfl (q.hp G) Z z (zZ3 _) (by intro i d;simp at d;rcases d with rfl | rfl | d;omega;omega;have:=H i d;omega) (by
  intro W hK S;have m:=(q.mono sM).trans hK (λ_ h _=>h);have T:w.heap.size≠t.St:=oM
  refine (jD9 w.heap.size x n V t s D (λk W c=>∃ a,k≠some 8/\R k a W c/\Kp (t.St::X) W c/\Ϙ c t.St (ν 1 a)) W (hK.heap P (by simp;exact T)) (m.heap y (by simp;exact z)) S (Q.kp m (by simp;exact F)) N O F z ab oM (by have:=m.size;omega) Y aa ?_).mono ?_
  .intro u p f g j;exact (I u ((m.mono sM).trans p (λ_ h _=>h)) f g j).mono λe b ⟨k,a,A,C,q3⟩=>⟨k,C,a,A,q3⟩
  .rintro e b ⟨k,C,u,p,f,g,j,a,A,o,l,M⟩;refine⟨k,a,A,C,⟨u,(m.mono sM).trans p (λ_ h _=>h),f,g,j,o,l⟩,?_,M⟩;refine (p.mono ?_).trans l ?_
   .intro i d;simp at d |-;omega
   .intro i d _;simp at d |-;rcases d with h | h<;>simp[h]))
 clear I H;go_enter func31,ntmps31;go_wp2_with fail;rw[<-J];clear J;refine (show Calls _ _ _ _ _ from E).mono ?_;rintro e r ⟨k,a,v,rfl,hv,hs2,hK2,W0,b,B,⟨W,f,g,j,e4,o,l⟩,hKW,hB1,hB2,hB3,hKB,hs1⟩;have L:=hid (show ∃ k a K,Ending.returned v=ϱ K/\ErrV r K k/\Ϙ r t.St (ν 0 a)/\Kp (t.St::x::s.M::X) w r/\∃ W b B,Kp [t.St,x,s.M] w W/\Ϙ W x (qA5 t.ended)/\Ϙ W t.St (ν 1 (s.left t.nr))/\RM W s.V s.M n (D.del (ι t.nr))/\R k a W b/\Kp (t.St::X) W b/\Ϙ b t.St (ν 1 a)/\w.heap.size<=B/\Ϙ b B (.cells #[.nilIface] 38)/\Kp [t.St,B] b r from
  ⟨k,a,v,rfl,hv,hs2,(q.mono sM).trans hK2 (λ_ h _=>h),W,b,B,f,g,j,e4,o,l,hs1,oM,hB3,hKB⟩)
 clear hv hs2 hK2 f g j e4 o l hs1 hKW hB3 hKB E;go_wp2;go_ret;exact L
end Go.Proofs.YtdohpenfkdckiaaGreatDoor
