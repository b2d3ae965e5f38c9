import Derived.Test.YtdohpenfkdckiaaGreatDoorJ05
import Derived.Laws.EntriesVeiled
import Derived.Lib.SmallJoins
set_option linter.all false
set_option maxRecDepth 100000
set_option maxHeartbeats 0
namespace Go.Proofs.YtdohpenfkdckiaaGreatDoor
open Go.Proofs.Tryz Go.RowKit
def AT(l:List KV)(lo:ByteArray):List KV:=l.filter fun q=>!kl q.k lo
def Jr{α:Type}(f:α->Bool):∀l:List α,l.find? f=(l.filter f).head?
 | []=>rfl
 | a::l=>by
  by_cases h:f a=true
  .rw[List.find?_cons_of_pos h,List.filter_cons_of_pos h,List.head?_cons]
  .rw[List.find?_cons_of_neg h,List.filter_cons_of_neg h];exact Jr f l
def Nt{l}(h:Sorted l)(lo):Sorted (AT l lo):=h.sublist List.filter_sublist
def Wh(l)(lo):(l.find? λq=>!kl q.k lo)=(AT l lo)[0]?:=by
 rw[Jr,AT,List.head?_eq_getElem?]
def Vq(l)(lo pk)(c:kl pk lo=false):(l.filter λq=>kl pk q.k)=(AT l lo).filter λq=>kl pk q.k:=by
 unfold AT;rw[List.filter_filter];refine List.filter_congr λq d=>?_;by_cases a:kl pk q.k=true
 .have:kl q.k lo=false:=by
   by_cases e:kl q.k lo=true
   .have:=Dp a e;rw[c]at this;cases this
   .simpa using e
  rw[a,this];rfl
 .have b:kl pk q.k=false:=by simpa using a
  rw[b];rfl
def Wi{l}(h:Sorted l)(lo){j:Nat}(b:j<(AT l lo).length):(l.find? λq=>kl (AT l lo)[j].k q.k)=(AT l lo)[j+1]?:=by
 rw[Jr,List.head?_eq_getElem?];have n:kl (AT l lo)[j].k lo=false:=by
  have o:=gM b;have:=(List.mem_filter.1 o).2;simpa using this
 have f:=Vq l lo _ n;rw[f];have p:=Nt h lo;generalize AT l lo=A at *;have g:A.filter (λq=>kl A[j].k q.k)=A.drop (j+1):=by
  have r:A=A.take (j+1)++A.drop (j+1):=(tD _ _).symm;have d:=pG p;have k:(A.take (j+1)).filter (λq=>kl A[j].k q.k)=[]:=by
   rw[List.filter_eq_nil_iff];intro q c;obtain⟨i,a,rfl⟩:=gO c;rw[List.getElem_take];simp[lK]at a;by_cases e:i=j
   .subst e;simp[Cx]
   .have:=Dt (d i j oM b oM);simp[this]
  have m:(A.drop (j+1)).filter (λq=>kl A[j].k q.k)=A.drop (j+1):=by
   rw[List.filter_eq_self];intro q c;obtain⟨i,a,rfl⟩:=gO c;rw[List.getElem_drop];simp[lD]at a;exact d j (j+1+i) b oM oM
  calc A.filter (λq=>kl A[j].k q.k)=(A.take (j+1)++A.drop (j+1)).filter (λq=>kl A[j].k q.k):=by rw[tD]
   _=A.drop (j+1):=by rw[List.filter_append,k,m,nA]
 rw[g];simp
def Ng(l)(lo hi):l.filter (inR lo hi)=(AT l lo).filter λq=>kl q.k hi:=by
 rw[AT,List.filter_filter];refine List.filter_congr λq _=>?_;rw[inR,Bool.and_comm]
def Nu{l}(h:Sorted l)(lo hi){j:Nat}(p:j<=(AT l lo).length)(g:∀q∈(AT l lo).take j,kl q.k hi=true)(k:∀q,(AT l lo)[j]?=some q->kl q.k hi=false):l.filter (inR lo hi)=(AT l lo).take j:=by
 rw[Ng];have o:=Nt h lo;generalize AT l lo=A at *;have d:=List.filter_eq_self.2 g;have f:(A.drop j).filter (λq=>kl q.k hi)=[]:=by
  rw[List.filter_eq_nil_iff];intro q n;obtain⟨i,m,rfl⟩:=gO n;rw[List.getElem_drop];simp[lD]at m;have c:j<A.length:=oM
  have b:=k A[j] (by simp[c]);by_cases e:i=0
  .subst e;simp[b]
  .have:=pG o j (j+i) c oM oM;by_cases a:kl A[j+i].k hi=true
   .have:=Dp this a;rw[b]at this;cases this
   .simpa using a
 calc A.filter (λq=>kl q.k hi)=(A.take j++A.drop j).filter (λq=>kl q.k hi):=by rw[tD]
  _=A.take j:=by rw[List.filter_append,d,f,aN]
def Wj{l}(h:Sorted l)(lo hi){j:Nat}(c:j<=(AT l lo).length)(b:∀q∈(AT l lo).take j,kl q.k hi=true):(AT l lo).take j <+: l.filter (inR lo hi):=by
 rw[Ng];generalize AT l lo=A at *;have a:=List.filter_eq_self.2 b;refine⟨(A.drop j).filter (λq=>kl q.k hi),?_⟩
 calc A.take j++(A.drop j).filter (λq=>kl q.k hi)=(A.take j++A.drop j).filter (λq=>kl q.k hi):=by rw[List.filter_append,a]
  _=A.filter (λq=>kl q.k hi):=by rw[tD]
def Qp(lo):Up λk=>!kl k lo:=λa b hab ha=>by
 by_cases e:kl b lo=true
 .have:=Dp hab e;simp[this]at ha
 .simpa using e
def Qq(p):Up λk=>kl p k:=λa b hab ha=>Dp ha hab
section
attribute [local go_sem] Oper.semAt_some
def YS(W:Ϣ)(N:Nat)(S:Ϥ):Prop:=∀k∈S,k<N/\((∃c t fr,W.heap[k]?=some (ϲ c t fr)/\(t=29\/t=42))\/∃rec,W.heap[k]?=some (.loop rec))
def YS.qM3{W W'}{N:Nat}{S}(h:YS W N S)(hK:Kp S W W'){k:Nat}{c}{t}{fr}(d:W.heap[k]?=some (ϲ c t fr))(f:t≠29/\(t≠42\/N<=k)):W'.heap[k]?=some (ϲ c t fr):=by
 refine hK.heap d λi=>?_;let⟨m,g⟩:=h k i;rcases g with⟨j,t',l,a,b⟩|⟨n,a⟩
 .rw[d]at a;cases a;rcases b with b|b
  .exact f.1 b
  .rcases f.2 with e|e
   .exact e b
   .omega
 .rw[d]at a;cases a
def YS.apt{W}{N:Nat}{S}(h:YS W N S):Apt W S Bi:=λk f c t j e g=>by
 let⟨m,b⟩:=h k f;rcases b with⟨i,t',l,a,d⟩|⟨n,a⟩
 .rw[e]at a;cases a;rcases d with rfl|rfl<;>revert g<;>decide
 .rw[e]at a;cases a
structure AllIn(E:SEnv)(x A n:Nat)(t:Tx)(s:Sto)(r:Root)(B Lc Hc:Nat)(lo hi:Ϧ)(w:Ϣ):Prop where
 live:LiveT E w x A n t s r
 hB:w.heap[B]?=some (ϲ #[ϖ x] 32)
 hL:w.heap[Lc]?=some (ϲ #[ϕ lo] 9)
 hH:w.heap[Hc]?=some (ϲ #[ϕ hi] 9)
def AllIn.more{E}{x A n:Nat}{t}{s}{r}{B b a:Nat}{lo hi}{w w'}(h:AllIn E x A n t s r B b a lo hi w)(hK:Kp [] w w'):AllIn E x A n t s r B b a lo hi w':=
 ⟨h.live.more hK,hK.hp h.hB,hK.hp h.hL,hK.hp h.hH⟩
def AllIn.qO4{E}{x A n:Nat}{t}{s}{r}{B j i:Nat}{lo hi}{w w'}{L}(h:AllIn E x A n t s r B j i lo hi w)(hK:Kp L w w')(p:w'.heap[t.St]?=some (η 0 s))(q:E.Dev w')
  (l:∀k∈L,k=t.St\/k∈E.S\/∃c u b,w.heap[k]?=some (ϲ c u b)/\u∉[99,32,9,263,213,185,87]):AllIn E x A n t s r B j i lo hi w':=by
 have f:∀k c u b,w.heap[k]?=some (ϲ c u b)->u∈[99,32,9,213,185,87]->k∉L:=λk c u b hk hu d=>by
  rcases l k d with a|a|⟨m,v,o,a,g⟩
  .subst a;rw[h.live.hSt]at hk;cases hk
   revert hu;decide
  .exact E.nin h.live.dev hk ((show ∀u∈([99,32,9,213,185,87]:List TypeId),u∉Cn by decide) u hu) a
  .rw[hk]at a;cases a;exact g ((show ∀u∈([99,32,9,213,185,87]:List TypeId),u∈([99,32,9,263,213,185,87]:List TypeId) by decide) u hu)
 have hV:E.V∉L:=λd=>by
  rcases l _ d with a|a|⟨m,v,o,a,g⟩
  .exact υ h.live.hV h.live.hSt dC a
  .exact h.live.vS a
  .rw[h.live.hV]at a;cases a;exact g dC
 refine⟨{ h.live with hx:=hK.heap h.live.hx (f _ _ _ _ h.live.hx dC),hSt:=p,hV:=hK.heap h.live.hV hV,dev:=q,rr:=h.live.rr.qO1 hK (λk hk c u b e d=>f k c u b e ((show ∀u∈Bi,u∈([99,32,9,213,185,87]:List TypeId) by decide) u d) hk) },hK.heap h.hB (f _ _ _ _ h.hB dC),hK.heap h.hL (f _ _ _ _ h.hL dC),hK.heap h.hH (f _ _ _ _ h.hH dC)⟩
def Kp.putObj{S}{a b}(h:Kp S a b){l:Nat}(c:l∈S\/a.heap.size<=l)(o):Kp S a (b.putObj l o):=
 ⟨h.os,h.tape,h.output,by have:=h.size;simp[World.putObj];omega,λk f d=>(World.putObj_heap_other (by
  rcases c with c|c
  .intro e;subst e;exact d c
  .omega)).trans (h.block k f d)⟩
end
section
attribute [local go_sem] Oper.semAt_some
def YS.off{W}{N:Nat}{S}(h:YS W N S):OffD W S:=λk f c t j e g=>by
 let⟨m,b⟩:=h k f;rcases b with⟨i,t',l,a,d⟩|⟨n,a⟩
 .rw[e]at a;cases a;rcases d with rfl|rfl<;>revert g<;>decide
 .rw[e]at a;cases a
def AllIn.round{E}{x A n:Nat}{t}{s}{r}{B c b:Nat}{lo hi}{w w'}{N:Nat}{SY}(h:AllIn E x A n t s r B c b lo hi w)(a:YS w N SY)(hK:Kp SY w w'):AllIn E x A n t s r B c b lo hi w':=by
 have d:=a.qM3 hK h.live.hSt ⟨dC,.inl dC⟩;refine⟨{ h.live with hx:=a.qM3 hK h.live.hx ⟨dC,.inl dC⟩,hSt:=d,hV:=a.qM3 hK h.live.hV ⟨dC,.inl dC⟩,dev:=E.qN1 w w' SY h.live.dev hK a.off,rr:=h.live.rr.qO1 hK a.apt },a.qM3 hK h.hB ⟨dC,.inl dC⟩,a.qM3 hK h.hL ⟨dC,.inl dC⟩,a.qM3 hK h.hH ⟨dC,.inl dC⟩⟩
def ErrV.qM3{w w'}{v}{k:ϩ}{S}(h:ErrV w v k)(hK:Kp S w w')(e:∀i∈S,∀c fr,w.heap[i]?≠some (ϲ c 246 fr)):ErrV w' v k:=by
 cases k with
 | none=>exact h
 | some k=>
  let⟨F,b,d,a⟩:=h;exact⟨F,b,d,hK.heap a (λf=>e _ f _ _ a)⟩
def Rt(E)(x A n:Nat)(t)(s)(r)(B Z X:Nat)(lo j call)(I H g:Nat)(cap)(f:Ϧ->Bool)(w)(hI:AllIn E x A n t s r B Z X lo j w)(S:w.heap[I]?=some (DD (some (ϰ E.V 0)) t.h))(P:w.heap[H]?=some (ϲ #[.func (.func g) #[] cap] 92))(l m:Nat)
  (F:w.heap[l]?=some (ϲ #[ϕ ⟨#[]⟩,ϕ ⟨#[]⟩] 42)) (G:w.heap[m]?=some (ϲ #[ϐ false] 4)) (ad:Up f)
  (ha:∀W,Kp (t.St::E.S) w W->∀k,Calls prog g (#[ϕ k]++cap) W λe K=>e=ϱ (ϐ (f k))/\Kp [] W K)
  (ab:ϴ g):
  Ω 45 #[ϖ x,ϕ call,.func (.func 179) #[] #[ϖ I,ϖ H,ϖ l,ϖ m]] w λe w'=>∃v k,e=ϱ v/\ErrV w' v k/\((ioK k=true/\SickT E w w' t s)\/
   (k=none/\w'.heap[l]?=some (ϲ #[ϕ (pkv (r.cont.find? λq=>f q.k)).k,ϕ (pkv (r.cont.find? λq=>f q.k)).v] 42)/\w'.heap[m]?=some (ϲ #[ϐ (r.cont.find? λq=>f q.k).isSome] 4)/\w'.heap[t.St]?=some (η 0 s)/\E.Dev w'/\Kp (t.St::l::m::E.S) w w')):=by
 have a:=hI.live;refine(EV x t.St 179 t s #[] _ call (l::m::E.S) (λk V W d=>V=s/\((ioK k=true/\E.qP9 d/\Kp E.S W d)\/(k=none/\E.Dev d/\Ϙ d l (ϲ #[ϕ (pkv (r.cont.find? λq=>f q.k)).k,ϕ (pkv (r.cont.find? λq=>f q.k)).v] 42)/\Ϙ d m (ϲ #[.bool (r.cont.find? λq=>f q.k).isSome] 4)))) w a.hx a.over rfl a.hSt (λh=>by rw[a.po]at h;cases h) a.xS (SS _) (λi j=>by
  simp[mC]at j;rcases j with h|h|h
  .rw[h];exact U F
  .rw[h];exact U G
  .exact E.low w a.dev i h) ?_).mono ?_
 .intro _ W hK N;have z:=a.qU7 hK;have p:∀{k:Nat} {c:Array Value} {u:TypeId} {fr:Nat×Nat},Ϙ w k (ϲ c u fr)->u≠169->k∉[t.St]:=λhk hu hm=>υ hk a.hSt hu (mS hm);have R:=hK.heap F (p F dC);have T:=hK.heap G (p G dC);refine(Ro E I H l m g cap f t.h r W (hK.heap S (p S dC)) (hK.heap P (p P dC)) R T z (a.rr.qO1 hK (Apt.one a.hSt dC)) a.qM7 ad (λK k aa=>ha K ((hK.mono (S':=t.St::E.S) sM).trans aa.kp sC) k) ab).mono ?_;rintro e C (⟨⟨b,rfl⟩,hf,O⟩|⟨rfl,D,L,d,o,M⟩)
  .exact⟨some (1000+(b:Int)),s,FR b,(Eb b).symm,⟨rfl,.inl ⟨DY b,hf,O⟩⟩,O.mono sC,O.heap N (E.nin z N dC)⟩
  have y:Ϙ C t.St (η 1 s):=M.heap (E.stay z o N dC) (by
   simp[mC,lN,or_false,not_or];exact⟨υ a.hSt F dC,υ a.hSt G dC⟩)
  exact⟨none,s,dC,rfl,⟨rfl,.inr ⟨rfl,E.qN1 d C _ o.dev M ((OffD.one (E.stay z o R dC) dC).cons (OffD.one (E.stay z o T dC) dC)),D,L⟩⟩,(o.kp.mono (S':=t.St::l::m::E.S) sC).trans M (by intro i j _;simp at j |-;rcases j with h | h<;>simp[h]),y⟩
 .rintro e C ⟨k,V,v,rfl,hv,y,hK2,W,d,Bb,⟨rfl,hQ⟩,hKW,hb1,hb2,hb3,hKB,hS1⟩;refine⟨v,k,rfl,hv,?_⟩;rcases hQ with⟨D,L,h3⟩|⟨rfl,ac,Q,o⟩
  .refine .inl ⟨D,E.qP6 d C _ L hKB (Cs hS1 hb3),by rw[y,Sto.aft,D,Bool.or_true],?_⟩;refine((hKW.mono (S':=t.St::E.S) sM).trans h3 sC).trans hKB ?_;intro i j ae;simp[mC,lN,or_false]at j;rcases j with rfl|rfl
   .simp
   .omega
  rw[Sto.qO8 rfl]at y;have p:∀{k:Nat} {c:Array Value} {u:TypeId} {fr:Nat×Nat},Ϙ d k (ϲ c u fr)->u≠169->u≠38->k∉[t.St,Bb]:=λhk hu hu2 hm=>by
   simp[mC,lN,or_false]at hm;rcases hm with h|h
   .exact υ hk hS1 hu h
   .exact υ hk hb3 hu2 h
  exact .inr ⟨rfl,hKB.heap Q (p Q dC dC),hKB.heap o (p o dC dC),y,E.qN1 d C _ ac hKB (Cs hS1 hb3),hK2⟩
end
section
attribute [local go_sem] Oper.semAt_some
def Rr(E)(x A n:Nat)(t)(s)(r)(B y q:Nat)(lo hi call)(b:Nat)(w)(g:AllIn E x A n t s r B y q lo hi w)(j:w.heap[b]?=some (DD none ⟨⟨#[]⟩,0,0,none⟩)):
  Ω 45 #[ϖ x,ϕ call,.func (.func 177) #[] #[ϖ B,ϖ b]] w λe w'=>e=ϱ .nilIface/\w'.heap[b]?=some (DD (some (ϰ E.V 0)) t.h)/\w'.heap[t.St]?=some (η 0 s)/\E.Dev w'/\Kp [t.St,b] w w':=by
 have a:=g.live;refine(Hh none dC x t.St 177 t s s #[] _ call [b] (λW d=>E.Dev d/\Ϙ d t.St (η 1 s)/\Ϙ d b (DD (some (ϰ E.V 0)) t.h)) w a.hx a.over rfl a.hSt a.po a.xS (SQ _) (λi hi=>by rw[mS hi];exact U j) ?_).mono ?_
 .intro W hK p;have m:∀{k:Nat} {c:Array Value} {u:TypeId} {fr:Nat×Nat},Ϙ w k (ϲ c u fr)->u≠169->k∉[t.St]:=λhk hu hm=>υ hk a.hSt hu (mS hm);have l:=hK.heap j (m j dC);refine mR (Rm B b x t W (hK.heap g.hB (m g.hB dC)) l (hK.heap a.hx (m a.hx dC))) ?_;rintro d ⟨o,h⟩;have f:=h.heap p (by simp;exact υ p l dC);rw[a.on]at o;exact⟨rfl,⟨E.qN1 W d _ (a.qU7 hK) h (OffD.one l dC),f,o⟩,h.mono sC,f⟩
 .rintro e C ⟨v,rfl,hv,hSt2,hK2,W,d,Bb,⟨hd1,f,hP1⟩,hKW,hb1,hb2,hb3,hKB⟩;have z:v=.nilIface:=hv;subst z;refine⟨rfl,hKB.heap hP1 ?_,hSt2,E.qN1 d C _ hd1 hKB (Cs f hb3),hK2⟩;simp only[mC,lN,or_false,not_or];exact⟨υ hP1 f dC,υ hP1 hb3 dC⟩
structure AllSt(E:SEnv)(x A n:Nat)(t:Tx)(s:Sto)(r:Root)(B Lc Hc:Nat)(lo hi:Ϧ)(Sx Nx:Nat)(Jj:Nat->List KV->ϯ)(j:Nat)(w:Ϣ):Prop where
 inn:AllIn E x A n t s r B Lc Hc lo hi w
 le:j<=(AT r.cont lo).length
 ahead:∀q∈(AT r.cont lo).take j,kl q.k hi=true
 hS:w.heap[Sx]?=some (DD (some (ϰ E.V 0)) t.h)
 hN:(j=0/\w.heap[Nx]?=some (ϲ #[.func (.func 178) #[] #[ϖ Lc]] 92))\/∃p Px,1<=j/\(AT r.cont lo)[j-1]?=some p/\w.heap[Nx]?=some (ϲ #[.func (.func 180) #[] #[ϖ Px]] 92)/\w.heap[Px]?=some (ϲ #[ϕ p.k,ϕ p.v] 42)
 jj:Jj w.heap.size ((AT r.cont lo).take j) w
def AllSt.asks{E}{x A n:Nat}{t}{s}{r}{B d o:Nat}{lo hi}{y i:Nat}{Jj:Nat->List KV->ϯ}{j:Nat}{w}(h:AllSt E x A n t s r B d o lo hi y i Jj j w)(F:Sorted r.cont):
  ∃g cap f,w.heap[i]?=some (ϲ #[.func (.func g) #[] cap] 92)/\Up f/\(ϴ g)/\(r.cont.find? λq=>f q.k)=(AT r.cont lo)[j]?/\
   ∀W,Kp (t.St::E.S) w W->∀k,Calls prog g (#[ϕ k]++cap) W λe W'=>e=ϱ (ϐ (f k))/\Kp [] W W':=by
 have m:∀{k:Nat} {c:Array Value} {u:TypeId} {fr:Nat×Nat},Ϙ w k (ϲ c u fr)->u≠169->u∉Cn->k∉t.St::E.S:=λhk hu hd hm=>by
  rcases List.mem_cons.1 hm with a|a
  .exact υ hk h.inn.live.hSt hu a
  .exact E.nin h.inn.live.dev hk hd a
 rcases h.hN with⟨rfl,b⟩|⟨p,v,G,C,b,l⟩
 .exact⟨_,_,_,b,Qp lo,SR,Wh _ _,λW hK k=>Rn d lo k W (hK.heap h.inn.hL (m h.inn.hL dC dC))⟩
 .let⟨z,D⟩:=gS C;refine⟨_,_,_,b,Qq p.k,SU,?_,λW hK k=>Rp v p.k k p.v W (hK.heap l (m l dC dC))⟩;have e:=Wi F lo z;rw[D]at e;rw[e,show j-1+1=j by omega]
structure AllOv(x:Nat)(t:Tx)(s:Sto)(w:Ϣ):Prop where
 hx:w.heap[x]?=some (Ac t)
 ov:s.po=true\/t.over=true
 hSt:w.heap[t.St]?=some (η 0 s)
 xS:x≠t.St
def AllOv.more{x:Nat}{t}{s}{w w'}(h:AllOv x t s w)(hK:Kp [] w w'):AllOv x t s w':={ h with hx:=hK.hp h.hx,hSt:=hK.hp h.hSt }
def AllBad(E:SEnv)(t:Tx)(s:Sto)(Jj:Nat->List KV->ϯ)(w:Ϣ)(v:Value)(k:ϩ)(a:Ϣ):Prop:=
 ErrV a v k/\((ioK k=true/\∃N b W L,Jj N b W/\E.qP9 a/\a.heap[t.St]?=some (η 0 { s with po:=true })/\Kp L W a/\∀i∈L,i=t.St\/i∈E.S\/(w.heap.size<=i/\∃c fr,W.heap[i]?=some (ϲ c 92 fr)))\/
  (k=some (goK s)/\(s.po=true\/t.over=true)/\a.heap[t.St]?=some (η 0 s)/\Kp [t.St] w a))
def AllBad.val{E}{t}{s}{Jj:Nat->List KV->ϯ}{w}{v}{k:ϩ}{W'}(h:AllBad E t s Jj w v k W'):∃F,v=.iface 243 (ϖ F):=by
 let⟨a,b⟩:=h
 cases k with
 | none=>rcases b with⟨h,_⟩ | ⟨h,_⟩<;>cases h
 | some k=>obtain⟨F,_,rfl,_⟩:=a;exact⟨F,rfl⟩
def Rq(E)(x A n:Nat)(t)(s)(r)(B K Q l m:Nat)(lo a)(Jj:Nat->List KV->ϯ)(Jx:List KV->ϯ)(Jg:ϯ)(w)
  (hJ:∀N H W L S,Jj N H W->Kp S W L->(∀k∈S,k=t.St\/k∈E.S\/(w.heap.size<=k/\∃c R,W.heap[k]?=some (ϲ c 92 R)))->L.heap[t.St]?=some (η 0 s)->E.Dev L->Jj N H L)
  (cg:∀N N' H W,Jj N H W->N<=N'->Jj N' H W)
  (hY:∀N H p X,Jj N H X->N<=X.heap.size->H++[p] <+: r.cont.filter (inR lo a)->AllIn E x A n t s r B K Q lo a X->YieldAt Fence.wide (m-1) prog l #[.agg #[ϕ p.k,ϕ p.v],.nilIface] X λe L=>∃SY,YS X N SY/\Kp SY X L/\((e=ϱ (ϐ true)/\Jj L.heap.size (H++[p]) L)\/(e=ϱ (ϐ false)/\Jx (H++[p]) L)))
  (hE:∀v k X,AllBad E t s Jj w v k X->YieldAt Fence.wide (m-1) prog l #[.agg #[ϕ ⟨#[]⟩,ϕ ⟨#[]⟩],v] X λe L=>e=ϱ (ϐ false)/\Jg L)
  (hI:(AllIn E x A n t s r B K Q lo a w/\Jj w.heap.size [] w)\/(AllOv x t s w/\w.heap[B]?=some (ϲ #[ϖ x] 32))):
  CallsIn Fence.wide m prog 176 #[.func (.yield l) #[] #[],ϖ B,ϖ K,ϖ Q] w λe w'=>(∃v,e=ϱ v)/\((∃N,Jj N (r.cont.filter (inR lo a)) w')\/(∃H,H <+: r.cont.filter (inR lo a)/\Jx H w')\/Jg w'):=by
 have Sz:Hid (∀{p:Prop},(_h:p:=by
  refine⟨λ_ h=>(by cases h),?_⟩
  gi_wp2
  refine bodyPost_ret (results_none results176 _ _ _) rfl ?_;exact⟨⟨_,rfl⟩,.inl ⟨wr.heap.size,by rw[bd.out];exact be⟩⟩)->p):=λh=>h
 have cq:=zM;have HI:=hid hI;have HJ:=hid hJ;have bf:=hid cg;have HY:=hid hY;have HE:=hid hE;have ak:Hid (AllIn E x A n t s r B K Q lo a w->Sorted r.cont):=λhI=>(Gp hI.live.qM7).1;have hB:=hI.elim (λh=>h.1.hB) λh=>h.2;have cb:=ν (ϲ ϛ 89) hB;have b0:=Y cb 0;simp only[zG,zH]at b0;have bl:=U hB;have ci:=hI.elim (λh=>U h.1.live.hSt) λh=>U h.1.hSt;refine callsIn_of_wp func176 rfl trivial ?_ rfl;simp only[ntmps176,List.size_toArray,List.length_cons,List.length_nil,Nat.reduceAdd,Nat.reduceSub,Array.replicate_succ,Array.replicate_zero,List.push_toArray,List.append_toArray,List.nil_append,List.cons_append]
 gi_wp2_with fail
 refine⟨trivial,λh=>(by cases h),?_⟩;obtain⟨w0,b3,a0,af⟩:∃w0,w0=w.alloc (ϲ ϛ 89)/\w0.heap[w.heap.size]?=some (DD none ⟨⟨#[]⟩,0,0,none⟩)/\Kp [] w w0:=⟨_,rfl,μ _ _,(Kp.refl _ _).alloc _⟩;rw[<-b3];clear b3 b0;have HC:Hid (∀ae,Ω 45 #[ϖ x,.string ae,.func (.func 177) #[] #[ϖ B,ϖ w.heap.size]] w0 λe O=>∃v,e=ϱ v/\w.heap.size<=O.heap.size/\((v=.nilIface/\O.heap[w.heap.size]?=some (DD (some (ϰ E.V 0)) t.h)/\AllIn E x A n t s r B K Q lo a O/\Jj w.heap.size [] O)\/AllBad E t s Jj w v (some (goK s)) O)):=λae=>by
  rcases HI with⟨hI,ce⟩|⟨hO,hB⟩
  .have bm:=hI.more af;refine(Rr E x A n t s r B K Q lo a ae w.heap.size w0 bm a0).mono ?_;rintro e O ⟨rfl,a1,ao,bw,ai⟩;refine⟨_,rfl,Nat.le_trans af.size ai.size,.inl ⟨rfl,a1,bm.qO4 ai ao bw (λk d=>?_),HJ _ _ _ _ [t.St] ce ((af.mono (S':=[t.St]) sM).trans ai (by intro i a cj;simp at a |-;omega)) sM ao bw⟩⟩;simp only[List.mem_cons,List.not_mem_nil,or_false]at d;rcases d with h|h
   .exact .inl h
   .rw[h];exact .inr (.inr ⟨_,_,_,a0,dC⟩)
  .have br:=hO.more af;refine(Eu x t.St 177 t s #[] _ ae w0 br.hx hO.ov rfl br.hSt hO.xS).mono ?_;rintro e O ⟨v,rfl,hv,ao,ai⟩;exact⟨v,rfl,Nat.le_trans af.size ai.size,.inr ⟨hv,.inr ⟨rfl,hO.ov,ao,(af.mono sM).trans ai (λ_ h _=>h)⟩⟩⟩
 refine callsIn_wide.2 ((HC _).mono ?_);rintro e O ⟨v,rfl,ck,bk⟩;have bc:=hid bk;clear a0 af bk HC
 gi_wp2_with fail
 let⟨w2,cm,bp,ac⟩:=alA O (ϲ #[.func (.func 178) #[] #[ϖ K]] 92);rw[<-cm];have ba:Hid ((v=.nilIface/\AllSt E x A n t s r B K Q lo a w.heap.size O.heap.size Jj 0 w2)\/∃k,AllBad E t s Jj w v k w2):=by
  rcases bc with⟨h,a1,cd,cf⟩|⟨hv,h⟩
  .have ax:=cd.more ac;exact .inl ⟨h,ax,Nat.zero_le _,sM,ac.hp a1,.inl ⟨rfl,bp⟩,bf _ _ _ _ (HJ _ _ _ _ [] cf ac sM ax.live.hSt ax.live.dev) (by have:=ac.size;omega)⟩
  .refine .inr ⟨_,hv.qM3 ac sM,?_⟩;rcases h with⟨h,_⟩|⟨y,h2,h3,h4⟩
   .exfalso;revert h;rw[goK];split<;>decide
   .exact .inr ⟨y,h2,ac.hp h3,h4.tr ac⟩
 clear bp ac bc;let⟨Sx,a4⟩:=eX w.heap.size;let⟨z,ay⟩:=eX O.heap.size;have ch:w.heap.size<=z:=oM
 rw[<-a4,<-ay]at ba;rw[<-a4,<-ay];clear a4 ay ck bl ci;have bg:=hid ch
 gi_loopg [6] ((AT r.cont lo).length+1) (λk bj wr=>(∃j,k+j=(AT r.cont lo).length+1/\bj=.nilIface/\Hid (AllSt E x A n t s r B K Q lo a Sx z Jj j wr))\/∃k,Hid (AllBad E t s Jj w bj k wr))
 case atStart=>
  rcases ba with⟨y,h2⟩|⟨k,h⟩
  .exact .inl ⟨0,rfl,y,h2⟩
  .exact .inr ⟨k,h⟩
 case round=>
  rcases hrel with⟨j,cp,rfl,o⟩|⟨k,hb⟩
  rotate_left
  .obtain⟨F,rfl⟩:=hb.out.val;have:∀W:World,Sem.run prog (binOp .eql 38 (.iface 243 (ϖ F)) .nilIface) W=.ok (.bool false) W:=λW=>by kernel_rfl
   let⟨fn,cn,b9,ca,hy,hR⟩:=HE.out _ _ wr hb.out
   gi_wp2
   refine⟨λh=>(by cases h),hR.mono ?_⟩;rintro e w3 ⟨rfl,hJ⟩;have b6:=hid hJ;clear hJ hy hR
   gi_wp2
   go_end0
   exact⟨⟨_,rfl⟩,.inr (.inr b6)⟩
  have ak:=zh ((Gp o.out.inn.live.qM7).1);let⟨g,cap,f,hN,b2,bv,bx,bt⟩:=o.out.asks ak.out;have aw:=o.out.inn.hB;have bu:=ν (ϲ #[.bool false] 4) (ν (ϲ ϝ 42) aw);have bl:=U aw;have b0:=ϻ bu 0;have I:=zh (n5 hN b2 bv bx bt)
  clear hN b2 bv bx bt aw bu
  gi_wp2_with fail
  refine⟨trivial,λh=>(by cases h),?_⟩;let⟨w3,b4,ag,ah,Z,cr⟩:=alC wr (ϲ ϝ 42) (ϲ #[.bool false] 4)
  rw[<-b4];clear b4 b0;have T:=o.out.inn.more Z;have an:=Z.hp o.out.hS;have am:=Z.hp I.1;refine callsIn_wide.2 ((Rt E x A n t s r B K Q lo a _ Sx z g cap f w3 T an am wr.heap.size (wr.heap.size+1) ag ah I.2.1 (λW hK k=>I.2.2.2.2 W ((Z.mono sM).trans hK (λ_ h _=>h)) k) I.2.2.1).mono ?_);rintro e w4 ⟨v,k,rfl,hv,⟨hio,hsi⟩|⟨rfl,V,G,hSt4,hd4,ad⟩⟩
  .have ad:=(Z.mono sM).trans hsi.kp (λ_ h _=>h);have hn:z∉t.St::E.S:=λD=>by
    rcases List.mem_cons.1 D with y|y
    .exact υ I.1 o.out.inn.live.hSt dC y
    .exact E.nin o.out.inn.live.dev I.1 dC y
   have aq:∀{k:Nat} {c:Array Value} {u:TypeId} {R:Nat×Nat},w3.heap[k]?=some (ϲ c u R)->u≠169->u∉Cn->k∉t.St::E.S:=λd hu hdv D=>by
    rcases List.mem_cons.1 D with y|y
    .exact υ d T.live.hSt hu y
    .exact E.nin T.live.dev d hdv y
   have V:=hsi.kp.heap ag (aq ag dC dC);have G:=hsi.kp.heap ah (aq ah dC dC);have ab:=hsi.kp.heap T.hH (aq T.hH dC dC);have:=U V;have:=U G;have cc:=U ab;have p0:=Y V;have:=ϻ G 0;have:=ϻ ab 0;have M:=ad.heap I.1 hn;have:=U M;obtain⟨F,ae,rfl,hF⟩:∃F ae,v=.iface 243 (ϖ F)/\w4.heap[F]?=some (ϲ #[.string ae,.iface (thT (k.getD 0)) (thv (k.getD 0))] 246):=by
    cases k with
    | none=>cases hio
    | some k=>exact hv
   have hq:∀W:World,Sem.run prog (binOp .eql 38 (.iface 243 (ϖ F)) .nilIface) W=.ok (.bool false) W:=λW=>by kernel_rfl
   obtain⟨P,a9,C⟩:∃P,P=w4.setCell (ϰ z 0) (.func (.func 180) #[] #[ϖ wr.heap.size])/\Kp [z] w4 P:=⟨_,rfl,(Kp.refl _ _).sc _⟩;have HB:Hid (AllBad E t s Jj w (.iface 243 (ϖ F)) k P):=by
    refine⟨hv.qM3 C (λi a c R e=>by rw[List.mem_singleton.1 a,M]at e;cases e),.inl ⟨hio,wr.heap.size,_,wr,z::t.St::E.S,o.out.jj,E.qP6 _ _ _ hsi.fail C (OffD.one M dC),C.heap hsi.hSt (by simp;exact υ hsi.hSt M dC),(ad.mono (by simp +contextual)).trans C (by simp +contextual),λi a=>?_⟩⟩;rcases List.mem_cons.1 a with h|h
    .rw[h];exact .inr (.inr ⟨bg,_,_,I.1⟩)
    .rcases List.mem_cons.1 h with h|h
     .exact .inl h
     .exact .inr (.inl h)
   have n0:=ϻ M 0;have:=ρ M 0;have HG:Hid (1<=gk):=by show 1<=gk;have:=o.out.le;omega
   clear T an am ag ah Z ad hn M hF C hv hio hsi aq G ab;have hu:∀b:Bool,some undef=some (.bool b)->False:=λb h=>by cases h
   gi_wp2
   all_goals first | exact(hu _ (by assumption)).elim | skip
   refine⟨λ_ h=>(by cases h),?_⟩;clear hu
   gi_wp2
   rw[<-a9]
   gi_roundg (gk-1)
   .exact .inr ⟨k,HB⟩
   .have:=HG.out;omega
  have cl:v=.nilIface:=hv;subst cl;rw[I.out.2.2.2.1]at V G;have bs:=T.live.hSt;have aj:=(Z.mono (S':=t.St::E.S) sM).trans ad (by
   intro i a cj;simp only[List.mem_cons]at a |-;rcases a with h|h|h|h
   .exact .inl h
   .omega
   .omega
   .exact .inr h)
  have a8:∀k∈t.St::wr.heap.size::(wr.heap.size+1)::E.S,k=t.St\/k∈E.S\/∃c u R,w3.heap[k]?=some (ϲ c u R)/\u∉[99,32,9,263,213,185,87]:=λk d=>by
   simp only[List.mem_cons]at d;rcases d with h|h|h|h
   .exact .inl h
   .rw[h];exact .inr (.inr ⟨_,_,_,ag,dC⟩)
   .rw[h];exact .inr (.inr ⟨_,_,_,ah,dC⟩)
   .exact .inr (.inl h)
  have av:=zh (T.qO4 ad hSt4 hd4 a8);have be:=zh (HJ _ _ _ _ (t.St::E.S) o.out.jj aj (λk d=>by
   rcases List.mem_cons.1 d with h|h
   .exact .inl h
   .exact .inr (.inl h)) hSt4 hd4)
  have ap:∀{k:Nat} {c:Array Value} {u:TypeId} {R:Nat×Nat},wr.heap[k]?=some (ϲ c u R)->u≠169->u∉Cn->k∉t.St::E.S:=λd hu hdv D=>by
   rcases List.mem_cons.1 D with y|y
   .exact υ d o.out.inn.live.hSt hu y
   .exact E.nin o.out.inn.live.dev d hdv y
  have b8:=zh (aj.heap o.out.hS (ap o.out.hS dC dC));have M:=aj.heap I.1 (ap I.1 dC dC);have co:=zh V;have b7:=zh M;have:=U V;have:=U G;have ab:=av.out.hH;have cc:=U ab;have bz:=o.out.le;have au:=zh o.out.ahead;have:=ϻ ab 0
  cases hq:(AT r.cont lo)[j]? with
  | none=>
   rw[hq]at G;have:=ϻ G 0;have bd:=zh (Nu ak lo a bz au (λq h=>by rw[hq]at h;cases h));clear hq G ad aj a8 ap T an am ag ah Z M hSt4 hd4 bs ab
   gi_wp2
   exact Sz.out
  | some q=>
   rw[hq]at G V;simp only[pkv,Option.isSome_some]at G V;have:=ϻ G 0;have p0:=Y V;let⟨a6,b1⟩:=List.getElem?_eq_some_iff.1 hq;have HQ:=zh hq
   cases hh:kl q.k a with
   | false=>
    have:Op.bytesLess q.k.toList a.toList=false:=hh;have bd:=zh (Nu ak lo a bz au (λq' h=>by rw[hq]at h;cases h;exact hh));clear hq G ad aj a8 ap T an am ag ah Z M hSt4 hd4 bs ab hh a6 b1
    gi_wp2
    exact Sz.out
   | true=>
    have:Op.bytesLess q.k.toList a.toList=true:=hh;have a7:(AT r.cont lo).take (j+1)=(AT r.cont lo).take j++[q]:=by rw[List.take_succ_eq_append_getElem a6,b1]
    have bb:Hid (∀q'∈(AT r.cont lo).take (j+1),kl q'.k a=true):=λq' D=>by
     rw[a7]at D;rcases List.mem_append.1 D with D|D
     .exact au q' D
     .rw[List.mem_singleton.1 D];exact hh
    have bh:Hid ((AT r.cont lo).take j++[q] <+: r.cont.filter (inR lo a)):=by
     show _ <+: _;rw[<-a7];exact Wj ak lo a oM bb
    let⟨fn,cn,b9,ca,hy,hR⟩:=HY.out wr.heap.size ((AT r.cont lo).take j) q w4 be (by have:=aj.size;omega) bh av.out;have bi:=zh (n2 a7 a6)
    gi_wp2
    refine⟨λh=>(by cases h),hR.mono ?_⟩;clear hR hy;rintro e w5 ⟨SY,hYS,hKY,⟨rfl,hJ5⟩|⟨rfl,hJx⟩⟩
    .have al:=av.out.round hYS hKY;have a2:=hYS.qM3 hKY b8 ⟨dC,.inl dC⟩;have aa:=hYS.qM3 hKY b7 ⟨dC,.inl dC⟩;have az:=hYS.qM3 hKY V ⟨dC,.inr (Nat.le_refl _)⟩;have:=U aa;obtain⟨P,a9,bq,C⟩:∃P,P=w5.setCell (ϰ z 0) (.func (.func 180) #[] #[ϖ wr.heap.size])/\P.heap[z]?=some (ϲ #[.func (.func 180) #[] #[ϖ wr.heap.size]] 92)/\Kp [z] w5 P:=⟨_,rfl,ξ aa 0 _,(Kp.refl _ _).sc _⟩;have ar:∀{k:Nat} {c:Array Value} {u:TypeId} {R:Nat×Nat},w5.heap[k]?=some (ϲ c u R)->u≠92->k∉[z]:=λd hu D=>υ d aa hu (List.mem_singleton.1 D);have a3:=C.heap al.live.hSt (ar al.live.hSt dC);have a5:=E.qN1 w5 P [z] al.live.dev C (OffD.one aa dC);have bn:=al.qO4 C a3 a5 (λk d=>by rw[List.mem_singleton.1 d];exact .inr (.inr ⟨_,_,_,aa,dC⟩));have bo:=HJ.out _ _ _ _ [z] hJ5 C (λk d=>by rw[List.mem_singleton.1 d];exact .inr (.inr ⟨bg,_,_,aa⟩)) a3 a5;have b5:Hid (AllSt E x A n t s r B K Q lo a Sx z Jj (j+1) P):=
      ⟨bn,bi.2,bb,C.heap a2 (ar a2 dC),.inr ⟨q,wr.heap.size,oM,HQ,bq,C.heap az (ar az dC)⟩,by
       rw[bi.out.1];exact bf _ _ _ _ bo C.size⟩
     have n0:=ϻ aa 0;have:=ρ aa 0;clear al a2 az bq C ar a3 a5 bn bo hJ5 hYS hKY aa
     gi_wp2
     rw[<-a9]
     gi_roundg (gk-1)
     .exact .inl ⟨j+1,oM,rfl,b5⟩
     .omega
    .have HX:=zh hJx
     gi_wp2
     refine bodyPost_ret (results_none results176 _ _ _) rfl ?_;exact⟨⟨_,rfl⟩,.inr (.inl ⟨_,bh,HX⟩)⟩
end
section
attribute [local go_sem] Oper.semAt_some
structure ScI(E:SEnv)(t:Tx)(s:Sto)(Ob M:Nat)(rec:LoopState->Option Code->Loop)(w:Ϣ)(N:Nat)(pre:List KV)(W:Ϣ):Prop where
 lv:s.po=false/\t.over=false
 kp:Kp (t.St::Ob::E.S) w W
 hSt:W.heap[t.St]?=some (η 0 s)
 dev:E.Dev W
 out:∃v,W.heap[Ob]?=some (ϲ #[v] 29)/\OPA W w.heap.size v pre/\∀k,v.ownBlock=some k->k<N
 le:pre.length<=M
 lt:w.heap.size+1<N
 dfr:W.heap[w.heap.size]?=some (.deferred (some []))
 loop:W.heap[w.heap.size+1]?=some (.loop (rec .ready none))
def ScX(E:SEnv)(t:Tx)(s:Sto)(a M id:Nat)(c:LoopState->Option Code->Loop)(w:Ϣ)(b:List KV)(W:Ϣ):Prop:=
 (s.po=false/\t.over=false)/\∃q p v,b=q++[p]/\q.length=M/\Kp (t.St::a::E.S) w W/\W.heap[t.St]?=some (η 0 s)/\E.Dev W/\W.heap[a]?=some (ϲ #[v] 29)/\OPA W w.heap.size v q/\W.heap[w.heap.size]?=some (.deferred (some []))/\W.heap[w.heap.size+1]?=some (.loop (c .done (some (.exit id))))
def ScB(E:SEnv)(t:Tx)(s:Sto)(Z:Ϥ)(w:Ϣ)(k:ϩ)(W:Ϣ):Prop:=
 (ioK k=true/\(s.po=false/\t.over=false)/\E.qP9 W/\W.heap[t.St]?=some (η 0 { s with po:=true })/\Kp (t.St::(Z++E.S)) w W)\/(k=some (goK s)/\(s.po=true\/t.over=true)/\W.heap[t.St]?=some (η 0 s)/\Kp (t.St::Z) w W)
def ScB.old{E}{t}{s}{Z}{w W}{k:ϩ}{i:Nat}{o}(h:ScB E t s Z w k W)(d:w.heap[i]?=some o)(a:i∉t.St::Z)(f:s.po=false/\t.over=false->i∉E.S):W.heap[i]?=some o:=by
 rcases h with⟨_,e,_,_,b⟩|⟨_,_,_,b⟩
 .refine b.heap d λc=>?_;simp only[mC,List.mem_append]at c a;rcases c with h|h|h
  .exact a (.inl h)
  .exact a (.inr h)
  .exact f e h
 .exact b.heap d a
def ScB.on{E}{t}{s}{Z Z' L}{w W W'}{k:ϩ}(h:ScB E t s Z w k W)(hK:Kp L W W')(f:∀i∈L,i∈Z'\/w.heap.size<=i)(g:∀i∈Z,i∈Z')(m:OffD W L)(j:t.St∉L):ScB E t s Z' w k W':=by
 rcases h with⟨b,c,l,d,e⟩|⟨b,c,d,e⟩
 .refine .inl ⟨b,c,E.qP6 _ _ _ l hK m,hK.heap d j,(e.mono λi a _=>?_).trans hK λi a hlt=>?_⟩
  .simp[mC,List.mem_append]at a |-;exact a.imp id (Or.imp (g i) id)
  .simp[(f i a).resolve_right oM]
 .refine .inr ⟨b,c,hK.heap d j,(e.mono λi a _=>?_).trans hK λi a hlt=>?_⟩
  .simp[mC]at a |-;exact a.imp id (g i)
  .simp[(f i a).resolve_right oM]
def ScB.low{E}{t}{s}{Z}{w0 w W}{k:ϩ}(h:ScB E t s Z w k W)(hK:Kp [] w0 w)(f:∀i∈Z,w0.heap.size<=i):ScB E t s [] w0 k W:=by
 rcases h with⟨b,c,g,d,e⟩|⟨b,c,d,e⟩
 .refine .inl ⟨b,c,g,d,(hK.mono sM).trans e λi a j=>?_⟩;simp only[mC,List.mem_append,nA]at a |-;rcases a with h|h|h
  .exact .inl h
  .have:=f i h;omega
  .exact .inr h
 .refine .inr ⟨b,c,d,(hK.mono sM).trans e λi a j=>?_⟩;simp only[mC]at a |-;rcases a with h|h
  .exact .inl h
  .have:=f i h;omega
def ScB.St{E}{t}{s}{Z}{w W}{k:ϩ}(h:ScB E t s Z w k W):∃a,W.heap[t.St]?=some (η 0 a):=by
 rcases h with⟨_,_,_,h,_⟩|⟨_,_,h,_⟩<;>exact⟨_,h⟩
def Re(a b:Nat)(v:Value)(W d:Ϣ):Prop:=(∃c,W.heap[a]?=some (ϲ c 29))/\(∃c,W.heap[b]?=some (ϲ c 38))/\d.heap[a]?=some (ϲ #[.slice none 0 0] 29)/\d.heap[b]?=some (ϲ #[v] 38)/\Kp [a,b] W d
def OPA.qM3{S}{w w'}{base:Nat}{v}{ps}(h:OPA w base v ps)(hK:Kp S w w')(i:∀k∈S,∀c fr,w.heap[k]?≠some (ϲ c 42 fr)):OPA w' base v ps:=by
 refine⟨h.1,?_⟩;rcases h.2 with b|⟨g,cap,cur,d,e,a,f⟩
 .exact .inl b
 .exact .inr ⟨g,cap,cur,d,e,hK.heap a (λj=>i g j _ _ a),f⟩
def qK5{nn:Nat}{g:Operand}{ps:Array Tmp}{assign body:Code}{Q:Exit->Act->ϯ}{a:Act}{w}(E)(x A n:Nat)(t)(s)(r)(B Lc Hc H M id B1 B2:Nat)(lo m)(j:1<=nn)
  (hg:a.eval g=.func (.func 176) #[] #[ϖ B,ϖ Lc,ϖ Hc]) (be:ps.size=2)
  (hI:AllIn E x A n t s r B Lc Hc lo m w\/(AllOv x t s w/\w.heap[B]?=some (ϲ #[ϖ x] 32))) (hO:w.heap[H]?=some (ϲ #[.slice none 0 0] 29))
  (av:KV->Value->Nat->Act)
  (bb:∀(l:Nat)(p)(v)(W)(K:Act->ϯ),K (av p v W.heap.size) (W.alloc (ϲ #[ϕ p.k,ϕ p.v] 42))->
   assign.wpIn (Fence.wide.inRound l) (nn-1-1) prog (Exit.then K (λ_ _ _=>False)) { tmps:=(ps.zip #[.agg #[ϕ p.k,ϕ p.v],v]).foldl (λt (p,v)=>t.setIfInBounds p v) a.tmps,defers:=[] } W)
  (bm:∀(l:Nat)(X)(p)(W)(v)(Pb:Nat),s.po=false/\t.over=false->W.heap[H]?=some (ϲ #[v] 29)->OPA W w.heap.size v X->W.heap[Pb]?=some (ϲ #[ϕ p.k,ϕ p.v] 42)->w.heap.size<=Pb->v.ownBlock≠some Pb->Kp (t.St::H::E.S) w W->X.length<=M->X.length<=70000->
   body.wpIn (Fence.wide.inRound l) (nn-1-1) prog (λe _ I=>match e with
    | .normal=>X.length<M/\∃v3 S3,Kp S3 W I/\(∀k∈S3,k=H\/v.ownBlock=some k)/\I.heap[H]?=some (ϲ #[v3] 29)/\OPA I w.heap.size v3 (X++[p])/\∀k,v3.ownBlock=some k->k<I.heap.size
    | .exit i=>i=id/\X.length=M/\I=W
    | _=>False) (av p .nilIface Pb) W)
  (bl:∀(l:Nat)(F:Nat)(k:ϩ)(W)(Pb:Nat),ScB E t s [H] w k W->ErrV W (.iface 243 (ϖ F)) k->
   body.wpIn (Fence.wide.inRound l) (nn-1-1) prog (λe _ I=>match e with
    | .ret=>Re B1 B2 (.iface 243 (ϖ F)) W I
    | _=>False) (av ⟨⟨#[]⟩,⟨#[]⟩⟩ (.iface 243 (ϖ F)) Pb) W)
  (bv:∀(W)(v)(k:ϩ),ScB E t s [H,B1,B2] w k W->ErrV W v k->W.heap[B1]?=some (ϲ #[.slice none 0 0] 29)->W.heap[B2]?=some (ϲ #[v] 38)->W.heap[w.heap.size]?=some (.deferred (some []))->w.heap.size<W.heap.size->(Code.ret).wpIn Fence.wide nn prog Q { a with defers:={ target:=.collected w.heap.size,args:=#[] }::a.defers } W)
  (bo:∀(W)(v),s.po=false/\t.over=false->Kp (t.St::H::E.S) w W->W.heap[t.St]?=some (η 0 s)->E.Dev W->W.heap[H]?=some (ϲ #[v] 29)->OPA W w.heap.size v (Bu r.cont lo m M)->W.heap[w.heap.size]?=some (.deferred (some []))->w.heap.size<W.heap.size->Q .normal { a with defers:={ target:=.collected w.heap.size,args:=#[] }::a.defers } W)
  (bx:∀(W)(v),s.po=false/\t.over=false->Kp (t.St::H::E.S) w W->W.heap[t.St]?=some (η 0 s)->E.Dev W->W.heap[H]?=some (ϲ #[v] 29)->OPA W w.heap.size v (Bu r.cont lo m M)->W.heap[w.heap.size]?=some (.deferred (some []))->w.heap.size<W.heap.size->(Code.exit id).wpIn Fence.wide nn prog Q { a with defers:={ target:=.collected w.heap.size,args:=#[] }::a.defers } W):
  (Code.rangeFunc g ps assign body).wpIn Fence.wide nn prog Q a w:=by
 apply wpIn_rangeFunc;intro fn bc;obtain⟨y,G⟩:∃y:LoopState->Option Code->Loop,y=λst pe=>{ state:=st,pending:=pe,fn,tmps:=a.tmps,params:=ps,assign,body,defers:=w.heap.size }:=⟨_,rfl⟩;let⟨W1,an⟩:=eY ((w.alloc (.deferred (some []))).alloc (.loop (y .ready none)));have a8:W1.heap[w.heap.size+1]?=some (.loop (y .ready none)):=by
  rw[<-an];have:=World.alloc_heap_new (w.alloc (.deferred (some []))) (.loop (y .ready none));rwa [World.size_alloc]at this
 have a6:W1.heap[w.heap.size]?=some (.deferred (some [])):=by
  rw[<-an];exact(Below.heap_alloc _ _ _ sM).trans (World.alloc_heap_new w _)
 have aj:Kp [] w W1:=by rw[<-an];exact(kF.alloc _).alloc _
 have b5:W1.heap.size=w.heap.size+2:=by rw[<-an];simp
 have bg:AllIn E x A n t s r B Lc Hc lo m W1\/(AllOv x t s W1/\W1.heap[B]?=some (ϲ #[ϖ x] 32)):=hI.imp (λh=>h.more aj) λh=>⟨h.1.more aj,aj.hp h.2⟩;refine⟨w.heap.size+1,[{ target:=.collected w.heap.size,args:=#[] }],W1,{ target:=.fn (.func 176) #[ϖ B,ϖ Lc,ϖ Hc],args:=#[.func (.yield (w.heap.size+1)) #[] #[]] },W1,176,
  #[.func (.yield (w.heap.size+1)) #[] #[],ϖ B,ϖ Lc,ϖ Hc],W1,?_,?_,?_,?_,λh=>(by cases h),?_⟩
 .rw[<-an,G];exact run_enterLoop_outer _ _ _ _ _
 .simp[resolve,hg];simp[go_sem]
 .intro f' b4;trivial
 .simp[invoke,go_sem,SP]
 .have b2:=U hO;obtain⟨b7,ba⟩:∃o,w.heap[t.St]?=some (η 0 o):=hI.elim (λh=>⟨_,h.live.hSt⟩) λh=>⟨_,h.1.hSt⟩;have b3:=U ba;have b1:=υ hO ba dC;refine(Rq E x A n t s r B Lc Hc (w.heap.size+1) (nn-1) lo m (ScI E t s H M y w) (ScX E t s H M id y w) (λW=>W.heap[w.heap.size+1]?=some (.loop (y .done (some .ret)))/\W.heap[w.heap.size]?=some (.deferred (some []))/\∃v k,ScB E t s [H,B1,B2] w k W/\ErrV W v k/\W.heap[B1]?=some (ϲ #[ϒ none 0 0] 29)/\W.heap[B2]?=some (ϲ #[v] 38)) W1 ?_ ?_ ?_ ?_ (bg.imp (λh=>⟨h,?_⟩) (λh=>h))).mono ?_
  .
   intro N X W W' S h hK hS bj bn;let⟨v,hv1,hv2,ah⟩:=h.out;have ap:∀k∈S,∀c u d,W.heap[k]?=some (ϲ c u d)->u=29\/u=42->False:=λk b c u d e hu=>by
    rcases hS k b with j|j|⟨_,c',aq,j⟩
    .rw[j,h.hSt]at e;cases e;rcases hu with hu | hu<;>revert hu<;>decide
    .exact E.nin h.dev e (by rcases hu with rfl | rfl<;>decide) j
    .rw[e]at j;cases j;rcases hu with hu | hu<;>revert hu<;>decide
   have ao:∀k∈S,∀o,W.heap[k]?=some o->(∀c u d,o≠.cells c u d)->False:=λk b o e ho=>by
    rcases hS k b with j|j|⟨_,c',aq,j⟩
    .rw[j,h.hSt]at e;cases e;exact ho _ _ _ rfl
    .let⟨c',t',aq,h2,h3⟩:=E.qU9 W h.dev k j;rw[e]at h2;cases h2;exact ho _ _ _ rfl
    .rw[e]at j;cases j;exact ho _ _ _ rfl
   refine⟨h.lv,h.kp.trans hK (λi m ae=>?_),bj,bn,⟨v,hK.heap hv1 (λD=>ap _ D _ _ _ hv1 (.inl rfl)),hv2.qM3 hK (λk b c d e=>ap k b _ _ _ e (.inr rfl)),ah⟩,h.le,h.lt,hK.heap h.dfr (λD=>ao _ D _ h.dfr (by intros;simp)),hK.heap h.loop (λD=>ao _ D _ h.loop (by intros;simp))⟩;rcases hS i m with j|j|⟨j,_⟩
   .simp[j]
   .simp[j]
   .omega
  .intro N N' X W h hN;let⟨v,hv1,hv2,ah⟩:=h.out;exact { h with out:=⟨v,hv1,hv2,λk b=>by have:=ah k b;omega⟩,lt:=by have:=h.lt;omega }
  .
   intro N X p W h b0 a0 hA;let⟨v,hv1,hv2,ah⟩:=h.out;have ae:=U h.loop;have hy:=run_yield (P:=prog) (args:=#[.agg #[ϕ p.k,ϕ p.v],.nilIface]) h.loop (by rw[G];simp[be]);rw[G]at hy;refine⟨fn,_,assign,body,hy,roundIn_of_wpIn bc (bb _ p _ W _ ?_)⟩;have al:Kp [] W (W.alloc (ϲ #[ϕ p.k,ϕ p.v] 42)):=kF.alloc _;have aw:=al.hp h.loop;refine⟨_,run_beginRound aw (by rw[G]),?_⟩;obtain⟨C,ay,T,aa,bi,a1⟩:∃C,C=(W.alloc (ϲ #[ϕ p.k,ϕ p.v] 42)).putObj (w.heap.size+1) (.loop { y .ready none with state:=.busy })/\C.heap[w.heap.size+1]?=some (.loop { y .ready none with state:=.busy })/\Kp [w.heap.size+1] W C/\C.heap[W.heap.size]?=some (ϲ #[ϕ p.k,ϕ p.v] 42)/\C.heap.size=W.heap.size+1:=
    ⟨_,rfl,World.putObj_heap_same sO,((al.mono sM).putObj sM _),(World.putObj_heap_other oM).trans (μ _ _),by simp[World.putObj]⟩
   rw[<-ay];have bd:∀{k:Nat} {c:Array Value} {u:TypeId} {d:Nat×Nat},W.heap[k]?=some (ϲ c u d)->k∉[w.heap.size+1]:=λb D=>by
    rw[mS D,h.loop]at b;cases b
   have af:=aa.heap hv1 (bd hv1);have am:=hv2.qM3 aa (λk b c d e=>by rw[mS b,h.loop]at e;cases e);have br:=h.kp.trans aa (by intro i m ae;simp at m;omega);have au:∀k,v.ownBlock=some k->k<N/\∃cur,W.heap[k]?=some (ϲ cur 42):=λk b=>⟨ah k b,by
    rcases hv2.2 with⟨h0,_⟩|⟨gb,cap,cur,e1,Z,e3,_⟩
    .rw[h0]at b;cases b
    .rw[e1]at b;cases b;exact⟨cur,e3⟩⟩
   have bs:X.length<=70000:=by
    have j:=List.IsPrefix.length_le a0;have h2:=List.length_filter_le (inR lo m) r.cont;have h3:=hA.live.sz;simp at j;omega
   refine wpIn_mono (bm _ X p C v W.heap.size h.lv af am bi oM (λe=>by have:=(au _ e).1;omega) br h.le bs) ?_;rintro e a3 I hp
   cases e with
   | normal=>
    let⟨D,v3,S3,ab,ar,a9,bh,bz⟩:=hp;have ac:=ab.heap T (λbt=>by
     rcases ar _ bt with e|e
     .rw[<-e]at hv1;rw[h.loop]at hv1;cases hv1
     .let⟨_,cur,Z⟩:=au _ e;rw[h.loop]at Z;cases Z)
    have R:=run_endRound (P:=prog) none ac;rw[G]at R;have a7:Kp ((w.heap.size+1)::S3) W I:=(aa.mono sC).trans ab sC;have bp:∀k∈S3,k∈[H]\/w.heap.size<=k:=λk b=>by
     rcases ar k b with e|e
     .exact .inl (by simp[e])
     .exact .inr (hv2.low k e)
    have b6:=ab.size;have ag:YS W N ((w.heap.size+1)::S3):=λk b=>by
     rcases List.mem_cons.1 b with e|e
     .rw[e];exact⟨h.lt,.inr ⟨_,h.loop⟩⟩
     .rcases ar k e with Z|Z
      .rw[Z];refine⟨?_,.inl ⟨_,_,_,hv1,.inl rfl⟩⟩;have:=h.lt;omega
      .let⟨e3,cur,e4⟩:=au k Z;exact⟨e3,.inl ⟨_,_,_,e4,.inr rfl⟩⟩
    have f:Kp ((w.heap.size+1)::S3) W (I.putObj (w.heap.size+1) (.loop (y .ready none))):=a7.putObj sM _;have bk:=ag.qM3 f h.hSt ⟨dC,.inl dC⟩;have O:∀{k:Nat} {c:Array Value} {u:TypeId} {d:Nat×Nat},I.heap[k]?=some (ϲ c u d)->k≠w.heap.size+1:=λb e=>by rw[e,ac]at b;cases b
    refine⟨_,_,R,((w.heap.size+1)::S3),ag,?_,.inl ⟨rfl,?_⟩⟩
    .rw[G]at f;exact f
    .have ad:ScI E t s H M y w (I.putObj (w.heap.size+1) (.loop (y .ready none))).heap.size (X++[p]) (I.putObj (w.heap.size+1) (.loop (y .ready none))):=by
      refine⟨h.lv,h.kp.trans f (λi m ae=>?_),bk,E.qN1 _ _ _ h.dev f ag.off,⟨v3,(World.putObj_heap_other (O a9)).trans a9,bh.qM3 ((Kp.refl [w.heap.size+1] I).putObj sM _) (λk b c d e=>by rw[mS b,ac]at e;cases e),λk b=>by have:=bz k b;simp[World.putObj];omega⟩,sO,by simp[World.putObj];omega,?_,World.putObj_heap_same (U ac)⟩
      .rcases List.mem_cons.1 m with e|e
       .omega
       .rcases bp i e with Z|Z
        .simp at Z;simp[Z]
        .omega
      .refine (World.putObj_heap_other oM).trans (a7.heap h.dfr (λD=>?_));rcases List.mem_cons.1 D with e|e
       .omega
       .rcases ar _ e with Z|Z
        .rw[<-Z]at hv1;rw[h.dfr]at hv1;cases hv1
        .let⟨_,cur,e4⟩:=au _ Z;rw[h.dfr]at e4;cases e4
     rw[G]at ad |-;exact ad
   | exit i=>
    obtain⟨rfl,D,rfl⟩:=hp;have R:=run_endRound (P:=prog) (some (.exit i)) T;rw[G]at R;have ag:YS W N [w.heap.size+1]:=λk b=>by rw[mS b];exact⟨h.lt,.inr ⟨_,h.loop⟩⟩
    have f:Kp [w.heap.size+1] W (I.putObj (w.heap.size+1) (.loop (y .done (some (.exit i))))):=aa.putObj sM _;refine⟨_,_,R,[w.heap.size+1],ag,?_,.inr ⟨rfl,?_⟩⟩
    .rw[G]at f;exact f
    .have ad:ScX E t s H M i y w (X++[p]) (I.putObj (w.heap.size+1) (.loop (y .done (some (.exit i))))):=
      ⟨h.lv,X,p,v,rfl,D,h.kp.trans f (by intro i m ae;simp at m;omega),ag.qM3 f h.hSt ⟨dC,.inl dC⟩,E.qN1 _ _ _ h.dev f ag.off,f.heap hv1 (bd hv1),hv2.qM3 f (λk b c d e=>by rw[mS b,h.loop]at e;cases e),f.hp h.dfr,World.putObj_heap_same (U T)⟩
     rw[G]at ad |-;exact ad
   | ret=>exact hp.elim
   | goto l=>exact hp.elim
   | panic ch=>exact hp.elim
   | outgrown=>exact hp.elim
  .
   intro v k W hb;obtain⟨F,rfl⟩:=hb.val;let⟨hv,hb⟩:=hb;obtain⟨hL,hD,a2⟩:W.heap[w.heap.size+1]?=some (.loop (y .ready none))/\W.heap[w.heap.size]?=some (.deferred (some []))/\ScB E t s [H] w k W:=by
    rcases hb with⟨bq,N,X,V,L,h,hf,ax,hK,hS⟩|⟨rfl,ho,ax,hK⟩
    .have ao:∀k∈L,∀o,V.heap[k]?=some o->(∀c u d,o≠.cells c u d)->False:=λk b o e ho=>by
      rcases hS k b with j|j|⟨_,c',aq,j⟩
      .rw[j,h.hSt]at e;cases e;exact ho _ _ _ rfl
      .let⟨c',t',aq,h2,h3⟩:=E.qU9 V h.dev k j;rw[e]at h2;cases h2;exact ho _ _ _ rfl
      .rw[e]at j;cases j;exact ho _ _ _ rfl
     refine⟨hK.heap h.loop (λD=>ao _ D _ h.loop (by intros;simp)),hK.heap h.dfr (λD=>ao _ D _ h.dfr (by intros;simp)),.inl ⟨bq,h.lv,hf,ax,h.kp.trans hK (λi m ae=>?_)⟩⟩;rcases hS i m with j|j|⟨j,_⟩
     .simp[j]
     .simp[j]
     .omega
    .exact⟨hK.ho a8,hK.ho a6,.inr ⟨rfl,ho,ax,(aj.mono sM).trans hK sC⟩⟩
   have ae:=U hL;have hy:=run_yield (P:=prog) (args:=#[.agg #[ϕ ⟨#[]⟩,ϕ ⟨#[]⟩],.iface 243 (ϖ F)]) hL (by rw[G];simp[be]);rw[G]at hy;refine⟨fn,_,assign,body,hy,roundIn_of_wpIn bc (bb _ ⟨⟨#[]⟩,⟨#[]⟩⟩ _ W _ ?_)⟩;have al:Kp [] W (W.alloc (ϲ ϝ 42)):=kF.alloc _;have aw:=al.hp hL;refine⟨_,run_beginRound aw (by rw[G]),?_⟩;obtain⟨C,ay,T,aa⟩:∃C,C=(W.alloc (ϲ ϝ 42)).putObj (w.heap.size+1) (.loop { y .ready none with state:=.busy })/\C.heap[w.heap.size+1]?=some (.loop { y .ready none with state:=.busy })/\Kp [w.heap.size+1] W C:=
    ⟨_,rfl,World.putObj_heap_same sO,((al.mono sM).putObj sM _)⟩
   rw[<-ay];have bu:OffD W [w.heap.size+1]:=λk b c u d e=>by rw[mS b,hL]at e;cases e
   have a4:=a2.on aa (Z':=[H]) sM sM bu sO;have hv2:=hv.qM3 aa (λi m c d e=>by rw[mS m,hL]at e;cases e);have ai:=aa.hp hD;apply wpIn_mono (bl _ F k C W.heap.size a4 hv2);rintro e a3 I hp
   cases e with
   | ret=>
    let⟨⟨c1,az⟩,⟨c2,hc2⟩,hr1,hr2,ab⟩:=hp;have ap:∀k o,C.heap[k]?=some o->(∀c u d,o≠.cells c u d)->k∉[B1,B2]:=λk o ho' hn D=>by
     simp[mC,lN,or_false]at D;rcases D with h|h<;>(subst h;rw[ho']at *;simp_all)
    have ac:=ab.heap T (ap _ _ T (by intros;simp));have R:=run_endRound (P:=prog) (some .ret) ac;rw[G]at R;refine⟨_,_,R,rfl,?_⟩;let⟨s2,a1⟩:=a4.St;have bw:=a4.on ab (Z':=[H,B1,B2]) sC sM ((OffD.one az dC).cons (OffD.one hc2 dC)) (by
     simp[mC,lN,or_false,not_or];exact⟨υ a1 az dC,υ a1 hc2 dC⟩)
    have ah:=hv2.qM3 ab (λi m c d e=>by
     simp[mC,lN,or_false]at m;rcases m with h|h
     .rw[h,az]at e;cases e
     .rw[h,hc2]at e;cases e)
    have bf:=ab.heap ai (ap _ _ ai (by intros;simp));have ak:Kp [w.heap.size+1] I (I.putObj (w.heap.size+1) (.loop (y .done (some .ret)))):=kF.putObj sM _;have O:∀{k:Nat} {c:Array Value} {u:TypeId} {d:Nat×Nat},I.heap[k]?=some (ϲ c u d)->k∉[w.heap.size+1]:=λb D=>by rw[mS D,ac]at b;cases b
    have ad:(λW:World=>W.heap[w.heap.size+1]?=some (.loop (y .done (some .ret)))/\W.heap[w.heap.size]?=some (.deferred (some []))/\∃v k,ScB E t s [H,B1,B2] w k W/\ErrV W v k/\W.heap[B1]?=some (ϲ #[ϒ none 0 0] 29)/\W.heap[B2]?=some (ϲ #[v] 38)) (I.putObj (w.heap.size+1) (.loop (y .done (some .ret)))):=
     ⟨World.putObj_heap_same (U ac),ak.hp bf,_,k,bw.on ak sM sM (λk b c u d e=>(O e b).elim) sO,ah.qM3 ak (λi m c d e=>O e m),ak.heap hr1 (O hr1),ak.heap hr2 (O hr2)⟩
    rw[G]at ad |-;exact ad
   | normal=>exact hp.elim
   | exit i=>exact hp.elim
   | goto l=>exact hp.elim
   | panic ch=>exact hp.elim
   | outgrown=>exact hp.elim
  .exact⟨⟨h.live.po,h.live.over⟩,aj.mono sM,h.live.hSt,h.live.dev,⟨_,aj.hp hO,OPA.nil _ _,λk b=>by cases b⟩,zL _,oM,a6,a8⟩
  .
   rintro e C ⟨⟨v,rfl⟩,⟨N,h⟩|⟨X,a0,hlv,q,p,v2,rfl,hM,hkp,hSt2,hd2,af,am,ai,T⟩|⟨T,ai,v2,k,a2,hv,hr1,hr2⟩⟩
   .let⟨v2,af,am,_⟩:=h.out;have R:=run_endLoop (P:=prog) h.loop (by rw[G];simp);rw[G]at R;have f:Kp [w.heap.size+1] C (C.putObj (w.heap.size+1) (.loop { y .ready none with state:=.exhausted })):=kF.putObj sM _;have a5:Bu r.cont lo m M=r.cont.filter (inR lo m):=by
     rw[Bu];exact tL (by have:=h.le;simp;omega)
    have O:∀{k:Nat} {c:Array Value} {u:TypeId} {d:Nat×Nat},C.heap[k]?=some (ϲ c u d)->k∉[w.heap.size+1]:=λb D=>by rw[mS D,h.loop]at b;cases b
    refine⟨none,_,R,?_⟩;have:=bo (C.putObj (w.heap.size+1) (.loop { y .ready none with state:=.exhausted })) v2 h.lv (h.kp.trans f (by intro i m ae;simp at m;omega)) (f.heap h.hSt (O h.hSt)) (E.qN1 _ _ _ h.dev f (λk b c u d e=>by rw[mS b,h.loop]at e;cases e)) (f.heap af (O af)) (by rw[a5];exact am.qM3 f (λk b c d e=>by rw[mS b,h.loop]at e;cases e)) (f.hp h.dfr) (by have:=U h.loop;simp[World.putObj];omega);rw[G]at this;exact this
   .have R:=run_endLoop (P:=prog) T (by rw[G];simp);rw[G]at R;have f:Kp [w.heap.size+1] C (C.putObj (w.heap.size+1) (.loop { y .done (some (.exit id)) with state:=.exhausted })):=kF.putObj sM _;have a5:Bu r.cont lo m M=q:=by
     rw[Bu];let⟨z,hz⟩:=a0;rw[<-hz,Int.toNat_natCast,aA,<-hM,List.take_left'];rfl
    have O:∀{k:Nat} {c:Array Value} {u:TypeId} {d:Nat×Nat},C.heap[k]?=some (ϲ c u d)->k∉[w.heap.size+1]:=λb D=>by rw[mS D,T]at b;cases b
    refine⟨some (.exit id),_,R,?_⟩;have:=bx (C.putObj (w.heap.size+1) (.loop { y .done (some (.exit id)) with state:=.exhausted })) v2 hlv (hkp.trans f (by intro i m ae;simp at m;omega)) (f.heap hSt2 (O hSt2)) (E.qN1 _ _ _ hd2 f (λk b c u d e=>by rw[mS b,T]at e;cases e)) (f.heap af (O af)) (by rw[a5];exact am.qM3 f (λk b c d e=>by rw[mS b,T]at e;cases e)) (f.hp ai) (by have:=U T;simp[World.putObj];omega);rw[G]at this;exact this
   .have R:=run_endLoop (P:=prog) T (by rw[G];simp);rw[G]at R;have f:Kp [w.heap.size+1] C (C.putObj (w.heap.size+1) (.loop { y .done (some .ret) with state:=.exhausted })):=kF.putObj sM _;have O:∀{k:Nat} {c:Array Value} {u:TypeId} {d:Nat×Nat},C.heap[k]?=some (ϲ c u d)->k∉[w.heap.size+1]:=λb D=>by rw[mS D,T]at b;cases b
    refine⟨some .ret,_,R,?_⟩;have:=bv (C.putObj (w.heap.size+1) (.loop { y .done (some .ret) with state:=.exhausted })) v2 k (a2.on f sM sM (λk b c u d e=>(O e b).elim) sO) (hv.qM3 f (λi m c d e=>O e m)) (f.heap hr1 (O hr1)) (f.heap hr2 (O hr2)) (f.hp ai) (by have:=U T;simp[World.putObj];omega);rw[G]at this;exact this
end
section
attribute [local go_sem] Oper.semAt_some
def qI3(w:Ϣ)(a b:Value)(t:Ϯ):∀j u,[a,b][j]?=some u->(w.alloc (ϲ #[a,b] t)).cell? (((ϰ w.heap.size 0):Addr).add j)=some u:=λj u hj=>by
 rw[Br,Y (μ _ _)];simpa using hj
def Ww{W b:Ϣ}{X:Obj}{a:Option Nat}{k:Nat}{o:Obj}(h:W.heap[k]?=some o)(c:(W.alloc X).grownBy b a)(d:a≠some k):b.heap[k]?=some o:=
 (c.block k (by have:=U h;simp;omega) (λe=>d e.symm)).trans (ν _ h)
def OPA.qZ4{S}{w w'}{base n sz:Nat}{v}{xs:Ϩ}(h:w.ownsRow base 42 sz v n xs)(hK:Kp S w w')(i:∀k∈S,∀c fr,w.heap[k]?≠some (ϲ c 42 fr)):w'.ownsRow base 42 sz v n xs:=by
 refine⟨h.1,?_⟩;rcases h.2 with b|⟨g,cap,cur,d,e,a,f⟩
 .exact .inl b
 .exact .inr ⟨g,cap,cur,d,e,hK.heap a (λj=>i g j _ _ a),f⟩
def KK(E)(x A n:Nat)(t)(s)(r)(lo d)(q:Int)(w)(X:LiveT E w x A n t s r\/AllOv x t s w)(bw:-9223372036854775808<=q)(bx:q<=9223372036854775807):
  Ω 71 #[ϖ x,ϕ lo,ϕ d,ϊ q] w λe w'=>∃l v k,e=ϱ (.tuple #[l,v])/\ErrV w' v k/\((k=none/\OPA w' w.heap.size l (Bu r.cont lo d q)/\BadT E w w' t s)\/(l=.slice none 0 0/\ScB E t s [] w k w')):=by
 have HL:=hid X;have aa:Hid (s.po=false/\t.over=false->LiveT E w x A n t s r):=λh=>X.resolve_right λg=>by
  rcases g.ov with e|e
  .rw[h.1]at e;cases e
  .rw[h.2]at e;cases e
 have:=X.elim (λh=>U h.hx) λh=>U h.hx;have:=X.elim (λh=>U h.hSt) λh=>U h.hSt;clear X;obtain⟨M,hM⟩:∃M:Nat,M=q.toNat:=⟨_,rfl⟩;have a5:Hid (Bu r.cont lo d q=Bu r.cont lo d M):=by show _=_;rw[Bu,Bu,hM,Int.toNat_natCast]
 let⟨i0,bk,bq,br,bs⟩:=info_parts JH;refine(callsIn_wide (n:=9)).1 ?_;refine callsIn_of_wp_marks func71 rfl trivial ?_ rfl;simp only[ntmps71,List.size_toArray,List.length_cons,List.length_nil,Nat.reduceAdd,Nat.reduceSub,Array.replicate_succ,Array.replicate_zero,List.push_toArray,List.append_toArray,List.nil_append,List.cons_append];let⟨j,a2,be,bg,a7,bf,aj,a1⟩:=alG w (ϲ #[ϊ (M:Int)] 3) (ϲ #[.slice none 0 0] 29) (ϲ #[.nilIface] 38) (ϲ #[.slice none 0 0] 29)
 have ax:=zh a2;have aw:=zh a1;clear a2 a1;by_cases hb:q<1
 focus
  let⟨bb,a0⟩:=eX true;have C:(0:Int)=(M:Int):=oM
  have ai:=zh C;clear C hM
  gi_wp2_with fail
  refine⟨trivial,?_⟩;rw[ai.out,<-ax.out]
 rotate_left
 focus
  let⟨bb,a0⟩:=eX false;have C:q=(M:Int):=oM
  have ai:=zh C;clear C hM
  gi_wp2_with fail
  refine⟨trivial,?_⟩;have B:(((w.alloc (ϲ #[ϊ q] 3)).alloc (ϲ #[.slice none 0 0] 29)).alloc (ϲ #[.nilIface] 38)).alloc (ϲ #[.slice none 0 0] 29)=j:=by rw[ax.out,<-ai.out]
  rw[B];clear B
 all_goals
  refine callsIn_wide.2 ((Rs x lo d j).mono ?_);rintro e y ⟨rfl,ay,bd,ba,N⟩;have ac:AllIn E x A n t s r j.heap.size (j.heap.size+1) (j.heap.size+2) lo d y\/(AllOv x t s y/\y.heap[j.heap.size]?=some (ϲ #[ϖ x] 32)):=HL.out.imp (λh=>⟨(h.more aj).more N,ay,bd,ba⟩) λh=>⟨(h.more aj).more N,ay⟩;have C:=N.hp be;have Z:=N.hp bg;have V:=N.hp a7;have ad:=N.hp bf;have au:=zh (aj.tr N);have:=N.size
  gi_wp2_with fail
  have:t.St≠w.heap.size+1+1+1:=oM
  refine qK5 E x A n t s r j.heap.size (j.heap.size+1) (j.heap.size+2) (w.heap.size+1+1+1) M 0 (w.heap.size+1) (w.heap.size+1+1) lo d dC rfl rfl ac ad (λp v Pb=>{ tmps:=#[ϖ x,.string lo,.string d,ϊ q,undef,undef,undef,ϖ w.heap.size,ϖ (w.heap.size+1),ϖ (w.heap.size+1+1),ϖ (w.heap.size+1+1+1),ϖ Pb,v,ϊ q,.bool bb,ϖ x,.string lo,.string d,.func (.func 176) #[] #[ϖ j.heap.size,ϖ (j.heap.size+1),ϖ (j.heap.size+2)],.agg #[.string p.k,.string p.v],v,undef,undef,undef,undef,undef,undef,undef,undef,undef,undef,undef,undef],defers:=[] }) ?_ ?_ ?_ ?_ ?_ ?_
  .intro l p v W K hK
   gi_wp2
   subst a0;exact hK
  .intro l L p W v Pb ag D O hP bt bz o bu bv;have ak:=o.heap C (by
    simp only[List.mem_cons,not_or];exact⟨oM,oM,λh=>by have:=E.low w (aa ag).dev _ h;omega⟩)
   have:=U D;have:=U hP;have:=U ak;have:=ϻ D 0;have:=ρ D 0;have:=Y hP;have:=ϻ ak 0;obtain⟨G,H,rfl⟩:=O.form;by_cases hq:L.length=M
   .have:(L.length:Int)=(M:Int):=oM
    gi_wp2
    all_goals exact⟨rfl,hq,rfl⟩
   .have:¬(L.length:Int)=(M:Int):=oM
    have av:=zh (n3 D O o);have:=o.size;have a3:Hid ((Value.slice G L.length H).ownBlock≠some (w.heap.size+1+1+1)):=λe=>by
     rcases O.2 with⟨h0,_⟩|⟨gb,cap,cur,e1,e2,e3,_⟩
     .rw[h0]at e;cases e
     .rw[e1]at e;cases e;rw[D]at e3;cases e3
    clear C Z V ad ac D hP ak O o
    gi_wp2_with (gi_at_builtin;refine wpListIn_append_own _ rfl _ _ 29 rfl y.heap.size 42 i0 (.agg #[.string ⟨#[]⟩,.string ⟨#[]⟩]) 2 32 underlying29 bk bq br bs rfl dC _ _ _ rfl (World.ownsRow.alloc av.2.1 _) (ϰ W.heap.size 0) 1 1 [.string p.k,.string p.v] rfl rfl (qI3 _ _ _ _) (by simp[Value.oneCell']) (by unfold maxLen;omega) oM sO ?_;intro v5 z al am _;obtain⟨g5,c5,rfl⟩:=CN al;have ae:=Ww av.1 am a3.out;have o5:=Y ae 0;have:=ρ ae 0;simp only[zG,zH]at o5)
    have bo:L.length<M:=oM
    have:=am.size;refine⟨bo,.slice (some (ϰ g5 0)) (L.length+1) c5,[w.heap.size+1+1+1]++(Value.slice G L.length H).ownBlock.toList,?_,?_,ξ ae 0 _,?_,?_⟩
    .refine ((((Kp.refl _ W).alloc _).grown am (λk f=>.inl (List.mem_append.2 (.inr (by have bl:(Value.slice G L.length H).ownBlock=some k:=f;rw[bl];simp))))).sc _)
    .intro k f;rcases List.mem_append.1 f with h|h
     .exact .inl (List.mem_singleton.1 h)
     .exact .inr (sU h)
    .have e:=ZK L p;unfold OPA;rw[e,List.length_append];refine OPA.qZ4 al ((Kp.refl [w.heap.size+1+1+1] z).sc _) (λk f c S e=>?_);rw[List.mem_singleton.1 f,ae]at e;cases e
    .intro k f;have:=(World.ownsRow.lt al k f).2;simp[World.setCell];omega
  .intro l F k W Pb P hv;have ap:∀i,w.heap.size<=i->s.po=false/\t.over=false->i∉E.S:=λi d h hm=>by have:=E.low w (aa h).dev i hm;omega
   have b:=P.old Z sO (ap _ oM);have a:=P.old V sO (ap _ oM);have:=U b;have:=U a;have:=ϻ b 0;have:=ρ b 0;have:=ϻ a 0;have:=ρ a 0;have:∀W:World,Sem.run prog (binOp .neq 38 (.iface 243 (ϖ F)) .nilIface) W=.ok (.bool true) W:=λW=>by kernel_rfl
   have ab:=hid (And.intro b a);clear Z V b a P hv ac ad C ap
   gi_wp2
   exact⟨⟨_,ab.1⟩,⟨_,ab.2⟩,(AM oM _ _).trans (ξ ab.1 0 _),ξ ((AM oM _ _).trans ab.2) 0 _,((Kp.refl _ _).sc _).sc _⟩
  .intro W v k P hv b a m ao;have Q:=Y b 0;have B:=Y a 0;simp only[zG,zH]at Q B;have HF:=hid (And.intro P (And.intro hv (And.intro b (And.intro a m))))
   gi_wp2
   let⟨P,hv,b,a,m⟩:=HF.out;have:=aw.out;refine⟨sM,.inl ⟨_,_,rfl,run_takeDeferred m,?_⟩⟩;obtain⟨z,ar,I⟩:∃z,z=W.putObj y.heap.size (.deferred none)/\Kp [y.heap.size] W z:=⟨_,rfl,(Kp.refl _ _).putObj sM _⟩;rw[<-ar];have ah:∀{k:Nat} {c:Array Value} {u:TypeId} {S:Nat×Nat},W.heap[k]?=some (ϲ c u S)->k∉[y.heap.size]:=λf hm=>by rw[List.mem_singleton.1 hm,m]at f;cases f
   have Q:=Y (I.heap b (ah b)) 0;have B:=Y (I.heap a (ah a)) 0;simp only[zG,zH]at Q B;refine⟨.tuple #[.slice none 0 0,v],?_,_,v,k,rfl,hv.qM3 I (λi d c S e=>ah e d),.inr ⟨rfl,(P.on I (Z':=[w.heap.size+1+1+1,w.heap.size+1,w.heap.size+1+1]) sM sM (λk f c u S e=>(ah e f).elim) sO).low au (λi d=>?_)⟩⟩
   .simp[results,results71,go_sem,Q,B]
   .simp at d;omega
  all_goals
   intro W v ag o af hd D O m ao;have an:∀k,w.heap.size<=k->k≠w.heap.size+1+1+1->k∉t.St::(w.heap.size+1+1+1)::E.S:=λk f hne hm=>by
    simp only[List.mem_cons]at hm;rcases hm with h|h|h
    .omega
    .omega
    .have:=E.low w (aa ag).dev _ h;omega
   have b:=o.heap Z (an _ oM oM);have a:=o.heap V (an _ oM oM);have:=U D;have:=U b;have:=U a;let⟨G,H,bj⟩:=O.form;subst bj;have o0:=ϻ D 0;have:=ϻ b 0;have:=ρ b 0;have:=ϻ a 0;have:=ρ a 0;let⟨T,aq⟩:=eX ((Bu r.cont lo d M).length);rw[<-aq]at o0;have a4:Hid (OPA W y.heap.size (.slice G T H) (Bu r.cont lo d M)):=by rw[aq];exact O
   have HW:=zh (n6 af hd o b a m);clear C Z V ad ac af hd o b a m D O aq an
   gi_wp2
   let⟨af,hd,o,b,a,m⟩:=HW.out;have:=aw.out;have az:=(au.mono sM).trans o (λ_ h _=>h);have:=az.size;have:=E.low w (aa ag).dev;obtain⟨R,bp,bh,a8,a6,bc⟩:∃R,R=(W.setCell (ϰ (w.heap.size+1) 0) (.slice G T H)).setCell (ϰ (w.heap.size+1+1) 0) .nilIface/\R.heap[w.heap.size+1]?=some (ϲ #[.slice G T H] 29)/\R.heap[w.heap.size+1+1]?=some (ϲ #[.nilIface] 38)/\R.heap[y.heap.size]?=some (.deferred (some []))/\Kp [w.heap.size+1,w.heap.size+1+1] W R:=
    ⟨_,rfl,(AM oM _ _).trans (ξ b 0 _),ξ ((AM oM _ _).trans a) 0 _,(AM oM _ _).trans ((AM oM _ _).trans m),((Kp.refl _ _).sc _).sc _⟩
   rw[<-bp];refine⟨sM,.inl ⟨_,_,rfl,run_takeDeferred a6,?_⟩⟩;obtain⟨z,ar,bi,a9,I⟩:∃z,z=R.putObj y.heap.size (.deferred none)/\z.heap[w.heap.size+1]?=some (ϲ #[.slice G T H] 29)/\z.heap[w.heap.size+1+1]?=some (ϲ #[.nilIface] 38)/\Kp [w.heap.size+1,w.heap.size+1+1,y.heap.size] W z:=
    ⟨_,rfl,(World.putObj_heap_other oM).trans bh,(World.putObj_heap_other oM).trans a8,(bc.mono sC).putObj sM _⟩
   rw[<-ar];have Q:=Y bi 0;have B:=Y a9 0;simp only[zG,zH]at Q B;have bm:=(OffD.one b dC).cons ((OffD.one a dC).cons (λk f c t S e=>by rw[List.mem_singleton.1 f,m]at e;cases e));have bn:=a4.out.qM3 I (λk f c S e=>by
    simp only[List.mem_cons,List.not_mem_nil,or_false]at f;rcases f with h|h|h
    .rw[h,b]at e;cases e
    .rw[h,a]at e;cases e
    .rw[h,m]at e;cases e)
   refine⟨.tuple #[.slice G T H,.nilIface],?_,.slice G T H,.nilIface,none,rfl,rfl,.inl ⟨rfl,?_,E.qN1 _ _ _ hd I bm,I.heap af ?_,az.trans I ?_ |>.mono ?_⟩⟩
   .simp[results,results71,go_sem,Q,B]
   .rw[a5.out];exact Ct bn oM
   .simp only[List.mem_cons,List.not_mem_nil,or_false,not_or];exact⟨oM,oM,oM⟩
   .intro i d ao;simp at d;omega
   .intro i d ao;simp only[List.mem_cons]at d |-;rcases d with h|h|h
    .exact .inl h
    .omega
    .exact .inr h
end
def BN(k:Int)(w):Ω 127 #[ϊ k] w λe w'=>e=ϱ (ϊ k)/\w'=w:=by
 go_enter func127,ntmps127;go_wp2;go_ret;exact⟨rfl,rfl⟩
def EG(c:Int)(n:Nat)(w)(f:-9223372036854775808<=c)(g:c<=9223372036854775807)(i:1<=n)(k:n<=1000000):
  Ω 79 #[ϊ c,ϊ n] w λe w'=>∃j:Nat,e=ϱ (ϊ j)/\j<n/\w'=w:=by
 have a:¬((n:Int)=0):=oM
 by_cases h:c<0
 .go_enter func79,ntmps79;go_wp2;go_ret;have b:-((c+1).tmod (n:Int))=(-(c+1)) % (n:Int):=by rw[<-Int.neg_tmod,Int.tmod_eq_emod_of_nonneg oM]
  have d:=Int.emod_nonneg (-(c+1)) a;have:=Int.emod_lt_of_pos (-(c+1)) (show(0:Int)<n by omega);refine⟨((-(c+1)) % (n:Int)).toNat,?_,oM,rfl⟩;rw[Int.toNat_of_nonneg d,<-b];rfl
 .go_enter func79,ntmps79;go_wp2;go_ret;have:=Int.emod_lt_of_pos c (show(0:Int)<n by omega);refine⟨(c % (n:Int)).toNat,?_,oM,rfl⟩;rw[Int.toNat_of_nonneg (Int.emod_nonneg c a)];rfl
def Sm(c:Int)(w)(h:c<0):Ω 122 #[ϊ c] w λe w'=>e=ϱ (ϊ 0)/\w'=w:=by
 go_enter func122,ntmps122;go_wp2;go_ret;exact⟨rfl,rfl⟩
def Sl(c:Int)(w)(h:¬c<0):Ω 122 #[ϊ c] w λe w'=>e=ϱ (ϊ (c % 1000))/\w'=w:=by
 go_enter func122,ntmps122;go_wp2;go_ret;exact⟨rfl,rfl⟩
def JF:(prog.info? 126).map (λi=>(i.zero,i.size,i.bytes))=some (some (.agg #[.slice none 0 0]),1,24):=kR
def qC0(w)(ty):Sem.run prog (Builtin.append_ #[121,121] ty #[.slice none 0 0,.slice none 0 0]) w=.ok (.slice none 0 0) w:=by
 let⟨e,a,b,c,d⟩:=info_parts JF;simp[Builtin.append_,run_underlying underlying121,sizeOf,typeInfo,a,Builtin.lenOf,Builtin.firstCells]
def Ft{P:Program}{c:Array Oper}{d:List Oper}{b:Option Tmp}{ty}{j:String}{e:Array Edge}{a:Act}{w w'}{Q:Exit->Act->ϯ}{s x:Operand}{t}{vs vx v'}(g:a.eval s=vs)(i:a.eval x=vx)
  (f:Sem.run P (Builtin.append_ #[t,t] ty #[vs,vx]) w=.ok v' w') (h:wpList P c Q d (a.put b v') w'):
  wpList P c Q (⟨b,.call { callee:=.builtin .append,args:=#[s,x],argTypes:=#[t,t] },ty,j,e,none⟩::d) a w:=by
 refine wpList_plain rfl λK hK=>?_;unfold Oper.wp execOp;simp[resolve,invoke,builtin,Sem.run_bind,Sem.run_pure,Result.andThen_ok,List.map_toArray,List.map_cons,List.map_nil,g,i,f];exact hK _ _ h
def Apart(w:Ϣ)(S:Ϥ)(t:Ϯ):Prop:=∀k,k∈S->∃c u fr,w.heap[k]?=some (ϲ c u fr)/\u≠t
def VJ(may qN4)(n:Nat)(e b a:Bool)(w)(d:8<=n)(c:n<=400):
  Ω 128 #[.agg #[ϊ n,may,ϐ e,qN4,ϐ b,ϐ a]] w λr w'=>r=ϱ (ϐ true)/\Kp [] w w':=by
 go_enter func128,ntmps128;go_wp2;go_ret;exact⟨by show Ending.returned (Value.bool (decide ((n:Int)<=400)))=_;rw[decide_eq_true oM],kF.alloc _⟩
def VI(may qN4)(n:Nat)(e c b:Bool)(w)(a:n<8\/400<n):
  Ω 128 #[.agg #[ϊ n,may,ϐ e,qN4,ϐ c,ϐ b]] w λr w'=>r=ϱ (ϐ false)/\Kp [] w w':=by
 by_cases d:n<8
 .clear a;go_enter func128,ntmps128;go_wp2;go_ret;exact⟨rfl,kF.alloc _⟩
 .have:400<n:=oM
  clear a;go_enter func128,ntmps128;go_wp2;go_ret;exact⟨by show Ending.returned (Value.bool (decide ((n:Int)<=400)))=_;rw[decide_eq_false oM],kF.alloc _⟩
structure KF where
 A:Nat
 n:Nat
 may:Value
 emp:Bool
 qN4:Value
 qO5:Bool
 bit:Bool
 x:Ϭ
 c:Value
 com:Int
 po:Bool
 ts:Value
 li:Value
 wa:Value
def kob(k:KF):Obj:=
 .cells #[.pointer (some ⟨k.A,0,none⟩),.int .i64 k.n,k.may,.bool k.emp,k.qN4,.bool k.qO5,.bool k.bit,.pointer k.x,k.c,.int .i64 k.com,.bool k.po,k.ts,k.li,k.wa] 130
structure TF where
 x:Nat
 v:Value
 wr:Bool
 dn:Bool
 chg:Int
 qN8:Int
 com:Int
 stp:Int
 cs:Value
def tob(f:TF):Obj:=
 .cells #[.pointer (some ⟨f.x,0,none⟩),f.v,.bool f.wr,.bool f.dn,.int .i64 f.chg,.int .i64 f.qN8,.int .i64 f.com,.int .i64 f.stp,f.cs] 197
def Ce:Option Int→Int
 | none=>0
 | some k=>if k<1000 then k else 8
def Dh(v)(k:ϩ)(w)(d:w.cell? (ϰ 0 0)=some Bd)(h:ErrV w v k):
  Ω 24 #[v] w λe w'=>e=ϱ (ϊ (Ce k))/\Kp [] w w':=by
 cases k with
 | none=>
  have i:v=.nilIface:=h;subst i;exact(KZ w).mono λe w' ⟨f,g⟩=>⟨f,by rw[g];exact Kp.refl _ _⟩
 | some k=>
  obtain⟨F,c,rfl,b⟩:=h;by_cases a:k<1000
  .rw[(Iw a).1,(Iw a).2]at b;rw[show Ce (some k)=k from if_pos a];exact qH5 F c k w d b
  .rw[show Ce (some k)=8 from if_neg a];rw[show thT k=330 from if_neg a,show thv k=ϖ ((k-1000).toNat) from if_neg a]at b;exact qH6 F c _ w d b
def Bj(wr dn:Bool)(k v:ByteArray):Int:=if dn then 5 else if wr=false then 6 else if Bx k=false then 1 else if 12<v.size then 2 else 0
def Pz(v cs:Value)(wr g:Bool)(i p j q:Int)(k a:Ϧ)(w:Ϣ)(m:∃b n c,v=.slice b n c):
  Ω 192 #[.agg #[v,ϐ wr,ϐ g,ϊ i,ϊ p,ϊ j,ϊ q],ϕ k,ϕ a] w λe w'=>e=ϱ (ϊ (Bj wr g k a))/\Kp [] w w':=by
 obtain⟨b,n,c,rfl⟩:=m;have d:=PC k;obtain⟨o,f⟩:=eY (Bx k);rw[f]at d
 cases g with
 | true=>
  go_enter func192,ntmps192
  go_wp2_with (go_at_call 198;refine mR (d _) ?_;rintro w' rfl)
  go_ret;exact⟨rfl,kF.alloc _⟩
 | false=>
  cases wr with
  | false=>
   go_enter func192,ntmps192
   go_wp2_with (go_at_call 198;refine mR (d _) ?_;rintro w' rfl)
   go_ret;exact⟨rfl,kF.alloc _⟩
  | true=>
   cases o with
   | false=>
    go_enter func192,ntmps192
    go_wp2_with (go_at_call 198;refine mR (d _) ?_;rintro w' rfl)
    go_ret;exact⟨by rw[Bj,f];rfl,kF.alloc _⟩
   | true=>
    by_cases h:12<a.size
    .have l:(12:Int)<(a.size:Int):=oM
     go_enter func192,ntmps192
     go_wp2_with (go_at_call 198;refine mR (d _) ?_;rintro w' rfl)
     go_ret;refine⟨?_,kF.alloc _⟩;have:Bj true false k a=2:=by simp[Bj,f,h]
     rw[this];rfl
    .have l:¬(12:Int)<(a.size:Int):=oM
     go_enter func192,ntmps192
     go_wp2_with (go_at_call 198;refine mR (d _) ?_;rintro w' rfl)
     go_ret;refine⟨?_,kF.alloc _⟩;have:Bj true false k a=0:=by simp[Bj,f,h]
     rw[this];rfl
variable {κ:Kd}
def Pd(A n C:Nat)(cache)(calls a:Int)(i:Int)(w)(h:w.heap[A]?=some (AF κ n C cache calls a))(b:0<=i)(c:i<n):
  Ω 330 #[ϖ A,ϊ i] w λe w'=>e=ϱ (ϐ false)/\w'=w:=by
 have c0:=Y h 0;simp at c0;clear h;go_enter func330,ntmps330;go_wp2;go_ret;exact⟨rfl,rfl⟩
def Iy{A n C:Nat}{v:Value}{calls a:Int}{w:Ϣ}(h:w.heap[A]?=some (AF κ n C v calls a)):((w.setCell (ϰ A 2) (ϊ (nx calls))).setCell (ϰ A 4) (ϊ (nx κ.told))).heap[A]?=some (AF κ.up n C v (nx calls) a):=ξ (ξ h 2 _) 4 _
def Ix(A:Nat)(a b)(w):Kp [A] w ((w.setCell (ϰ A 2) a).setCell (ϰ A 4) b):=((Kp.refl _ _).sc _).sc _
def FB{l}{i n:Nat}(b:n*128<=l.length)(a:i<n):(τ l i).length=128:=by simp[τ];omega
def Qy{n:Nat}{ws:ϥ}{cur:ϧ}(d:∀x∈ws,x.1<n/\x.2.length=128)(a:cur.toList.take (ws.length*129)=ws.flatMap wcs)(j:Nat)(c:j<ws.length):Ad cur (j*129) 129=(wcs ws[j]).toArray:=by
 have b:=Jw wcs 129 ws (λx e=>by simp[wcs,FI,(d x e).2]) j c;have:j*129+129<=ws.length*129:=oM
 unfold Ad
 congr 1
 rw[<-b,<-a,List.drop_take,List.take_take]
 congr 1
 omega
def Qz{x:Nat×ϣ}(h:x.2.length=128):((wcs x).toArray).size=129/\((wcs x).toArray)[0]?=some (ϊ (x.1:Int))/\Ad (wcs x).toArray 1 128=enc x.2/\∀v∈(wcs x).toArray.toList,v.oneCell'=true:=by
 have c:(wcs x).toArray=(ϊ (x.1:Int)::(enc x.2).toList).toArray:=by simp[wcs,enc]
 have b:(enc x.2).size=128:=by rw[Bw];exact h
 rw[c];refine⟨by simp[b],rfl,by simp[Ad,List.take_of_length_le,b],λv a=>?_⟩;simp at a;rcases a with rfl|a
 .rfl
 .exact (Co x.2).one v (by simpa using a)
def Rf(κ:Kd)(A n C:Nat)(v:Value)(calls a:Int)(l:ϣ)(i:Nat)(w:Ϣ)(e:Ending)(w':Ϣ):Prop:=
 ((¬κ.quiet/\e=ϱ (.tuple #[.slice none 0 0,DH])/\w'.heap[A]?=some (AF κ.up n C v (nx calls) a))\/
  ∃g,e=ϱ (.tuple #[.slice (some (ϰ g 0)) 128 128,.nilIface])/\w.heap.size<=g/\w'.heap[g]?=some (ϲ (enc (τ l i)) 5)/\w'.heap[A]?=some (AF κ n C v (nx calls) a))/\Kp [A] w w'
def qA5(A n C base:Nat)(v)(ws)(calls d:Int)(i:Nat)(l)(w)(h:w.heap[A]?=some (AF κ n C v calls d))
  (R:w.ownsRow base 117 129 v ws.length (ws.flatMap wcs)) (ah:∀x∈ws,x.1<n/\x.2.length=128) (au:ws.length<=100000)
  (hi:i<n) (hn:n<=1000) (S:w.heap[C]?=some (ϲ (enc l) 115)) (Q:n*128<=l.length) (ak:C≠A):
  Ω 327 #[ϖ A,ϊ i] w (Rf κ A n C v calls d (laidAll l ws) i w):=by
 obtain⟨r,c,rfl⟩:∃r c,v=.slice r ws.length c:=by
  rcases R.2 with⟨rfl,af⟩|⟨g,cap,cur,rfl,_⟩
  .rw[af];exact⟨_,_,rfl⟩
  .exact⟨_,_,rfl⟩
 have HV:=zh R;have K:=zh ah;have HS:=zh Q;have an:n*128<=(enc l).size:=by rw[Bw];exact Q
 have c0:=Y h 0;have s:=Y h 1;simp at c0 s;have:=U h;have:=U S;have ai:=zh h;clear R ah Q;go_enter func327,ntmps327;go_wp2_with fail;refine(GZ A n C _ calls d _ h).mono ?_;rintro e w1 (⟨rfl,rfl⟩|⟨hq,rfl,rfl⟩)
 rotate_left
 .have b:=zh (n2 hq (Iy h));clear hq h;go_wp2
  go_ret2
  exact⟨.inl ⟨b.1,rfl,b.2⟩,Ix A _ _ w⟩
 go_wp2_with fail;refine(Pd A n C (.slice r ws.length c) (nx calls) d i _ (ξ h 2 _) oM oM).mono ?_;rintro e w1 ⟨rfl,rfl⟩
 go_wp2_with (refine QD (.int .u8 0) (.int .u8 0) 1 1 underlying118 Tryz.qQ2 (by simp[Value.cells]) (by simp[Value.cells]) .i64 .i64 128 rfl rfl dC dC ?_;intro Z hZ ap)
 have q:((w.setCell (ϰ A 2) (ϊ (nx calls))).alloc (ϲ Z 5)).heap[w.heap.size]?=some (ϲ Z 5):=by
  simpa using μ (w.setCell (ϰ A 2) (ϊ (nx calls))) (ϲ Z 5)
 have T:=ν (ϲ Z 5) ((AM ak 2 (ϊ (nx calls))).trans S);rw[Fp (n:=128) 3 underlying118 Tryz.qQ7 rfl q T oM oM (GL (Co l) _ _).one];obtain⟨a,y,p,f,m⟩:∃a,a=((w.setCell (ϰ A 2) (ϊ (nx calls))).alloc (ϲ Z 5)).setRow w.heap.size (Bz Z 0 (Ad (enc l) (i*128) 128))/\Kp [A] w a/\
   a.heap[A]?=some (AF κ n C (.slice r ws.length c) (nx calls) d)/\a.heap[w.heap.size]?=some (ϲ (enc (τ l i)) 5):=
  ⟨_,rfl,(((Kp.refl _ _).sc _).alloc _).setRow sM _,(setRow_other _ _ _ _ oM).trans (ν _ (ξ h 2 _)),by
   rw[setRow_heap _ _ _ _ _ _ q,CY (by rw[Ed oM];omega),Dd];rfl⟩
 rw[<-y];clear y q T c0 s h an;have s:=Y f 1;simp at s;go_wp2
 go_loopw [32] (λk wr=>∃(j:Nat),j<=ws.length/\k=.int .i64 j/\Hid (wr.heap[w.heap.size]?=some (ϲ (enc (τ (laidAll l (ws.take j)) i)) 5))/\Hid (wr.heap[A]?=some (AF κ n C (.slice r ws.length c) (nx calls) d))/\Hid (Kp [A] w wr)) (λk _=>ws.length-(intOf k).toNat)
 case atStart=>exact⟨0,Nat.zero_le _,rfl,m,f,p⟩
 case round=>
  obtain⟨j,hj,rfl,B,z,D⟩:=hrel;clear m f p s;by_cases P:j<ws.length
  .have:(j:Int)<(ws.length:Int):=oM
   let⟨ac,O⟩:=K.out ws[j] (List.getElem_mem P);let⟨N,M,H,W⟩:=Qz O;obtain⟨g,cap,cur,ag,hg,aq,am⟩:∃g cap cur,Value.slice r ws.length c=.slice (some (ϰ g 0)) ws.length cap/\w.heap[g]?=some (ϲ cur 117)/\ws.length*129<=cur.size/\Ad cur (j*129) 129=(wcs ws[j]).toArray:=by
    rcases HV.2 with⟨_,af⟩|⟨g,cap,cur,h1,_,G,h3,_,h4,h5⟩
    .omega
    .exact⟨g,cap,cur,h1,G,by rw[h4];exact Nat.mul_le_mul_right _ h3,Qy K h5 j P⟩
   simp only[Value.slice.injEq,true_and]at ag;obtain⟨rfl,rfl⟩:=ag;have ao:g≠A:=by
    intro e;subst e;have G:=ai.out;rw[hg]at G;simp[AF]at G
   have ab:=D.out.heap hg (by simpa using ao);have E:=zh (JM l ws j P);have I:Hid (n*128<=(laidAll l (ws.take j)).length):=Cy n _ l HS (λx hx=>K x (List.mem_of_mem_take hx));have o:=zh (n2 ac O);let⟨X,V⟩:=eX ((wcs ws[j]).toArray);let⟨k,hk⟩:=eX (ws[j].1);let⟨F,aa⟩:=eX (ws[j].2);rw[<-V]at N M H W am;rw[<-hk]at M E o;rw[<-aa]at H E o;have:j*129+129<=ws.length*129:=oM
   clear V hk aa ac O;have:=U ab;have:=U B
   go_wp2_with (
    with_reducible refine EO (t:=117) ?_ 129 ?_ g (j*129) ?_ cur 117 (0,0) ?_ ?_ ?_
    .kernel_rfl
    .kernel_rfl
    .rfl
    .exact ab
    .omega)
   have q:=μ wr (ϲ zeroCells117 117);rw[DB q (by simp[Dj,N]) W];obtain⟨a,y,p,f,m,u,ar⟩:∃a,a=(wr.alloc (ϲ zeroCells117 117)).setRow wr.heap.size (Bz zeroCells117 0 X.toList.toArray)/\Kp [A] w a/\
     a.heap[A]?=some (AF κ n C (.slice (some (ϰ g 0)) ws.length c) (nx calls) d)/\a.heap[w.heap.size]?=some (ϲ (enc (τ (laidAll l (ws.take j)) i)) 5)/\a.heap[wr.heap.size]?=some (ϲ X 117)/\a.heap.size=wr.heap.size+1:=
    ⟨_,rfl,(D.alloc _).setRow (Or.inr D.size) _,(setRow_other _ _ _ _ (Nat.ne_of_lt (U z))).trans (ν _ z),(setRow_other _ _ _ _ (Nat.ne_of_lt (U B))).trans (ν _ B),by
     rw[setRow_heap _ _ _ _ _ _ q,CY (by simp[Dj,N])],sM⟩
   have:=U z.out;rw[<-y];clear y q;have t0:=Y u 0;rw[M]at t0;have:=U u;by_cases ae:k=i
   .have:(k:Int)=(i:Int):=oM
    have al:(enc (τ (laidAll l (ws.take j)) i)).size=128:=by rw[Bw];exact FB I hi
    go_wp2_with fail;rw[Fp (n:=128) 3 underlying118 Tryz.qQ7 rfl m u oM oM (by rw[H];exact(Co F).one)];rw[H,CY (by rw[al,Bw,o.out.2])];have b:Hid ((a.setRow w.heap.size (enc F)).heap[w.heap.size]?=some (ϲ (enc (τ (laidAll l (ws.take (j+1))) i)) 5)/\(a.setRow w.heap.size (enc F)).heap[A]?=some (AF κ n C (.slice (some (ϰ g 0)) ws.length c) (nx calls) d)/\Kp [A] w (a.setRow w.heap.size (enc F))):=by
     refine⟨?_,(setRow_other _ _ _ _ oM).trans f,p.setRow (Or.inr (Nat.le_refl _)) _⟩;rw[setRow_heap _ _ _ _ _ _ m,E.out,<-ae,CT _ _ _ n o.out.2 I.out o.out.1]
    clear f m u p;go_wp2;exact⟨⟨j+1,oM,by go_num,b.1,b.2.1,b.2.2⟩,by simp[intOf];omega⟩
   .have:¬(k:Int)=(i:Int):=oM
    have b:Hid (a.heap[w.heap.size]?=some (ϲ (enc (τ (laidAll l (ws.take (j+1))) i)) 5)/\a.heap[A]?=some (AF κ n C (.slice (some (ϰ g 0)) ws.length c) (nx calls) d)/\Kp [A] w a):=by
     refine⟨?_,f,p⟩;rw[E.out,Dl _ _ _ _ n o.out.2 I.out o.out.1 (λe=>ae e.symm)];exact m
    clear f m u p;go_wp2;exact⟨⟨j+1,oM,by go_num,b.1,b.2.1,b.2.2⟩,by simp[intOf];omega⟩
  .have:¬(j:Int)<(ws.length:Int):=oM
   have ad:ws.take j=ws:=List.take_of_length_le oM;have L:=B.out;rw[ad]at L;have aj:=zh L;clear ad L;go_wp2
   go_ret2
   exact⟨.inr ⟨_,rfl,Nat.le_refl _,aj,z⟩,D⟩
variable {κ:Kd}
def Ri(κ:Kd)(A n C base k:Nat)(v:Value)(calls b:Int)(xs:Ϩ)(w:Ϣ)(e:Ending)(w':Ϣ):Prop:=
 (¬κ.quiet/\e=ϱ DH/\w'.heap[A]?=some (AF κ.up n C v (nx calls) b)/\Kp [A] w w')\/
  (e=ϱ .nilIface/\∃a,w'.ownsRow base 117 129 a (k+1) xs/\w'.heap[A]?=some (AF κ n C a (nx calls) (nx b))/\Wr base A w w'/\Kp (A::v.ownBlock.toList) w w'/\∀g,a.ownBlock=some g->v.ownBlock=some g\/w.heap.size<=g)
def Ly(κ:Kd)(A n C:Nat)(v:Value)(calls a:Int)(l:ϣ)(w:Ϣ)(e:Ending)(w':Ϣ):Prop:=
 (¬κ.quiet/\e=ϱ DH/\w'.heap[A]?=some (AF κ.up n C v (nx calls) a)/\Kp [A] w w')\/
  (e=ϱ .nilIface/\w'.heap[A]?=some (AF κ n C (.slice none 0 0) (nx calls) a)/\w'.heap[C]?=some (ϲ (enc l) 115)/\Kp [A,C] w w')
def qL4(A n C:Nat)(v)(base k:Nat)(xs:Ϩ)(calls f:Int)(i:Nat)(B j cap:Nat)(src)(tb)(w)(h:w.heap[A]?=some (AF κ n C v calls f))
  (hi:i<n) (hn:n<=1000) (hB:w.heap[B]?=some (ϲ src tb)) (hs:j+128<=src.size) (ai:allBytes src) (am:B≠A) (hv:w.ownsRow base 117 129 v k xs) (hb:base<=w.heap.size) (O:k<=100000):
  Ω 328 #[ϖ A,ϊ i,.slice (some (ϰ B j)) 128 cap] w (Ri κ A n C base k v calls f (xs++.int .i64 i::(Ad src j 128).toList) w):=by
 have S:Hid (∀{p:Prop},(_h:p:=by
  have ak:Hid (Kp (A::v.ownBlock.toList) w d):=(((m.drew).alloc _).mono sC).grown o (λk O=>Or.inl (by simp[O]));have ac:Hid (Wr base A w d):=((Wr.qP2 ((m.drew).alloc _) b.1).grown b.1 x o);have al:Hid (d.ownsRow base 117 129 (.slice (some (ϰ z 0)) (k+1) y) (k+1) (xs++X.toList)):=by
   have H:Ad X 0 (1*129)=X:=by have:=Pw X;rw[E]at this;exact this
   rw[H]at r;exact r
  have ap:=U l;have d1:=Y l 1;simp at d1;have e1:=ρ l 1;clear r o G;refine zu 8 (ϖ A) ?_;refine zu 9 (.pointer (some (ϰ A 1))) ?_;refine zQ 10 λK hK=>?_;go_simp;refine hK _ _ ?_;refine wpAny_done kR ?_ _;have d3:=Y l 3;simp at d3;have e3:=ρ l 3;have ar:wrap64 (f+1)=nx f:=rfl;go_wp2;go_ret;have W:Kp [A] d ((d.setCell (ϰ A 1) (.slice (some (ϰ z 0)) (k+1) y)).setCell (ϰ A 3) (ϊ (nx f))):=(kF.sc _).sc _;refine .inr ⟨rfl,_,?_,ξ (ξ l 1 _) 3 _,ac.trans (Wr.qP2 W (lT b.1 ac.size)),ak.trans W sC,R⟩;have h:=al.out;rw[HX.out]at h;exact BT h W (λq s c t fr e=>by rw[mS s,l]at e;cases e;decide))->p):=λh=>h
 have b:=zh (n2 hb O);clear hb O;have M:=Y h 1;have N:=Y h 3;simp at M N;have hA:=U h;have aq:=U hB;go_enter func328,ntmps328;go_wp2_with fail;refine(GZ A n C _ calls f _ h).mono ?_;rintro e d (⟨rfl,rfl⟩|⟨s,rfl,rfl⟩)
 rotate_left
 .have HE:=zh (n2 s (Iy h));clear s h;go_wp2;go_ret;exact .inl ⟨HE.1,rfl,HE.2,Ix A _ _ w⟩
 go_wp2_with fail;refine(Pd A n C v (nx calls) f i _ (ξ h 2 _) oM oM).mono ?_;rintro e d ⟨rfl,rfl⟩;go_wp2_with fail;have Z:((w.setCell (ϰ A 2) (ϊ (nx calls))).alloc (ϲ zeroCells117 117)).heap[w.heap.size]?=some (ϲ zeroCells117 117):=by
  simpa using μ (w.setCell (ϰ A 2) (ϊ (nx calls))) (ϲ zeroCells117 117)
 rw[DB Z (by simp[Dj]) (λv hv=>by rcases List.mem_or_eq_of_mem_set hv with h | h;exact qM1 v h;subst h;rfl)];obtain⟨F,ag,V,ad,T⟩:∃F,F=((w.setCell (ϰ A 2) (ϊ (nx calls))).alloc (ϲ zeroCells117 117)).setRow w.heap.size (Bz zeroCells117 0 (zeroCells117.toList.set 0 (ϊ i)).toArray)/\Kp [A] w F/\
   F.heap[A]?=some (AF κ n C v (nx calls) f)/\F.heap[w.heap.size]?=some (ϲ (zeroCells117.toList.set 0 (ϊ i)).toArray 117):=
  ⟨_,rfl,((kF.sc _).alloc _).setRow sM _,(setRow_other _ _ _ _ oM).trans (ν _ (ξ h 2 _)),by
   rw[setRow_heap _ _ _ _ _ _ Z,CY sM]⟩
 rw[<-ag];clear ag Z;have ae:=V.heap hB (by simp[am]);go_wp2_with fail;rw[Fp (n:=128) 3 underlying118 Tryz.qQ7 rfl T ae (by simp[Dj]) hs (GL ai _ _).one];obtain⟨a,ah,m,D,af⟩:∃a,a=F.setRow w.heap.size (Bz (zeroCells117.toList.set 0 (ϊ i)).toArray 1 (Ad src j 128))/\Kp [A] w a/\
   a.heap[A]?=some (AF κ n C v (nx calls) f)/\a.heap[w.heap.size]?=some (ϲ (ϊ i::(Ad src j 128).toList).toArray 117):=
  ⟨_,rfl,V.setRow sM _,(setRow_other _ _ _ _ oM).trans ad,by
   rw[setRow_heap _ _ _ _ _ _ T];have e:Bz (zeroCells117.toList.set 0 (ϊ i)).toArray 1 (Ad src j 128)=(ϊ i::(Ad src j 128).toList).toArray:=by
    have H:zeroCells117.toList.length=129:=by simp[Dj]
    obtain⟨Q,L,an⟩:∃Q L,zeroCells117.toList=Q::L:=by
     cases s:zeroCells117.toList with
     | nil=>rw[s]at H;cases H
     | cons Q L=>exact⟨Q,L,rfl⟩
    rw[an]at H |-;have hp:=Ed (cs:=src) hs;have hd:L.drop 128=[]:=dL (by simp at H;omega);unfold Bz;rw[hp];simp[hd]
   rw[e]⟩
 rw[<-ah];clear ah V ad T ae M N;have M:=Y D 1;have N:=Y D 3;simp at M N;have f1:=ρ D 1;go_wp2_with fail;refine wp_region_any kR ?_;change wpAny _ _ _ _ _ _ _ (World.drew _);refine zu 0 (ϖ A) ?_;refine zu 1 (ϖ A) ?_;refine zu 2 (ϖ A) ?_;refine zu 3 (.pointer (some (ϰ A 1))) ?_;obtain⟨X,I⟩:=eX ((Value.int .i64 (i:Int)::(Ad src j 128).toList).toArray);rw[<-I]at af;have aj:a.drew.heap[w.heap.size]?=some (ϲ X 117):=af;have E:X.size=129:=by rw[I];simp[Ed hs]
 have aa:(a.drew.alloc (ϲ (Value.agg X).cells 117)).heap[a.heap.size]?=some (ϲ X 117):=μ a.drew _;have ab:∀u∈(Ad X 0 (1*129)).toList,u.oneCell'=true:=by
  have e:Ad X 0 (1*129)=X:=by have:=Pw X;rw[E]at this;exact this
  rw[e,I];intro u P;simp at P;rcases P with rfl|P
  .rfl
  .exact (GL ai j 128).one u (sU P)
 have HX:=zh I;clear I;have ao:=U D;have x:Hid ((a.drew.alloc (ϲ (Value.agg X).cells 117)).ownsRow base 117 129 v k xs):=BT hv ((m.drew).alloc _) (λq s c t fr e=>by rw[mS s,h]at e;cases e;decide);refine wpAny_ready (rs:=[4,5]) kR sM ?_;refine AllReady.cons rfl (λK hK=>?_) (AllReady.cons rfl (λK hK=>?_) AllReady.nil)
 .go_simp;refine hK _ _ ?_;refine zQ 5 λK hK=>?_;refine AU rfl (Es (t:=117) rfl kR 129 kR w.heap.size (by simp[Act.eval]) aj E) ?_;refine hK _ _ ?_;simp only[zZ];refine zQ 6 λK hK=>?_;refine AU rfl (DX rfl (.agg X) _ _ _ underlying112 EX (by simp[Act.eval]) (by simpa [Value.cells] using E) dC dC) ?_;refine hK _ _ ?_;simp only[zZ];refine zQ 7 λK hK=>?_;refine KU rfl rfl (.agg zeroCells117) 129 136 underlying112 EX (by simp[Value.cells,Dj]) dC base v k xs (by simp[Act.eval]) x a.heap.size 0 1 1 X 117 (0,0) (by simp[Act.eval]) aa oM ab (oW b.out) (oW b.out) (by have:=m.size;have:=b.out;simp;omega) ?_;intro v1 d r o G;obtain⟨z,y,rfl⟩:=CN (n:=k) r;refine hK _ _ ?_;simp only[zZ];have l:d.heap[A]?=some (AF κ n C v (nx calls) f):=DI x o (ν _ D) dC;have R:Hid (∀g,(Value.slice (some (ϰ z 0)) (k+1) y).ownBlock=some g->v.ownBlock=some g\/w.heap.size<=g):=λg hg=>(G g hg).imp_right λh=>by have:=m.size;simp at h;omega
  exact S.out
 .refine AU rfl (Es (t:=117) rfl kR 129 kR w.heap.size (by simp[Act.eval]) aj E) ?_;refine hK _ _ ?_;simp only[zZ];refine wpAny_ready (rs:=[4,6]) kR sM ?_;refine AllReady.cons rfl (λK hK=>?_) (AllReady.cons rfl (λK hK=>?_) AllReady.nil)
  .go_simp;refine hK _ _ ?_;refine zQ 6 λK hK=>?_;refine AU rfl (DX rfl (.agg X) _ _ _ underlying112 EX (by simp[Act.eval]) (by simpa [Value.cells] using E) dC dC) ?_;refine hK _ _ ?_;simp only[zZ];refine zQ 7 λK hK=>?_;refine KU rfl rfl (.agg zeroCells117) 129 136 underlying112 EX (by simp[Value.cells,Dj]) dC base v k xs (by simp[Act.eval]) x a.heap.size 0 1 1 X 117 (0,0) (by simp[Act.eval]) aa oM ab (oW b.out) (oW b.out) (by have:=m.size;have:=b.out;simp;omega) ?_;intro v1 d r o G;obtain⟨z,y,rfl⟩:=CN (n:=k) r;refine hK _ _ ?_;simp only[zZ];have l:d.heap[A]?=some (AF κ n C v (nx calls) f):=DI x o (ν _ D) dC;have R:Hid (∀g,(Value.slice (some (ϰ z 0)) (k+1) y).ownBlock=some g->v.ownBlock=some g\/w.heap.size<=g):=λg hg=>(G g hg).imp_right λh=>by have:=m.size;simp at h;omega
   exact S.out
  .refine AU rfl (DX rfl (.agg X) _ _ _ underlying112 EX (by simp[Act.eval]) (by simpa [Value.cells] using E) dC dC) ?_;refine hK _ _ ?_;simp only[zZ];refine zQ 4 λK hK=>?_;go_simp;refine hK _ _ ?_;refine zQ 7 λK hK=>?_;refine KU rfl rfl (.agg zeroCells117) 129 136 underlying112 EX (by simp[Value.cells,Dj]) dC base v k xs (by simp[Act.eval]) x a.heap.size 0 1 1 X 117 (0,0) (by simp[Act.eval]) aa oM ab (oW b.out) (oW b.out) (by have:=m.size;have:=b.out;simp;omega) ?_;intro v1 d r o G;obtain⟨z,y,rfl⟩:=CN (n:=k) r;refine hK _ _ ?_;simp only[zZ];have l:d.heap[A]?=some (AF κ n C v (nx calls) f):=DI x o (ν _ D) dC;have R:Hid (∀g,(Value.slice (some (ϰ z 0)) (k+1) y).ownBlock=some g->v.ownBlock=some g\/w.heap.size<=g):=λg hg=>(G g hg).imp_right λh=>by have:=m.size;simp at h;omega
   exact S.out
def VO(A n C:Nat)(calls a:Int)(l)(w)(h:w.heap[A]?=some (AF κ n C (.slice none 0 0) calls a))(f:w.heap[C]?=some (ϲ (enc l) 115))(d:C≠A):
  Ω 326 #[ϖ A] w (Ly κ A n C (.slice none 0 0) calls a l w):=by
 have c:=Y h 1;simp at c;have:=ρ h 1;go_enter func326,ntmps326;go_wp2_with fail;apply(GZ A n C _ calls a _ h).mono;rintro e i (⟨rfl,rfl⟩|⟨g,rfl,rfl⟩)
 rotate_left
 .have b:=zh (n2 g (Iy h));go_wp2;go_ret;exact .inl ⟨b.1,rfl,b.2,Ix A _ _ w⟩
 go_wp2;apply wp_loop_rounds 1;rw[rounds_succ];go_wp2;go_ret;have hK:Kp [A] w ((w.setCell (ϰ A 2) (ϊ (nx calls))).setCell (ϰ A 1) (ϒ none 0 0)):=(kF.sc _).sc _;exact .inr ⟨rfl,ξ (ξ h 2 _) 1 _,hK.heap f (sU d),hK.mono sM⟩
def VN(A n C base:Nat)(v)(ws)(calls d:Int)(l)(w)(h:w.heap[A]?=some (AF κ n C v calls d))
  (p:w.ownsRow base 117 129 v ws.length (ws.flatMap wcs)) (Q:∀x∈ws,x.1<n/\x.2.length=128) (a5:ws.length<=100000) (hn:n<=1000) (D:w.heap[C]?=some (ϲ (enc l) 115)) (hs:n*128<=l.length) (z:C≠A):
  Ω 326 #[ϖ A] w (Ly κ A n C v calls d (laidAll l ws) w):=by
 rcases p.2 with⟨rfl,a0⟩|⟨g,cap,cur,rfl,a3,o,a1,_,au,av⟩
 .have e:=List.eq_nil_of_length_eq_zero a0;subst e;exact VO A n C calls d l w h D z
 have ax:g≠A:=by intro e;subst e;rw[h]at o;simp[AF]at o
 have ay:g≠C:=by intro e;subst e;rw[D]at o;simp at o
 have:=U h;have:=U D;have:=U o;have ai:Hid (ws.length*129<=cur.size):=by show _<=_;rw[au];exact Nat.mul_le_mul_right _ a1
 have I:=Y h 1;simp at I;have:=ρ h 1;go_enter func326,ntmps326;go_wp2_with fail;refine(GZ A n C _ calls d _ h).mono ?_;rintro e w1 (⟨rfl,rfl⟩|⟨hq,rfl,rfl⟩)
 rotate_left
 .have T:=zh (n2 hq (Iy h));go_wp2;go_ret;exact .inl ⟨T.1,rfl,T.2,Ix A _ _ w⟩
 have ak:=ξ h 2 (ϊ (nx calls));have aw:=(AM ax 2 (ϊ (nx calls))).trans o;have an:Kp [A,C] w (w.setCell (ϰ A 2) (ϊ (nx calls))):=kF.sc _;go_wp2
 go_loopw [13] (λi wr=>∃(j:Nat),j<=ws.length/\i=.int .i64 j/\Hid (wr.heap[A]?=some (AF κ n C (ϑ g 0 ws.length cap) (nx calls) d))/\Hid (wr.heap[C]?=some (ϲ (enc (laidAll l (ws.take j))) 115))/\Hid (wr.heap[g]?=some (ϲ cur 117))/\Hid (Kp [A,C] w wr)) (λi _=>ws.length-(intOf i).toNat)
 case atStart=>exact⟨0,zL _,rfl,ak,(AM z 2 (ϊ (nx calls))).trans D,aw,an⟩
 case round=>
  obtain⟨j,hj,rfl,s,u,G,H⟩:=hrel;by_cases O:j<ws.length
  .have:(j:Int)<(ws.length:Int):=oM
   let⟨hi,ag⟩:=Q ws[j] (gM O);let⟨X,N⟩:=eX ((wcs ws[j]).toArray);let⟨i,F⟩:=eX (ws[j].1);let⟨k,r⟩:=eX (enc ws[j].2);have P:k.size=128:=by rw[r,Bw];exact ag
   have ah:allBytes k:=by rw[r];exact Co _
   have q:X=(ϊ (i:Int)::k.toList).toArray:=by rw[N,F,r];simp[wcs,enc]
   have af:X.size=129:=by rw[q];simp[P]
   have ap:X[0]?=some (ϊ i):=by rw[q];rfl
   have ar:Ad X 1 128=k:=by rw[q];simp[Ad,tL,P]
   have aq:∀v∈X.toList,v.oneCell'=true:=by
    rw[q];intro v p;simp at p;rcases p with rfl|p
    .rfl
    .exact ah.one v (sU p)
   have:j*129+129<=ws.length*129:=oM
   have:Ad cur (j*129) 129=X:=by
    have hf:=Jw wcs 129 ws (λx R=>by simp[wcs,FI,(Q x R).2]) j O;rw[N];unfold Ad
    congr 1
    rw[<-hf,<-av,List.drop_take,List.take_take]
    congr 1
    omega
   have aj:Hid (Bz (enc (laidAll l (ws.take j))) (i*128) k=enc (laidAll l (ws.take (j+1)))):=by
    show _=_;rw[r,F,JN,JM l ws j O];rfl
   have:n*128<=(enc (laidAll l (ws.take j))).size:=by rw[Bw];exact Cy n _ l hs (λx R=>Q x (mT R))
   rw[<-F]at hi;have:=ai.out;clear N F r q ag
   go_wp2_with (
    with_reducible refine EO (t:=117) ?_ 129 ?_ g (j*129) ?_ cur 117 (0,0) ?_ ?_ ?_
    .kernel_rfl
    .kernel_rfl
    .rfl
    .exact G
    .omega)
   have M:=μ wr (ϲ zeroCells117 117);rw[DB M (by simp[Dj,af]) aq];obtain⟨a,ad,ab,y,L,aa,E,a2⟩:∃a,a=(wr.alloc (ϲ zeroCells117 117)).setRow wr.heap.size (Bz zeroCells117 0 X.toList.toArray)/\Kp [A,C] w a/\
     a.heap[A]?=some (AF κ n C (ϑ g 0 ws.length cap) (nx calls) d)/\a.heap[C]?=some (ϲ (enc (laidAll l (ws.take j))) 115)/\a.heap[g]?=some (ϲ cur 117)/\a.heap[wr.heap.size]?=some (ϲ X 117)/\a.heap.size=wr.heap.size+1:=
    ⟨_,rfl,(H.alloc _).setRow (Or.inr H.size) _,(setRow_other _ _ _ _ (Nat.ne_of_lt (U s))).trans (ν _ s),(setRow_other _ _ _ _ (Nat.ne_of_lt (U u))).trans (ν _ u),(setRow_other _ _ _ _ (Nat.ne_of_lt (U G))).trans (ν _ G),by
     rw[setRow_heap _ _ _ _ _ _ M,CY (by simp[Dj,af])],sM⟩
   have:=U s.out;have:=U u.out;rw[<-ad];clear ad M;go_wp2_with fail;refine wp_region_held_drew (S:=λW=>W.heap[A]?=some (AF κ n C (ϑ g 0 ws.length cap) (nx calls) d)/\W.heap[wr.heap.size]?=some (ϲ X 117)) kR ⟨y,E⟩ (λ_=>?_);have b:a.drew.heap[A]?=some (AF κ n C (ϑ g 0 ws.length cap) (nx calls) d)/\a.drew.heap[wr.heap.size]?=some (ϲ X 117):=⟨y,E⟩;refine zP 0 A 0 b ?_;refine zV 1 (ϖ A) rfl (λW m=>by have:=U m.1;go_simp) b ?_;refine zP 2 A 0 b ?_;refine zV 3 (ϑ C 0 n κ.cap) rfl (λW m=>by have c:=Y m.1 0;simp at c;go_simp) b ?_;refine zP 4 wr.heap.size 0 b ?_;refine zV 5 (ϊ i) rfl (λW m=>by have c:=Y m.2 0;rw[ap]at c;go_simp) b ?_;refine zP 6 wr.heap.size 1 b ?_;refine zV 7 (.agg k) rfl (λW m=>Cw (t:=115) rfl kR 128 kR wr.heap.size 1 rfl m.2 oM ar) b ?_;refine zU 8 (ϗ (some (ϰ C (i*128)))) b ?_;refine zq 9 λK hK=>?_;refine qF6 rfl (Vm (t:=115) rfl k (by rw[P];kernel_rfl) C (i*128) rfl rfl (cur:=enc (laidAll l (ws.take j))) (tb:=115) L oM ah.one) ?_;rw[aj.out];obtain⟨f,ae,V,ac,al,am,ao,a4⟩:∃f,f=a.drew.setRow C (enc (laidAll l (ws.take (j+1))))/\f.heap[A]?=some (AF κ n C (ϑ g 0 ws.length cap) (nx calls) d)/\f.heap[wr.heap.size]?=some (ϲ X 117)/\f.heap[C]?=some (ϲ (enc (laidAll l (ws.take (j+1)))) 115)/\f.heap[g]?=some (ϲ cur 117)/\Kp [A,C] w f/\f.heap.size=wr.heap.size+1:=
    ⟨_,rfl,(setRow_other a.drew C A _ z.symm).trans y,(setRow_other a.drew C wr.heap.size _ oM).trans E,setRow_heap a.drew C _ _ _ _ L,(setRow_other a.drew C g _ ay).trans aa,(ab.drew).setRow (g:=C) sM _,by simp[a2]⟩
   rw[<-ae];clear ae;refine hK.out _ _ ⟨V,ac⟩ (λ_=>?_);refine zd ?_;simp[zZ];clear y E L aa ab ac b;go_wp2;exact⟨⟨j+1,oM,by go_num,V,al,am,ao⟩,iO⟩
  .have:¬(j:Int)<(ws.length:Int):=oM
   have az:ws.take j=ws:=tL oM;have Z:=u.out;rw[az]at Z;have B:=s.out;have:=U B;have I:=Y B 1;simp at I;have:=ρ B 1;go_wp2;go_ret;exact .inr ⟨rfl,ξ B 1 _,(AM z _ _).trans Z,H.sc _⟩
variable {κ:Kd}
def CL{w:Ϣ}{a b:Nat}{c d:ϧ}{t u:Ϯ}{g i:Nat×Nat}(f:w.heap[a]?=some (ϲ c t g))(j:w.heap[b]?=some (ϲ d u i))(h:t≠u):a≠b:=λe=>by
 rw[e,j]at f;cases f;exact h rfl
def FH:List TypeId:=[114,263,115,117,382,398]
def Rd(w:Ϣ)(L:Ϥ):Prop:=∀k∈L,∀c t fr,w.heap[k]?=some (ϲ c t fr)->t∉FH
def cch(w:World)(A:Nat):List Nat:=match w.heap[A]? with
 | some (.cells c _ _)=>(c[1]?.bind Value.ownBlock).toList
 | _=>[]
def Eo{w}{A n C:Nat}{v}{calls wr:Int}(h:w.heap[A]?=some (AF κ n C v calls wr)):cch w A=v.ownBlock.toList:=by simp[cch,h,AF]
def Cg{w w'}{A:Nat}(h:w'.heap[A]?=w.heap[A]?):cch w' A=cch w A:=by simp[cch,h]
structure Dk(κ:Kd)(V A N C base:Nat)(l:ϣ)(ws:ϥ)(wr:Int)(w:Ϣ):Prop where
 hV:w.heap[V]?=some (CR A N)
 hA:∃v calls,w.heap[A]?=some (AF κ N C v calls wr)/\w.ownsRow base 117 129 v ws.length (ws.flatMap wcs)/\(ws=[]->v=.slice none 0 0)
 hC:w.heap[C]?=some (ϲ (enc l) 115)
 gl:Gl w
 low:base<=w.heap.size
 fit:∀x∈ws,x.1<N/\x.2.length=128
 wl:ws.length<=100000
 len:N*128<=l.length
 N1:N<=1000
section
variable {V A N C base:Nat} {l:ϣ} {ws:ϥ} {wr:Int} {w w':Ϣ}
def Dk.AC(h:Dk κ V A N C base l ws wr w):C≠A:=by let⟨v,c,a,_⟩:=h.hA;exact CL h.hC a dC
def Dk.VA(h:Dk κ V A N C base l ws wr w):V≠A:=by let⟨v,c,a,_⟩:=h.hA;exact CL h.hV a dC
def Dk.VC(h:Dk κ V A N C base l ws wr w):V≠C:=CL h.hV h.hC dC
def Dk.sA(h:Dk κ V A N C base l ws wr w):A<w.heap.size:=by let⟨v,c,a,_⟩:=h.hA;exact U a
def Dk.qM3{L}(h:Dk κ V A N C base l ws wr w)(hK:Kp L w w')(b:Rd w L):Dk κ V A N C base l ws wr w':=by
 let⟨v,c,d,f,g⟩:=h.hA;exact⟨hK.heap h.hV (λa=>b _ a _ _ _ h.hV dC),⟨v,c,hK.heap d (λa=>b _ a _ _ _ d dC),BT f hK (λq hq c t fr e a=>b q hq c t fr e (by rw[mS a];decide)),g⟩,hK.heap h.hC (λa=>b _ a _ _ _ h.hC dC),h.gl.qM3 hK (λk hk c t fr e a=>b k hk c t fr e (by simp[DR]at a;rcases a with rfl | rfl<;>decide)),lT h.low hK.size,h.fit,h.wl,h.len,h.N1⟩
def Dk.qM4(h:Dk κ V A N C base l ws wr w)(hK:Kp [] w w'):Dk κ V A N C base l ws wr w':=h.qM3 hK (by intro k a;cases a)
def Dk.qO4{κ'}{v}{a b:Int}(h:Dk κ V A N C base l ws wr w)(p:κ'.quiet↔κ.quiet)(hK:Kp [A] w w')(f:w'.heap[A]?=some (AF κ' N C v a b))(g:w'.ownsRow base 117 129 v ws.length (ws.flatMap wcs))(i:ws=[]->v=.slice none 0 0):Dk κ' V A N C base l ws b w':=by
 let⟨q,c0,d,o,_⟩:=h.hA;exact⟨hK.heap h.hV (sU h.VA),⟨v,a,f,g,i⟩,hK.heap h.hC (sU h.AC),h.gl.qM3 hK (λk j c t n e m=>by rw[mS j,d]at e;cases e;revert m;decide),lT h.low hK.size,h.fit,h.wl,h.len,h.N1⟩
def Pn{v}{n:Nat}{xs:Ϩ}{calls:Int}{v0}(h:w.ownsRow base 117 129 v n xs)(a:w.heap[A]?=some (AF κ N C v0 calls wr))(hK:Kp [A] w w'):w'.ownsRow base 117 129 v n xs:=
 BT h hK (λq b c t d e=>by rw[mS b,a]at e;cases e;decide)
end
def QJ{p:Prop}(_h:p:=by
 have HFIN:Hid (∀κ' W c,(κ'.quiet↔κ.quiet)->Kp [A] w W->W.heap[A]?=some (AF κ' N C v c wr)->Dk κ' V A N C base l ws wr W):=λκ' W c hq hK h1=>hd.qO4 hq hK h1 (Pn bn bf hK) bk;have HCC:Hid (∀κ' W c,W.heap[A]?=some (AF κ' N C v c wr)->cch W A=cch w A):=λκ' W c h1=>by rw[Eo h1,Eo bf]
 exact Tz.out):p:=_h
def OL{V A N C base:Nat}{l}{ws}{wr:Int}{w}(hd:Dk κ V A N C base l ws wr w)(i:Nat)(hi:i<N):
  Ω 247 #[ϖ V,ϊ i] w λe w'=>((Io κ e/\Dk κ.up V A N C base l ws wr w')\/(e=ϱ (.agg (enc (τ (laidAll l ws) i)))/\Dk κ V A N C base l ws wr w'))/\Kp [A] w w'/\cch w' A=cch w A:=by
 let⟨v,calls,bf,bn,bk⟩:=hd.hA;have x:=Cy N ws l hd.len hd.fit;have ai:=FB x hi;have z:=zh (λW hK=>
  qA5 A N C base v ws calls wr i l W (hK.hp bf) (BT bn hK (Apt.nil _ _)) hd.fit hd.wl hi hd.N1 (hK.hp hd.hC) hd.len hd.AC)
 have Tz:Hid (∀{p:Prop},(_h:p:=by
  have y:Hid (¬κ.quiet->∀W,Kp [A] w W->Gl W):=λhq W hK=>by
   exact hd.gl.qM3 hK (λk hk c t fr e hm=>by rw[List.mem_singleton.1 hk,bf]at e;cases e;revert hm;decide)
  have c0:=Y hd.hV 0;simp at c0;have:=U hd.hV;have:=U bf;have E:i<=1000000:=by have:=hd.N1;omega
  generalize laidAll l ws=L at *;clear bf bn bk x;go_enter func247,ntmps247;go_wp2_with fail;refine(z _ ((Kp.refl _ _).alloc _)).mono ?_;rintro e w1 ⟨(⟨hq,rfl,f⟩|⟨g,rfl,hg,hG,f⟩),hK1⟩
  .have hK2:Kp [A] w w1:=((Kp.refl _ _).alloc _).tr hK1;have q:=y.out hq w1 hK2;have HE:=zh (n3 hq (HFIN κ.up w1 _ Kd.qQ8 hK2 f) (HCC _ _ _ f));unfold DH;clear f hq hK1 c0;go_wp2_with fail;refine(NL i E w1 q.is).mono ?_;rintro e w2 ⟨s,rfl,F,j⟩;have D:=q.qM3 j (by intro k hk;cases hk);go_wp2_with fail;refine(show Calls _ _ _ _ _ from Jo _ w2 D).mono ?_;rintro e w3 ⟨⟨p,rfl⟩,hK4⟩;go_wp2;have hKK:=j.tr hK4;exact⟨rfl,.inl ⟨⟨HE.1,p,rfl⟩,HE.2.1.qM4 hKK⟩,hK2.tr hKK,(Cg (hKK.block A HE.2.1.sA sM)).trans HE.2.2⟩
  let⟨a,bx⟩:=eY (τ L i);rw[bx]at hG ai;have hR:w1.heap[w.heap.size]?=some (ϲ zeroCells288 288):=hK1.heap (μ _ _) sO;have hK2:Kp [A] w w1:=((Kp.refl _ _).alloc _).tr hK1;have:w.heap.size+1<=g:=by simpa using hg
  have:=U hG;have:=U f;clear hK1 hg c0;go_wp2_with fail;have hN:=μ w1 (ϲ zeroCells288 288);rw[Fp (n:=128) 3 underlying118 Tryz.qQ7 rfl hN (ν _ hG) (by simp[CS]) (by rw[Bw];omega) (GL (Co _) _ _).one];rw[Dd,List.drop_zero,List.take_of_length_le oM,CY (by rw[CS,Bw,ai])];obtain⟨b,r,j,B,bq,hB3⟩:∃b,b=(w1.alloc (ϲ zeroCells288 288)).setRow w1.heap.size (enc a)/\Kp [A] w b/\b.heap[A]?=some (AF κ N C v (nx calls) wr)/\
    b.heap[w.heap.size]?=some (ϲ zeroCells288 288)/\b.heap[w1.heap.size]?=some (ϲ (enc a) 288):=
   ⟨_,rfl,(hK2.alloc _).setRow (Or.inr hK2.size) _,(setRow_other _ _ _ _ oM).trans (ν _ f),(setRow_other _ _ _ _ oM).trans (ν _ hR),setRow_heap _ _ _ _ _ _ hN⟩
  rw[<-r];clear r hN;have:Ad (enc a) 0 128=enc a:=by rw[Dd,List.drop_zero,List.take_of_length_le oM]
  have m:(enc a).size=128:=by rw[Bw,ai]
  go_wp2_with (
   with_reducible refine EO (t:=288) ?_ 128 ?_ w1.heap.size 0 ?_ (enc a) 288 (0,0) ?_ ?_ ?_
   .kernel_rfl
   .kernel_rfl
   .rfl
   .exact hB3
   .rw[Bw];omega)
  rw[DB bq (by simp[CS,m]) (Co a).one];rw[show(enc a).toList.toArray=enc a from by simp,CY (by rw[CS,m])];obtain⟨d,u,hK4,o,hR4⟩:∃d,d=b.setRow w.heap.size (enc a)/\Kp [A] w d/\d.heap[A]?=some (AF κ N C v (nx calls) wr)/\d.heap[w.heap.size]?=some (ϲ (enc a) 288):=
   ⟨_,rfl,j.setRow sM _,(setRow_other _ _ _ _ oM).trans B,setRow_heap _ _ _ _ _ _ bq⟩
  rw[<-u];clear u;go_wp2_with fail;exact bodyPost_ret (results_cell_row results247 _ _ w.heap.size _ _ _ _ rfl hR4 underlying288 rfl (by rw[m];kernel_rfl)) rfl ⟨.inr ⟨by rw[bx],HFIN κ d _ Iff.rfl hK4 o⟩,hK4,HCC _ _ _ o⟩)->p):=λh=>h;exact QJ
def KO{V A N C base:Nat}{l}{ws}{wr:Int}{w}(hd:Dk κ V A N C base l ws wr w):
  Ω 145 #[ϖ V] w λe w'=>(Io κ e/\Dk κ.up V A N C base l ws wr w'/\Kp [A] w w'/\cch w' A=cch w A)\/(e=ϱ (.tuple #[])/\Dk κ V A N C base (laidAll l ws) [] wr w'/\Kp [A,C] w w'):=by
 let⟨v,calls,bf,bn,bk⟩:=hd.hA;have d:=Hid.mk' (VN A N C base v ws calls wr l w bf bn hd.fit hd.wl hd.N1 hd.hC hd.len hd.AC);have Tz:Hid (∀{p:Prop},(_h:p:=by
  have f:Hid (¬κ.quiet->∀W,Kp [A] w W->Gl W):=λhq W hK=>by
   exact hd.gl.qM3 hK (λk hk c t fr e hm=>by rw[mS hk,bf]at e;cases e;revert hm;decide)
  have b:Hid (∀W,Kp [A,C] w W->W.heap[A]?=some (AF κ N C (.slice none 0 0) (nx calls) wr)->W.heap[C]?=some (ϲ (enc (laidAll l ws)) 115)->Dk κ V A N C base (laidAll l ws) [] wr W):=λW hK h1 h2=>by
   exact⟨hK.heap hd.hV (by simpa using⟨hd.VA,hd.VC⟩),⟨_,_,h1,wN _ _ _ _,λ_=>rfl⟩,h2,hd.gl.qM3 hK (λk hk c t fr e hm=>by
    simp at hk;rcases hk with rfl|rfl
    .rw[bf]at e;cases e;revert hm;decide
    .rw[hd.hC]at e;cases e;revert hm;decide),lT hd.low hK.size,sM,sM,Cy N ws l hd.len hd.fit,hd.N1⟩
  have c0:=Y hd.hV 0;simp at c0;clear bf bn bk;go_enter func145,ntmps145;go_wp2_with fail;refine(d).mono ?_;rintro e w1 (⟨hq,rfl,a,hK1⟩|⟨rfl,a,g,hK1⟩)
  .have i:=f.out hq w1 hK1;have HE:=zh (n3 hq (HFIN κ.up w1 _ Kd.qQ8 hK1 a) (HCC _ _ _ a));have HF:=Hid.mk' (λs=>Jo s w1 i);unfold DH at HF |-;go_wp2_with fail;refine(show Calls _ _ _ _ _ from HF _).mono ?_;rintro e w3 ⟨⟨p,rfl⟩,hK4⟩;go_wp2;exact⟨rfl,.inl ⟨⟨HE.1,p,rfl⟩,HE.2.1.qM4 hK4,hK1.tr hK4,(Cg (hK4.block A HE.2.1.sA sM)).trans HE.2.2⟩⟩
  have HE:=Hid.mk' (b w1 hK1 a g);go_wp2
  go_end0
  exact .inr ⟨rfl,HE,hK1⟩)->p):=λh=>h;exact QJ
variable {κ:Kd}
def PS{V A N C base:Nat}{l}{ws}{wr:Int}{w}(a:Dk κ V A N C base l ws wr w)(i:Nat)(T:i<N)(bl)(R:bl.length=128)(ak:ws.length<100000):
  Ω 208 #[ϖ V,ϊ i,.agg (enc bl)] w λe w'=>((Io κ e/\Dk κ.up V A N C base l ws wr w')\/(e=ϱ (.tuple #[])/\Dk κ V A N C base l (ws++[(i,bl)]) (nx wr) w'))/\Wr base A w w'/\Kp (A::cch w A) w w'/\(∀k∈cch w' A,k∈cch w A\/w.heap.size<=k):=by
 let⟨v,calls,q,O,M⟩:=a.hA;have:(enc bl).size=128:=by rw[Bw,R]
 have X:Ad (enc bl) 0 128=enc bl:=by rw[Dd,dZ,tL oM]
 have S:List.flatMap wcs [(i,bl)]=.int .i64 (i:Int)::(enc bl).toList:=by simp[wcs,enc]
 have Z:Hid (∀W B,Kp [] w W->Ϙ W B (ϲ (enc bl) 288)->w.heap.size<=B->Ω 328 #[ϖ A,ϊ i,ϑ B 0 128 128] W λe w'=>∃t,e=ϱ t/\((¬κ.quiet/\t=DH/\Dk κ.up V A N C base l ws wr w')\/(t=.nilIface/\Dk κ V A N C base l (ws++[(i,bl)]) (nx wr) w'))/\Wr base A w w'/\Kp (A::cch w A) w w'/\(∀k∈cch w' A,k∈cch w A\/w.heap.size<=k)):=λW B hK hB hBs=>by
  rw[Eo q];have u:=hK.hp q;have P:=BT O hK (Apt.nil _ _);have f:=a.qM4 hK;apply(qL4 A N C v base ws.length (ws.flatMap wcs) calls wr i B 0 128 (enc bl) 288 W u T a.N1 hB oM (Co bl) (oW (U q)) P f.low a.wl).mono;rintro e w' (⟨F,rfl,o,d⟩|⟨rfl,v',o,I,n,ae,af⟩)
  .exact⟨_,rfl,.inl ⟨F,rfl,f.qO4 Kd.qQ8 d o (Pn P u d) M⟩,(Wr.qP2 (hK.mono sM) a.low).trans (Wr.qP2 d f.low),(hK.mono sM).trans d (by simp +contextual),λk j=>.inl (by rw[Eo o]at j;exact j)⟩
  .refine⟨_,rfl,.inr ⟨rfl,?_⟩,(Wr.qP2 (hK.mono sM) a.low).trans n,(hK.mono sM).trans ae (λ_ h _=>h),λk j=>by
    rw[Eo I]at j;rcases af k (sU j) with h|h
    .exact .inl (by simp[h])
    .exact .inr (oW hK.size)⟩
   rw[X]at o;refine⟨n.oth _ _ _ _ f.hV dC a.VA,⟨v',_,I,by rw[lA,fA,S];exact o,sM⟩,n.oth _ _ _ _ f.hC dC a.AC,?_,lT f.low n.size,?_,sO,a.len,a.N1⟩
   .have g:=f.gl;let⟨fr,G⟩:=g.tab;let⟨c,aa,s,H,g3⟩:=g.word;exact⟨⟨fr,n.oth _ _ _ _ G dC (CL G u dC)⟩,⟨c,aa,s,n.oth _ _ _ _ H dC (CL H u dC),g3⟩⟩
   .intro x r;rcases mA r with r|r
    .exact a.fit x r
    .rw[mS r];exact⟨T,R⟩
 have:=zh a.low;have:=U a.hV;have:=U q;have ag:i<=1000000:=by have:=a.N1;omega
 have:∀W:World,(method 513 27 (ϖ A) "Write").run prog W=.ok (328,ϖ A) W:=λ_=>by kernel_rfl
 clear q O M S X;go_enter func208,ntmps208;go_wp2_with fail;let⟨W1,Q,ab,d,aj⟩:=AZ w (ϲ (enc bl) 288);rw[<-Q];clear Q;have c0:=Y (d.hp a.hV) 0;simp at c0
 go_region_with (go_at_call 328;go_must (apply(Z W1.drew w.heap.size d.drew ab lR).mono);rintro e w2 ⟨t,rfl,ah,D,z,E⟩)
 rcases ah with⟨F,rfl,m⟩|⟨rfl,m⟩
 .have K:=m.gl;have b:=zh (n6 F m D z E m.sA);unfold DH;go_wp2_with fail;apply(NL i ag w2 K.is).mono;rintro e w3 ⟨s,rfl,ai,L⟩;have ac:=K.qM3 L (by intro k j;cases j);go_wp2_with fail;apply(show Calls _ _ _ _ _ from Jo _ w3 ac).mono;rintro e w4 ⟨⟨p,rfl⟩,ad⟩;go_wp2;have y:=L.tr ad;exact⟨rfl,.inl ⟨⟨b.1,p,rfl⟩,b.2.1.qM4 y⟩,b.2.2.1.trans (Wr.qP2 (y.mono sM) b.2.1.low),b.2.2.2.1.tr y,by rw[Cg (y.block A b.out.2.2.2.2.2 sM)];exact b.2.2.2.2.1⟩
 have b:=zh (n4 m D z E);clear m D z E c0;go_wp2
 go_end0
 exact⟨.inr ⟨rfl,b.1⟩,b.2⟩
variable {κ:Kd}
def YO{V A N C base:Nat}{l}{ws}{wr:Int}(i:Nat)(q:Nat)(a:Int)(vp vl)(ps)(hs)(w)
  (o:w.heap[q]?=some (Ai a vp vl)) (F:0<=a) (G:a<256)
  (T:Slc w 185 2 vp ps.length (Aa ps)) (S:Slc w 87 4 vl hs.length (Ag hs)) (H:2+qM2 ζ ps+qM2 ψ hs<=128) (E:ps.length+hs.length<=255)
  (K:∀p∈ps,AD p) (I:∀p∈hs,p.key.size<=8/\0<=p.b/\p.b<=1000000/\0<=p.s)
  (n:Dk κ V A N C base l ws wr w) (ai:ws.length<100000) (hi:i<N):
  Ω 240 #[ϖ q,ϖ V,ϊ i] w λe w'=>((Io κ e/\Dk κ.up V A N C base l ws wr w')\/(e=ϱ (.agg #[ϊ i,.int .u64 (fnv (Ab a ps hs))])/\
   Dk κ V A N C base l (ws++[(i,toB (Ab a ps hs))]) (nx wr) w'))/\Wr base A w w':=by
 have D:=Cd a ps hs F G E K (λp hp=>(I p hp).1);have m:=Ea a ps hs H;have s:=zh (λW hK=>
  Jb q a vp vl ps hs W (hK.hp o) F G (T.qM4 hK) (S.qM4 hK) H E K I)
 let⟨xs,r⟩:=eX (Ab a ps hs);rw[<-r]at D m s;have:=zh r;rw[<-r];have:=n.sA;have:=U n.hV;have B:=n.low;clear o T S H E K I F G r;have Q:(u8s xs).toArray=enc (toB xs):=by unfold enc;rw[MV xs D]
 rw[Q]at s;clear Q;go_enter func240,ntmps240;go_wp2_with fail;let⟨w0,X,ac,L,aj⟩:=AZ w (ϲ #[ϊ 0,.int .u64 0] 84);rw[<-X];clear X;refine(s w0 L).mono ?_;rintro e b ⟨rfl,x⟩;have y:=L.tr x;have O:=x.hp ac;have:=x.size;have R:(enc (toB xs)).size=128:=by rw[Bw,BG,m]
 go_wp2_with fail;have z:=μ b (ϲ zeroCells288 288);rw[DB z (by simp[CS,R]) (Co _).one];rw[show(enc (toB xs)).toList.toArray=enc (toB xs) from by simp,CY (by rw[CS,R])];obtain⟨d,Z,u,P,k,ah⟩:∃d,d=(b.alloc (ϲ zeroCells288 288)).setRow b.heap.size (enc (toB xs))/\d.heap[b.heap.size]?=some (ϲ (enc (toB xs)) 288)/\d.heap[w.heap.size]?=some (ϲ #[ϊ 0,.int .u64 0] 84)/\Kp [] w d/\d.heap.size=b.heap.size+1:=
  ⟨_,rfl,setRow_heap _ _ _ _ _ _ z,(setRow_other _ _ _ _ oM).trans (ν _ O),(y.alloc _).setRow (Or.inr (by have:=y.size;omega)) _,sM⟩
 rw[<-Z];clear Z z O;have ag:Ad (enc (toB xs)) 0 128=enc (toB xs):=by rw[Dd,List.drop_zero,List.take_of_length_le (by rw[BG];omega)]
 go_wp2_with (
  with_reducible refine EO (t:=288) ?_ 128 ?_ b.heap.size 0 ?_ (enc (toB xs)) 288 (0,0) ?_ ?_ ?_
  .kernel_rfl
  .kernel_rfl
  .rfl
  .exact u
  .omega)
 refine(PS (n.qM4 k) i hi (toB xs) (by rw[BG,m]) ai).mono ?_;rintro e w3 ⟨(⟨ae,h⟩|⟨rfl,h⟩),g,_,_⟩
 .obtain⟨af,p,rfl⟩:=ae;go_wp2;exact⟨rfl,.inl ⟨⟨af,p,rfl⟩,h⟩,(Wr.qP2 (k.mono sM) B).trans g⟩
 have:=ah;have v:=g.oth _ _ _ _ u dC oM;have f:=g.oth _ _ _ _ P dC oM;have aa:=zh h;have ab:=zh ((Wr.qP2 (k.mono sM) B).trans g);have:=U f;have:=U v;clear h g u P ag k y;go_wp2_with fail;refine(Ir b.heap.size 0 128 128 xs w3 m oM (λj hj=>?_)).mono ?_
 .rw[Y v];unfold enc;rw[<-IA xs D];simp only[Nat.zero_add,zG,u8s,List.getElem?_map,List.getD];rw[List.getElem?_eq_getElem oM];rfl
 rintro e w4 ⟨rfl,rfl⟩;have:=Y f;have:=ρ f;clear v;go_wp2;have M:Kp [w.heap.size] w4 ((w4.setCell (ϰ w.heap.size 0) (ϊ (i:Int))).setCell (ϰ w.heap.size 1) (.int .u64 (fnv xs))):=((Kp.refl _ _).sc _).sc _;have ad:=ξ (ξ f 0 (ϊ (i:Int))) 1 (.int .u64 (fnv xs));refine bodyPost_ret (results_cell_row results240 _ _ w.heap.size 84 #[ϊ (i:Int),.int .u64 (fnv xs)] (0,0) _ rfl ad underlying84 rfl kR) rfl ⟨.inr ⟨rfl,aa.qM3 M (λq o c t fr e=>by rw[List.mem_singleton.1 o,f]at e;cases e;decide)⟩,ab.tail M sM B⟩
def JR{X:Type}(f:Lnk X->Ϥ->Lnk X×ϥ×Ϥ)(g:Lnk X->Nat):∀(ls:List (Lnk X)) (a),(∀l∈ls,∀a:Ϥ,g l<=a.length->(f l a).2.1.map Prod.fst=a.take (g l)/\(f l a).2.2=a.drop (g l))->qM2 g ls<=a.length->(Aj f ls a).2.1.map Prod.fst=a.take (qM2 g ls)
 | [],a,_,_=>by simp[Aj,AJ]
 | l::ls,a,h,hm=>by
  rw[Au]at hm |-;let⟨c,b⟩:=h l sM a oM;simp[Aj,List.map_append];rw[JR f g ls _ (λx d=>h x (by simp[d])) (by rw[b,lD];omega),c,b,List.take_add]
def FV:∀(n:Nat)(l)(a),news n l<=a.length->(φ n l a).2.1.map Prod.fst=a.take (news n l)
 | 0,l,a,h=>by
  by_cases c:l.ref.isSome=true
  .simp only[φ,news,if_pos c,List.map_nil,List.take_zero]
  .simp only[φ,news,if_neg c]at h |-
   cases a with
   | nil=>simp at h
   | cons b a=>simp
 | n+1,l,a,h=>by
  by_cases c:l.ref.isSome=true
  .simp only[φ,news,if_pos c,List.map_nil,List.take_zero]
  .simp only[φ,news,if_neg c]at h |-;have d:=JR (φ n) (news n) (J l.sub) a (λl _ a f=>⟨FV n l a f,CJ n l a⟩) (by have:qM2 (λm=>news n m) (J l.sub)=qM2 (news n) (J l.sub):=rfl;omega);rw[List.map_append,d,Du (φ n) (news n) (J l.sub) a (λl _ a=>CJ n l a)];simp only[List.map_cons,List.map_nil];have e:qM2 (λm=>news n m) (J l.sub)=qM2 (news n) (J l.sub):=rfl;rw[e]at h |-;generalize qM2 (news n) (J l.sub)=k at h |-;rw[Nat.add_comm 1 k,tA oM,dG oM];rfl
def JV:∀(n:Nat)(l)(c),OkL n l->∀x∈(φ n l c).2.1,x.2.length=128
 | 0,l,c,h,x,b=>by
  by_cases d:l.ref.isSome=true
  .simp[φ,if_pos d]at b
  .simp[φ,if_neg d,List.mem_singleton]at b;let⟨j,e,k⟩:=h.2 (sU d);rw[b];simp[BG];exact Ea 0 _ [] (by simpa [AJ] using e)
 | n+1,l,c,h,x,b=>by
  by_cases d:l.ref.isSome=true
  .simp[φ,if_pos d]at b
  .simp[φ,if_neg d,List.mem_append,List.mem_singleton]at b;let⟨j,e,k,o⟩:=h.2 (sU d);rcases b with b|b
   .have g:∀(ls:List (Lnk (Tn n))) (c:List Nat),(∀m∈ls,OkL n m)->∀x∈(Aj (φ n) ls c).2.1,x.2.length=128:=by
     intro ls
     induction ls with
     | nil=>intro c _ x b;simp[Aj]at b
     | cons a ls ih=>
      intro c f x b;simp[Aj,List.mem_append]at b;rcases b with b|b
      .exact JV n a c (f a sM) x b
      .exact ih _ (λm i=>f m (by simp[i])) x b
    exact g _ c e x b
   .rw[b];simp[BG];exact Ea _ [] _ (by rw[Hp,AJ];omega)
def JU:∀(n:Nat)(l)(b),cont n (φ n l b).1.sub=cont n l.sub
 | 0,l,b=>by
  by_cases c:l.ref.isSome=true
  .simp[φ,if_pos c]
  .simp[φ,if_neg c]
 | n+1,l,b=>by
  by_cases c:l.ref.isSome=true
  .simp[φ,if_pos c]
  .simp[φ,if_neg c];have d:∀(ls)(b),(Aj (φ n) ls b).1.flatMap (λm=>cont n m.sub)=ls.flatMap (λm=>cont n m.sub):=by
    intro ls
    induction ls with
    | nil=>intro b;rfl
    | cons a ls ih=>
     intro b;simp[Aj,fC,ih,JU n a b]
   exact d _ b
variable {κ:Kd}
structure LyF(κ:Kd)(wn:Int)(V A N C base F:Nat)(l:ϣ)(ws:ϥ)(fr:Ϥ)(w:Ϣ):Prop where
 dk:Dk κ V A N C base l ws (nk wn ws.length) w
 hF:∃vf,w.heap[F]?=some (ϲ #[vf] 24)/\Slc w 3 1 vf fr.length (ints fr)
def LyX(κ:Kd)(wn:Int)(V A N C base:Nat)(l:ϣ)(ws:ϥ)(fr:Ϥ)(k:Nat)(e:Ending)(w:Ϣ):Prop:=
 Io κ e/\∃a,Dk κ.up V A N C base l a (nk wn a.length) w/\(∀x∈a,x∈ws\/x.1∈fr)/\a.length<=ws.length+k
section
variable {wn:Int} {V A N C base F:Nat} {l:ϣ} {ws:ϥ} {fr:Ϥ} {w w':Ϣ}
def LyF.low(h:LyF κ wn V A N C base F l ws fr w):base<=w.heap.size:=h.dk.low
def LyF.sF(h:LyF κ wn V A N C base F l ws fr w):F<w.heap.size:=by let⟨b,a,_⟩:=h.hF;exact U a
def LyF.qM3(h:LyF κ wn V A N C base F l ws fr w)(hK:Kp [] w w'):LyF κ wn V A N C base F l ws fr w':=by
 let⟨c,a,b⟩:=h.hF;exact⟨h.dk.qM4 hK,⟨c,hK.hp a,b.qM4 hK⟩⟩
def LyF.qO4{S}(h:LyF κ wn V A N C base F l ws fr w)(hK:Kp S w w')(a:Apt w S (FH++[24,3])):LyF κ wn V A N C base F l ws fr w':=by
 let⟨i,d,f⟩:=h.hF;exact⟨h.dk.qM3 hK (λk g c t fr e b=>a k g c t fr e (List.mem_append_left _ b)),⟨i,hK.heap d (λb=>a _ b _ _ _ d dC),f.qM3 hK (a.sub dC)⟩⟩
def LyF.apt(h:LyF κ wn V A N C base F l ws fr w):Apt w [A,F] Bi:=λq a c t f e=>by
 let⟨v,calls,b,g,_⟩:=h.dk.hA;let⟨j,d,i⟩:=h.hF;rcases List.mem_cons.1 a with rfl|a
 .rw[b]at e;cases e;decide
 .rw[mS a,d]at e;cases e;decide
end
def LyF.next{wn:Int}{V A N C base F b:Nat}{l}{ws}{fr}{w}(h:LyF κ wn V A N C base F l ws (b::fr) w)(i:fr.length<=100000):
  Ω 175 #[ϖ F] w λe w'=>e=ϱ (ϊ b)/\LyF κ wn V A N C base F l ws fr w'/\Wx base [A,F] w w':=by
 let⟨m,a,d⟩:=h.hF;refine mR (YN F b fr m w a d i) ?_;rintro w' ⟨k,f,g,hK⟩;exact⟨rfl,⟨h.dk.qM3 hK (λq j c t fr e=>by rw[mS j,a]at e;cases e;decide),⟨k,f,g⟩⟩,Wx.qP2 (hK.mono sM) h.low⟩
def LyF.lay{wn:Int}{V A N C base F i:Nat}{l}{ws}{fr}{w}(h:LyF κ wn V A N C base F l ws fr w)(E:ws.length<100000)(s:i<N)
  (q:Nat) (a:Int) (vp vl) (ps) (hs) (z:w.heap[q]?=some (Ai a vp vl)) (u:0<=a) (x:a<256)
  (D:Slc w 185 2 vp ps.length (Aa ps)) (B:Slc w 87 4 vl hs.length (Ag hs)) (y:2+qM2 ζ ps+qM2 ψ hs<=128) (r:ps.length+hs.length<=255)
  (H:∀p∈ps,AD p) (G:∀p∈hs,p.key.size<=8/\0<=p.b/\p.b<=1000000/\0<=p.s):
  Ω 240 #[ϖ q,ϖ V,ϊ i] w λe w'=>((Io κ e/\Dk κ.up V A N C base l ws (nk wn ws.length) w')\/(e=ϱ (.agg #[ϊ i,.int .u64 (fnv (Ab a ps hs))])/\
   LyF κ wn V A N C base F l (ws++[(i,toB (Ab a ps hs))]) fr w'))/\Wx base [A,F] w w':=by
 let⟨P,f,j⟩:=h.hF;let⟨v,calls,d,_⟩:=h.dk.hA;refine(YO i q a vp vl ps hs w z u x D B y r H G h.dk E s).mono ?_;rintro e w' ⟨(⟨t,c⟩|⟨rfl,c⟩),b⟩
 .exact⟨.inl ⟨t,c⟩,Wx.of b sM⟩
 have o:=CL f d dC;refine⟨.inr ⟨rfl,⟨by rw[lA];exact c,⟨P,b.oth _ _ _ _ f dC o,j.len,?_⟩⟩⟩,Wx.of b sM⟩;rcases j.val with n|⟨g,O,cap,cur,m,I,K,L,k,M⟩
 .exact Or.inl n
 .exact Or.inr ⟨g,O,cap,cur,m,I,K,L,b.oth _ _ _ _ k dC (CL k d dC),M⟩
def LyX.of{wn:Int}{V A N C base:Nat}{l}{ws a}{fr}{k:Nat}{e:Ending}{w}(c:Io κ e)(b:Dk κ.up V A N C base l a (nk wn a.length) w)(f:∀x∈a,x∈ws\/x.1∈fr)(d:a.length<=ws.length+k):LyX κ wn V A N C base l ws fr k e w:=⟨c,a,b,f,d⟩
def LyX.zA9{wn:Int}{V A N C base:Nat}{l}{ws a}{fr fr1}{k c:Nat}{e:Ending}{w}(h:LyX κ wn V A N C base l a fr1 c e w)(m:∀x∈a,x∈ws\/x.1∈fr)(j:∀b∈fr1,b∈fr)(q:a.length+c<=ws.length+k):LyX κ wn V A N C base l ws fr k e w:=by
 let⟨d,o,f,i,p⟩:=h;exact⟨d,o,f,λx n=>(i x n).elim (m x) (λg=>.inr (j _ g)),oM⟩
def XJ(wn:Int)(V A N C base F:Nat)(l:ϣ)(ws:ϥ)(fr:Ϥ)(b:Nat)(r h:HL)(q:Nat)(O:AS)(L:Lnk (Tn 0))(w:Ϣ)(y:LyF κ wn V A N C base F l ws (b::fr) w)(hb:b<N)(a6:ws.length<100000)(a2:fr.length<=100000)(hp:h.p=some q)(k:RN O 0 w q L.sub)
  (hz:∀p∈prs L.sub,AD p) (hm:2+qM2 ζ (prs L.sub)<=128) (hn:(prs L.sub).length<=126):
  Ω 174 #[θ V r,Aw h,.func (.func 175) #[] #[ϖ F]] w λe w'=>(LyX κ wn V A N C base l ws (b::fr) 1 e w'\/(e=ϱ (Aw ⟨h.key,(b:Int),fnv (Ab 0 (prs L.sub) []),none⟩)/\
   LyF κ wn V A N C base F l (ws++[(b,toB (Ab 0 (prs L.sub) []))]) fr w'))/\Wx base [A,F] w w':=by
 let⟨vp,k,ae⟩:=k;obtain⟨m,n,rfl⟩:=Df ae;let⟨o,T⟩:=eX ((prs L.sub).length);obtain⟨f,ac⟩:∃f:Int,f=0:=⟨_,rfl⟩;let⟨vl,af⟩:=eX (Value.slice none 0 0);rw[<-ac,<-af,<-T]at k;rw[<-T]at ae;have u:=zh (n3 T ac af);clear T ac af;have:=U k;have al:h.ptr=some (ϰ q 0):=by simp[HL.ptr,hp]
 rw[θ,Aw,al];clear hp al;go_enter func174,ntmps174;go_wp2_with fail;let⟨H,ag,aj,ai,aa,Z,ad⟩:=FA w (ϲ (ϟ V r) 89) (ϲ #[ϕ h.key,ϊ h.b,.int .u64 h.s,ϖ q] 87) (ϲ Cf 87);unfold Cf at aa ag;rw[<-ag];clear ag;have d:H.drew.heap[w.heap.size+1]?=some (ϲ #[ϕ h.key,ϊ h.b,.int .u64 h.s,ϖ q] 87)/\Ϙ H.drew q (Ai f (ϒ m o n) vl):=⟨ai,Z.hp k⟩;refine wp_region_held_drew (S:=λW=>W.heap[w.heap.size+1]?=some (ϲ #[ϕ h.key,ϊ h.b,.int .u64 h.s,ϖ q] 87)/\Ϙ W q (Ai f (ϒ m o n) vl)) kR d (λ_=>?_);apply zU 0 (ϗ (some (ϰ (w.heap.size+1) 3))) d;apply zV 1 (ϖ q) rfl (λW a=>by have:=ϻ a.1 3;clear a;go_simp) d;apply zV 2 (ϖ q) rfl (λW a=>by have:=U a.2;clear a;go_simp) d;apply zP 3 q 0 d;refine zV 4 (ϊ f) rfl (λW a=>by have:=ϻ a.2 0;clear a;go_simp) d ?_;apply zU 5 (ϗ (some (ϰ (w.heap.size+1) 3))) d;refine zV 6 (ϖ q) rfl (λW a=>by have:=ϻ a.1 3;clear a;go_simp) d ?_;refine zV 7 (ϖ q) rfl (λW a=>by have c:=U a.2;clear a;go_simp) d ?_;apply zP 8 q 1 d;apply zV 9 (ϒ m o n) rfl (λW a=>by have:=ϻ a.2 1;clear a;go_simp) d;apply zU 10 (.agg #[ϊ f,ϒ m o n,ϒ none 0 0]) d;refine zq 11 λK hK=>?_;go_simp;obtain⟨s,ah,D,B⟩:∃s,s=(H.alloc (ϲ #[ϊ 0,ϒ none 0 0,ϒ none 0 0] 213)).drew/\s.heap[w.heap.size+3]?=some (ϲ #[ϊ 0,ϒ none 0 0,ϒ none 0 0] 213)/\Kp [] H s:=⟨_,rfl,by rw[<-ad];exact μ H _,(kF.alloc _).drew⟩;rw[<-ah];have a5:s.heap.size=w.heap.size+4:=by rw[ah];simp[ad]
 clear ah;refine hK.out _ _ ⟨B.hp d.1,B.hp d.2⟩ (λ_=>?_)
 try simp[zZ]
 refine zq 12 λK hK=>?_;have z0:=Y D;have X:=ρ D;have au:=U D;go_simp;obtain⟨g,am,av,M⟩:∃g,g=((s.setCell (ϰ (w.heap.size+3) 0) (ϊ f)).setCell (ϰ (w.heap.size+3) 1) (ϒ m o n)).setCell (ϰ (w.heap.size+3) 2) (ϒ none 0 0)/\g.heap[w.heap.size+3]?=some (Ai f (ϒ m o n) (ϒ none 0 0))/\Kp [w.heap.size+3] s g:=
  ⟨_,rfl,ξ (ξ (ξ D 0 _) 1 _) 2 _,((kF.sc _).sc _).sc _⟩
 rw[<-am];clear am z0 X;have Q:=(Z.tr B).tr M;have z:=B.trans M sO;have v:=And.intro (z.hp d.1) (z.hp d.2);refine hK.out _ _ v (λ_=>?_);refine zd ?_
 try simp[zZ]
 have:w.heap.size+4<=g.heap.size:=by have:=M.size;omega
 have az:=z.hp aj;have aw:=z.hp aa;have:=ϻ v.1 3;have q2:=ϻ v.2 2;have ao:=zh v.1;have:=U v.2;clear d v z M B Z aj ai aa D au a5 ad;rw[u.out.2.2]at q2;have:=y.dk.sA;have:=y.sF;go_wp2_with fail;apply wp_loop_rounds 1;rw[rounds_succ];go_wp2_with fail;have I:=zh (y.qM3 Q);have i:g.drew.heap[w.heap.size+1]?=some (ϲ #[ϕ h.key,ϊ h.b,.int .u64 h.s,ϖ q] 87)/\Ϙ g.drew w.heap.size (ϲ (ϟ V r) 89):=⟨ao,az⟩;refine wp_region_held_drew (S:=λW=>W.heap[w.heap.size+1]?=some (ϲ #[ϕ h.key,ϊ h.b,.int .u64 h.s,ϖ q] 87)/\Ϙ W w.heap.size (ϲ (ϟ V r) 89)) kR i (λ_=>?_);refine zU 0 (ϖ (w.heap.size+1)) i ?_;apply zV 1 (ϕ h.key) rfl (λW a=>by have:=ϻ a.1 0;clear a;go_simp) i;refine zP 2 w.heap.size 0 i ?_;refine zV 3 (ϖ V) rfl (λW a=>by have:=ϻ a.2 0;clear a;go_simp) i ?_;refine zU 4 (.func (.func 175) #[] #[ϖ F]) i ?_;refine zq 5 λK hK=>?_;have a1:=ME;go_simp;refine mR ((I.qM3 ((Kp.refl _ g).drew)).next a2) ?_;rintro w3 ⟨a7,j⟩;have ab:=And.intro (j.oth _ _ _ _ i.1 dC sO) (j.oth _ _ _ _ i.2 dC sO);have ax:=j.oth _ _ _ _ aw dC sO;have:=j.size;refine hK.out _ _ ab (λ_=>?_);clear hK K a1
 try simp[zZ]
 refine zq 6 λK hK=>?_;go_simp;refine(a7.lay a6 hb (w.heap.size+3) f (ϒ m o n) (ϒ none 0 0) (prs L.sub) [] (j.oth _ _ _ _ av dC sO) (oW u.out) (oW u.out) (by have h:=((ae.qM4 Q).qM4 ((Kp.refl _ g).drew)).wx j dC ((I.qM3 ((Kp.refl _ g).drew)).apt.sub dC);rw[u.out.1]at h |-;exact h) ⟨rfl,Or.inl ⟨rfl,none,0,rfl,λ_=>rfl⟩⟩ (by simpa [AJ] using hm) sO hz sM).mono ?_;rintro e w4 ⟨(⟨a3,ar⟩|⟨rfl,a8⟩),G⟩
 .obtain⟨a4,p,rfl⟩:=a3;go_wp2;exact⟨rfl,.inl (LyX.of ⟨a4,p,rfl⟩ ar (λx hx=>.inl hx) oM),((Wx.qP2 (Q.mono sM) y.low).trans (((Wx.qP2 (Kp.mono (S:=[]) ((Kp.refl _ g).drew) sM) I.low).trans j).trans G))⟩
 have R:=And.intro (G.oth _ _ _ _ ab.1 dC sO) (G.oth _ _ _ _ ab.2 dC sO);have E:=G.oth _ _ _ _ ax dC sO;refine zk hK R ?_
 apply zU 7 (.agg #[ϕ h.key,ϊ b,.int .u64 (fnv (Ab f (prs L.sub) [])),ϗ none]) R;refine zq 8 λK hK=>?_;have z0:=Y E;have X:=ρ E;have:=U E;have ak:=Ez (ϕ h.key) (ϊ (b:Int)) (.int .u64 (fnv (Ab f (prs L.sub) []))) (ϗ none) E;go_simp;let⟨w5,an,ay,P⟩:=gE ak;rw[<-an];clear an ak z0 X;refine hK.out _ _ ⟨P.hp R.1,P.ho R.2⟩ (λ_=>?_);refine zd ?_
 try simp[zZ]
 have a0:Apt w4 [w.heap.size+1+1] (FH++[24,3]):=λq k c t fr e=>by rw[mS k,E]at e;cases e;decide
 have aq:=zh (a8.qO4 P a0);have ap:=zh (((Wx.qP2 (Q.mono sM) y.low).trans (((Wx.qP2 (Kp.mono (S:=[]) ((Kp.refl _ g).drew) sM) I.low).trans j).trans G)).tail P sO y.low);go_wp2_with fail;exact bodyPost_ret (results_cell_row results174 _ _ (w.heap.size+1+1) 87 #[ϕ h.key,ϊ (b:Int),.int .u64 (fnv (Ab f (prs L.sub) [])),ϗ none] (0,0) _ rfl ay underlying87 rfl kR) rfl ⟨.inr ⟨by simp[Aw,HL.ptr,u.out.2.1,Option.map_none],by have h:=aq.out;rw[u.out.2.1]at h;exact h⟩,ap⟩
def Fx(κ:Kd)(wn:Int)(V A N C base F:Nat)(l:ϣ)(O:AS)(n:Nat):Prop:=∀(h r:HL) (L:Lnk (Tn n)) (fr:Ϥ) (ws:ϥ) (w:Ϣ),LyF κ wn V A N C base F l ws fr w->RL O n w h L->OkL n L->news n L<=fr.length->(∀b∈fr,b<N)->ws.length+fr.length<=100000->
 Ω 174 #[θ V r,Aw h,DZ F] w λe w'=>(LyX κ wn V A N C base l ws fr (news n L) e w'\/(e=ϱ (Aw (lhl (φ n L fr).1))/\LyF κ wn V A N C base F l (ws++(φ n L fr).2.1) (φ n L fr).2.2 w'))/\Wx base [A,F] w w'
def XH(wn:Int)(V A N C base F:Nat)(l)(O:AS):Fx κ wn V A N C base F l O 0:=by
 intro h r L fr ws w d m t j p i
 cases hx:L.ref with
 | some x=>
  have n:L.ref.isSome:=by rw[hx];rfl
  let⟨c,o⟩:=Kt m n;have e:φ 0 L fr=(L,[],fr):=by simp[φ,if_pos n]
  rw[e];apply mR (JX V r h (DZ F) w c);rintro w' hK;exact⟨.inr ⟨by rw[<-o],sU (d.qM3 hK)⟩,Wx.qP2 (hK.mono sM) d.low⟩
 | none=>
  let⟨s,q,c,u⟩:=Kj m hx;have k:¬L.ref.isSome=true:=by rw[hx];simp
  have f:news 0 L=1:=by simp[news,if_neg k]
  cases fr with
  | nil=>rw[f]at j;simp at j
  | cons b fr=>
   let⟨v,y,z⟩:=t.2 hx;have e:φ 0 L (b::fr)=(⟨L.key,some (b,fnv (Ab 0 (prs L.sub) [])),L.sub⟩,[(b,toB (Ab 0 (prs L.sub) []))],fr):=by simp[φ,if_neg k,List.headD_cons,List.tail_cons]
   rw[e];refine(XJ wn V A N C base F l ws fr b r h q O L w d (p b sM) (by simp at i;omega) (by simp at i;omega) c u v y z).mono ?_;rintro e w' ⟨(a|⟨rfl,a⟩),g⟩
   .exact⟨.inl (by rw[f];exact a),g⟩
   exact⟨.inr ⟨by simp[lhl,s,Option.getD_some],a⟩,g⟩
variable {κ:Kd}
def Oh(n:Nat)(ls)(a)(b:qM2 (news n) ls<=a.length):∀x∈(Aj (φ n) ls a).2.1,x.1∈a:=λx hx=>by
 have:x.1∈(Aj (φ n) ls a).2.1.map Prod.fst:=List.mem_map_of_mem hx;rw[JR (φ n) (news n) ls a (λl _ a h=>⟨FV n l a h,CJ n l a⟩) b]at this;exact mT this
def XI(wn:Int)(V A N C base F:Nat)(l:List UInt8)(O:AS)(hO:∀(n b:Nat)(s:Int)(t:Tn n),O n b s t->b<=1000000/\0<=s)(n:Nat)(IH:Fx κ wn V A N C base F l O n)(dv:N<=1000)(h r:HL)(q:Nat)(L:Lnk (Tn (n+1)))(b:Nat)(a o:List Nat)(ws:List (Nat×List UInt8))(w:World)
  (hy:LyF κ wn V A N C base F l ws a w) (hp:h.p=some q) (M:RN O (n+1) w q L.sub) (ee:n+1<256) (bw:∀m∈J L.sub,OkL n m) (hm:2+qM2 ι (J L.sub)<=128) (eg:(J L.sub).length<=126)
  (hn:qM2 (news n) (J L.sub)<=a.length) (hf:∀b∈a,b<N) (hl:ws.length+a.length<=100000) (aj:(Aj (φ n) (J L.sub) a).2.2=b::o):
  Calls prog 174 #[θ V r,Aw h,DZ F] w λe w'=>(LyX κ wn V A N C base l ws a (1+qM2 (news n) (J L.sub)) e w'\/(e=.returned (Aw ⟨h.key,(b:Int),fnv (Ab ((n+1:Nat):Int) [] ((Aj (φ n) (J L.sub) a).1.map lhl)),none⟩)/\
   LyF κ wn V A N C base F l (ws++(Aj (φ n) (J L.sub) a).2.1++[(b,toB (Ab ((n+1:Nat):Int) [] ((Aj (φ n) (J L.sub) a).1.map lhl)))]) o w'))/\Wx base [A,F] w w':=by
 have Sy:Hid (∀{p:Prop},(_h:p:=by
  refine zq 6 λK hK=>?_;go_simp;let⟨w3,a7,bc,P,d7⟩:=AZ H (ϲ #[.string X.key,ϊ X.b,.int .u64 X.s,.pointer none] 87);rw[<-a7];clear a7;let⟨d,hd⟩:=eX H.heap.size;rw[<-hd]at bc |-;clear hd;have Q:=And.intro (P.hp B.1) (P.hp B.2);have bq:=P.hp ah;refine zk hK Q ?_
  exact Sz.out)->p):=λh=>h
 have Sz:Hid (∀{p:Prop},(_h:p:=by
  have d5:=BT a8.out ar.out (Apt.nil _ _);have da:=BT (Zv d5 E dC (bs.apt.sub dC)) P (Apt.nil _ _);refine zq 7 λK hK=>?_;refine Ip rfl rfl (.agg #[.string ⟨#[]⟩,ϊ 0,.int .u64 0,.pointer none]) 4 40 underlying156 EY rfl dC (w.heap.size+4) vj j _ (by simp[Act.eval]) da d 0 1 1 #[.string X.key,ϊ X.b,.int .u64 X.s,.pointer none] 87 (0,0) (by simp[Act.eval]) bc sM (by simp[Ad,Value.oneCell']) oM oM oM ?_;intro v4 w4 db d0 _;obtain⟨g1,bb,rfl⟩:=CN (n:=j) db;have ag:Kp vj.ownBlock.toList w3 w4:=(Kp.refl _ _).grown d0 (λk hk=>Or.inl (by simp[hk]));have bk:∀k,k<w.heap.size+4\/k=wr.heap.size->k∉vj.ownBlock.toList:=λk hk hm=>by
   have h1:=KA a8.out k (by simpa using hm);omega
  have ab:=And.intro (ag.heap Q.1 (bk _ oM)) (ag.heap Q.2 (bk _ (Or.inr rfl)));have az:=ag.heap bq (bk _ oM);have:=U az;refine zk hK ab ?_
  refine zU 8 (.pointer (some (ϰ (w.heap.size+3) 2))) ab ?_;refine zq 9 λK hK=>?_;have d2:=ϻ az 2;have e2:=ρ az 2;go_simp;have ae:Kp [w.heap.size+3] w4 (w4.setCell (ϰ (w.heap.size+3) 2) (.slice (some (ϰ g1 0)) (j+1) bb)):=(Kp.refl _ _).sc _;have a4:=ξ az 2 (.slice (some (ϰ g1 0)) (j+1) bb);have cz:∀{Ts:List TypeId},213∉Ts->Apt w4 [w.heap.size+3] Ts:=λhT q M c t o e=>by rw[List.mem_singleton.1 M,az]at e;cases e;exact hT
  generalize w4.setCell (ϰ (w.heap.size+3) 2) (.slice (some (ϰ g1 0)) (j+1) bb)=w5 at ae a4 |-;refine hK.out _ _ ⟨ae.hp ab.1,ae.ho ab.2⟩ (λ_=>?_);clear hK K d2 e2;refine zd ?_
  try simp only[zZ]
  have bn:Wx base [A,F] w w5:=((((af.out.trans ((Wx.qP2 (ar.out.mono sM) au.out.low).trans E)).tail P sM HY.out.low).tail ag (λk hk=>by have:=KA a8.out k (by simpa using hk);omega) HY.out.low).tail ae sM HY.out.low);have ea:=((dh.qM3 P).qO4 ag (Zt da dC)).qO4 ae (cz dC);have dt:∀k c t o,w3.heap[k]?=some (ϲ c t o)->k<w.heap.size+3->w5.heap[k]?=some (ϲ c t o):=λk c t o e hk=>ae.heap (ag.heap e (bk k oM)) sO;have b5:∀k c t o,wr.heap[k]?=some (ϲ c t o)->t≠117->w.heap.size<=k->k<w.heap.size+3->w5.heap[k]?=some (ϲ c t o):=λk c t o e ht h1 h2=>dt k c t o (P.heap (E.oth _ _ _ _ (ar.out.hp e) ht sO) sM) h2;show K0 _ w5;refine HREST g1 bb d w5 ⟨by have:=ae.size;have:=ag.size;omega,b5 _ _ _ _ ce.out dC oM oM,b5 _ _ _ _ bp.out dC oM oM,b5 _ _ _ _ cl.out dC oM oM,a4,?_,ea,bn⟩;have e:Ag ((Aj (φ n) ((J L.sub).take (j+1)) a).1.map lhl)=Ag ((Aj (φ n) ((J L.sub).take j) a).1.map lhl)++(Ad #[.string X.key,ϊ X.b,.int .u64 X.s,.pointer none] 0 (1*4)).toList:=by
   rw[cm.out,List.map_append,List.map_cons,List.map_nil,<-HX.out];simp[Ag,lcs,Ad,cy]
  rw[e];exact BT db ae (cz dC))->p):=λh=>h
 let⟨vl,M,v,bm,c4⟩:=M;obtain⟨lb,lc,rfl⟩:=Df bm;let⟨ln,bj⟩:=eX v.length;obtain⟨I,bx⟩:∃I:Option Addr,I=none:=⟨_,rfl⟩;let⟨Z,b0⟩:=eX 0;let⟨T,bz⟩:=eX 0;obtain⟨z,bu⟩:∃z:Int,z=((n+1:Nat):Int):=⟨_,rfl⟩;let⟨vl,b6⟩:=eX (Value.slice lb ln lc);rw[<-bu,<-bj,<-b6]at M;rw[<-bj]at bm;have dd:w.heap[q]?=some (Ai z (.slice I Z T) vl):=by rw[bx,b0,bz];exact M
 have HQ:=zh dd;have aa:=zh (n6 bx b0 bz bu b6 bj);have dn:=zh bm;have ak:=zh c4;have eh:=U M;have HY:=zh hy;have dc:h.ptr=some (ϰ q 0):=by simp[HL.ptr,hp]
 rw[θ,Aw,dc,DZ];let⟨R,an⟩:=eX (Aj (φ n) (J L.sub) a);rw[<-an];have a9:=zh (n2 an aj);clear M dd hy hp dc bx b0 bz bu b6 bj bm c4 an aj;go_enter func174,ntmps174;go_wp2_with fail;let⟨w0,b7,cw,ct,br,al,b2⟩:=FA w (ϲ (ϟ V r) 89) (ϲ #[.string h.key,ϊ h.b,.int .u64 h.s,ϖ q] 87) (ϲ Cf 87);unfold Cf at br b7;rw[<-b7];clear b7;have y:w0.drew.heap[w.heap.size+1]?=some (ϲ #[.string h.key,ϊ h.b,.int .u64 h.s,ϖ q] 87)/\w0.drew.heap[q]?=some (Ai z (.slice I Z T) vl):=⟨ct,al.hp HQ.out⟩;refine wp_region_held_drew (S:=λW=>W.heap[w.heap.size+1]?=some (ϲ #[.string h.key,ϊ h.b,.int .u64 h.s,ϖ q] 87)/\W.heap[q]?=some (Ai z (.slice I Z T) vl)) kR y (λ_=>?_);refine zU 0 (.pointer (some (ϰ (w.heap.size+1) 3))) y ?_;refine zV 1 (ϖ q) rfl (λW f=>by have:=ϻ f.1 3;clear f;go_simp) y ?_;refine zV 2 (ϖ q) rfl (λW f=>by have c:=U f.2;clear f;go_simp) y ?_;refine zP 3 q 0 y ?_;refine zV 4 (ϊ z) rfl (λW f=>by have:=ϻ f.2 0;clear f;go_simp) y ?_;refine zU 5 (.pointer (some (ϰ (w.heap.size+1) 3))) y ?_;refine zV 6 (ϖ q) rfl (λW f=>by have:=ϻ f.1 3;clear f;go_simp) y ?_;refine zV 7 (ϖ q) rfl (λW f=>by have c:=U f.2;clear f;go_simp) y ?_;refine zP 8 q 1 y ?_;refine zV 9 (.slice I Z T) rfl (λW f=>by have:=ϻ f.2 1;clear f;go_simp) y ?_;refine zU 10 (.agg #[ϊ z,.slice I Z T,.slice none 0 0]) y ?_;refine zq 11 λK hK=>?_;go_simp;obtain⟨D,aq,ay,ac⟩:∃D,D=(w0.alloc (ϲ #[ϊ 0,.slice none 0 0,.slice none 0 0] 213)).drew/\D.heap[w.heap.size+3]?=some (ϲ #[ϊ 0,.slice none 0 0,.slice none 0 0] 213)/\Kp [] w0 D:=⟨_,rfl,by rw[<-b2];exact μ w0 _,((Kp.refl _ _).alloc _).drew⟩;rw[<-aq];have df:D.heap.size=w.heap.size+4:=by rw[aq];simp[b2]
 clear aq;refine hK.out _ _ ⟨ac.hp y.1,ac.hp y.2⟩ (λ_=>?_)
 try simp only[zZ]
 refine zq 12 λK hK=>?_;have z0:=Y ay;have f0:=ρ ay;have du:=U ay;have cg:=zh ay;clear ay;go_simp;obtain⟨H,dg,ah,bd⟩:∃H,H=((D.setCell (ϰ (w.heap.size+3) 0) (ϊ z)).setCell (ϰ (w.heap.size+3) 1) (.slice I Z T)).setCell (ϰ (w.heap.size+3) 2) (.slice none 0 0)/\H.heap[w.heap.size+3]?=some (Ai z (.slice I Z T) (.slice none 0 0))/\Kp [w.heap.size+3] D H:=
  ⟨_,rfl,ξ (ξ (ξ cg.out 0 _) 1 _) 2 _,(((Kp.refl _ _).sc _).sc _).sc _⟩
 rw[<-dg];clear dg z0 f0;have cs:=(al.tr ac).tr bd;have av:=ac.trans bd sO;have B:=And.intro (av.hp y.1) (av.hp y.2);refine hK.out _ _ B (λ_=>?_);refine zd ?_
 try simp only[zZ]
 have bl:w.heap.size+4<=H.heap.size:=by have:=bd.size;omega
 have cx:=av.hp cw;have cu:=av.hp br;have l3:=ϻ B.1 3;have q2:=ϻ B.2 2;have cd:=zh B.1;have cn:=zh cx;have cj:=zh cu;have ch:=zh ah;have cc:=zh cs;have d6:=U B.2;clear y B cx cu ah cs av bd ac al cw ct br cg du df b2;rw[aa.out.2.2.2.2.1]at q2;have:=HY.out.dk.sA;have ec:=HY.out.sF;have cq:=zh (HY.out.qM3 cc.out);have cp:Hid (Wx base [A,F] w H):=Wx.qP2 (cc.out.mono sM) HY.out.low;go_wp2_with fail
 go_loopw [31] (λi wr=>∃(j:Nat)(vj:Value),j<=ln/\i=.int .i64 j/\w.heap.size+4<=wr.heap.size/\Hid (wr.heap[w.heap.size+1]?=some (ϲ #[.string h.key,ϊ h.b,.int .u64 h.s,ϖ q] 87))/\Hid (wr.heap[w.heap.size]?=some (ϲ (ϟ V r) 89))/\Hid (wr.heap[w.heap.size+1+1]?=some (ϲ ϙ 87))/\Hid (wr.heap[w.heap.size+3]?=some (Ai z (.slice I Z T) vj))/\Hid (wr.ownsRow (w.heap.size+4) 87 4 vj j (Ag ((Aj (φ n) ((J L.sub).take j) a).1.map lhl)))/\Hid (LyF κ wn V A N C base F l (ws++(Aj (φ n) ((J L.sub).take j) a).2.1) (Aj (φ n) ((J L.sub).take j) a).2.2 wr)/\Hid (Wx base [A,F] w wr)) (λi _=>ln-(intOf i).toNat)
 case atStart=>exact⟨0,.slice none 0 0,Nat.zero_le _,rfl,bl,cd,cn,cj,ch,by show World.ownsRow _ _ _ _ _ _ _;exact World.ownsRow_nil _ _ _ _,by show LyF _ _ _ _ _ _ _ _ _ _ _ _;simpa [Aj] using cq.out,cp⟩
 case round=>
  obtain⟨j,vj,hj,rfl,ei,ce,bp,cl,ci,a8,au,af⟩:=hrel;clear l3 q2 cd cn cj ch cq cp bl d6;by_cases ed:j<ln
  .have bt:j<v.length:=by have:=aa.out;omega
   have bh:j<(J L.sub).length:=by rw[<-ak.out.1];exact bt
   have b3:=dn.out;rw[aa.out.2.2.2.2.2]at b3;let⟨gb,bo,eb,cur,fq,hv,dy,b1,c5⟩:=b3.link oM;let⟨c0,c1,c2,c3⟩:=c5 j bt;simp only[Value.slice.injEq,true_and]at hv;obtain⟨rfl,rfl⟩:=hv;have ap:=HY.out.apt;have hR:=af.out.oth _ _ _ _ b1 dC (λhm=>ap _ hm _ _ _ b1 dC);have a0:=Y hR (bo+j*4);have a1:=Y hR (bo+j*4+1);have a2:=Y hR (bo+j*4+2);have a3:=Y hR (bo+j*4+3);rw[c0]at a0;rw[c1]at a1;rw[c2]at a2;rw[c3]at a3;have d1:=U hR;have d4:(j:Int)<(ln:Int):=oM
   have dm:Hid (RL O n wr v[j] (J L.sub)[j]):=(ak.out.2 j bt bh).mono (λq M=>RN.wx af.out ap n q _ M) (λ_ _ h=>h);clear c5 b3 dy ap;go_wp2_with fail;rename_i K0 al;let⟨X,hX⟩:=eX (lhl (φ n (J L.sub)[j] (Aj (φ n) ((J L.sub).take j) a).2.2).1);have cy:X.ptr=none:=by rw[hX];rfl
   have b4:=Oj (φ n) ((J L.sub).take j) (J L.sub)[j] a;rw[<-List.take_succ_eq_append_getElem bh]at b4;have cm:=zh b4;have HX:=zh hX;let⟨D,aq,cr,ac,df⟩:=AZ wr (ϲ #[.string v[j].key,ϊ v[j].b,.int .u64 v[j].s,.pointer v[j].ptr] 87);rw[<-aq];clear aq b4 hX a0 a1 a2 a3 hR b1 c0 c1 c2 c3 d1 d4;have u:D.drew.heap[w.heap.size]?=some (ϲ (ϟ V r) 89)/\D.drew.heap[wr.heap.size]?=some (ϲ #[.string v[j].key,ϊ v[j].b,.int .u64 v[j].s,.pointer v[j].ptr] 87):=⟨ac.hp bp.out,cr⟩;have ax:=ac.drew;have be:=ax.hp ci.out;have bs:=au.out.qM3 ax;have cb:Hid (Ω 174 #[θ V r,Aw v[j],DZ F] D.drew λe w'=>(LyX κ wn V A N C base l ws a (1+qM2 (news n) (J L.sub)) e w'\/(e=ϱ (.agg #[.string X.key,ϊ X.b,.int .u64 X.s,.pointer none])/\LyF κ wn V A N C base F l (ws++(Aj (φ n) ((J L.sub).take (j+1)) a).2.1) (Aj (φ n) ((J L.sub).take (j+1)) a).2.2 w'))/\Wx base [A,F] D.drew w'):=by
    have bg:=Du (φ n) (news n) ((J L.sub).take j) a (λl _ o=>CJ n l o);have ai:=Ho (φ n) (news n) ((J L.sub).take j) a (λl _ o=>Fd n l o);have ef:=Ge (news n) (J L.sub) j bh;refine(IH v[j] r (J L.sub)[j] _ _ D.drew bs (RL.qM3 dm.out ax (Apt.nil _ _)) (bw _ (List.getElem_mem bh)) (by rw[bg,List.length_drop];omega) (λb hb=>hf b (by rw[bg]at hb;exact List.mem_of_mem_drop hb)) (by rw[bg,List.length_append,ai,List.length_drop];omega)).mono ?_;rintro e w' ⟨(h1|⟨rfl,h1⟩),h2⟩
    .refine⟨.inl (h1.zA9 (λx G=>?_) (λb hb=>?_) ?_),h2⟩
     .rcases List.mem_append.1 G with G|G
      .exact .inl G
      .exact .inr (Oh n _ a (by have:=Dc (news n) (J L.sub) j;omega) x G)
     .rw[bg]at hb;exact List.mem_of_mem_drop hb
     .rw[List.length_append,ai];omega
    rw[cm.out,<-List.append_assoc];exact⟨.inr ⟨by rw[<-HX.out,Aw,cy],h1⟩,h2⟩
   have ar:=zh ax;refine Il (α:=Nat->Nat->Nat->Act) (R:=λA0=>∀g c d W,(w.heap.size+4<=W.heap.size/\W.heap[w.heap.size+1]?=some (ϲ #[.string h.key,ϊ h.b,.int .u64 h.s,ϖ q] 87)/\W.heap[w.heap.size]?=some (ϲ (ϟ V r) 89)/\W.heap[w.heap.size+1+1]?=some (ϲ ϙ 87)/\W.heap[w.heap.size+3]?=some (Ai z (.slice I Z T) (.slice (some (ϰ g 0)) (j+1) c))/\W.ownsRow (w.heap.size+4) 87 4 (.slice (some (ϰ g 0)) (j+1) c) (j+1) (Ag ((Aj (φ n) ((J L.sub).take (j+1)) a).1.map lhl))/\LyF κ wn V A N C base F l (ws++(Aj (φ n) ((J L.sub).take (j+1)) a).2.1) (Aj (φ n) ((J L.sub).take (j+1)) a).2.2 W/\Wx base [A,F] w W)->K0 (A0 g c d) W) ?_;apply Exists.intro;apply And.intro
   rotate_left
   .intro HREST;refine wp_region_held_drew (S:=λW=>W.heap[w.heap.size]?=some (ϲ (ϟ V r) 89)/\W.heap[wr.heap.size]?=some (ϲ #[.string v[j].key,ϊ v[j].b,.int .u64 v[j].s,.pointer v[j].ptr] 87)) kR u (λ_=>?_);refine zU 0 (.pointer (some (ϰ (w.heap.size+3) 2))) u ?_;refine zV 2 (.agg (ϟ V r)) rfl (λW f=>by have:=Y f.1;clear f;go_simp) u ?_;refine zV 3 (.agg #[.string v[j].key,ϊ v[j].b,.int .u64 v[j].s,.pointer v[j].ptr]) rfl (λW f=>by have:=Y f.2;clear f;go_simp) u ?_;refine zU 4 (.func (.func 175) #[] #[ϖ F]) u ?_;refine zr 1 5 (λK hK=>?_) λK hK=>?_
    .skip
     have c2:=ϻ be 2;go_simp;refine hK.out _ _ u (λ_=>?_);clear hK K c2
     try simp only[zZ]
     refine zq 5 λK hK=>?_;go_simp;refine(show Calls _ _ _ _ _ from cb.out).mono ?_;rintro e H ⟨(b8|⟨rfl,dh⟩),E⟩
     .obtain⟨⟨a6,p,rfl⟩,b9⟩:=b8;clear hK;go_wp2;exact⟨rfl,.inl ⟨⟨a6,p,rfl⟩,b9⟩,af.out.trans ((Wx.qP2 (ar.out.mono sM) au.out.low).trans E)⟩
     have B:=And.intro (E.oth _ _ _ _ u.1 dC sO) (E.oth _ _ _ _ u.2 dC sO);have ah:=E.oth _ _ _ _ be dC sO;have bl:D.heap.size<=H.heap.size:=E.size;refine zk hK B ?_
     exact Sy.out
    .skip
     go_simp;refine(show Calls _ _ _ _ _ from cb.out).mono ?_;rintro e H ⟨(b8|⟨rfl,dh⟩),E⟩
     .obtain⟨⟨a6,p,rfl⟩,b9⟩:=b8;clear hK;go_wp2;exact⟨rfl,.inl ⟨⟨a6,p,rfl⟩,b9⟩,af.out.trans ((Wx.qP2 (ar.out.mono sM) au.out.low).trans E)⟩
     have B:=And.intro (E.oth _ _ _ _ u.1 dC sO) (E.oth _ _ _ _ u.2 dC sO);have ah:=E.oth _ _ _ _ be dC sO;have bl:D.heap.size<=H.heap.size:=E.size;refine zk hK B ?_
     refine zr 1 6 (λK hK=>?_) λK hK=>?_
     .skip
      have c2:=ϻ ah 2;go_simp;refine hK.out _ _ B (λ_=>?_);clear hK K c2
      try simp only[zZ]
      exact Sy.out
     .skip
      go_simp;let⟨w3,a7,bc,P,d7⟩:=AZ H (ϲ #[.string X.key,ϊ X.b,.int .u64 X.s,.pointer none] 87);rw[<-a7];clear a7;let⟨d,hd⟩:=eX H.heap.size;rw[<-hd]at bc |-;clear hd;have Q:=And.intro (P.hp B.1) (P.hp B.2);have bq:=P.hp ah;refine zk hK Q ?_
      refine zq 1 λK hK=>?_;have c2:=ϻ bq 2;go_simp;refine hK.out _ _ Q (λ_=>?_);clear hK K c2
      try simp only[zZ]
      exact Sz.out
   rintro g c d W ⟨e1,e2,e3,e4,e5,e6,e7,e8⟩;refine al _ _ ?_;have HE:Hid (w.heap.size+4<=W.heap.size/\W.heap[w.heap.size+1]?=some (ϲ #[.string h.key,ϊ h.b,.int .u64 h.s,ϖ q] 87)/\W.heap[w.heap.size]?=some (ϲ (ϟ V r) 89)/\W.heap[w.heap.size+1+1]?=some (ϲ ϙ 87)/\W.heap[w.heap.size+3]?=some (Ai z (.slice I Z T) (.slice (some (ϰ g 0)) (j+1) c))/\W.ownsRow (w.heap.size+4) 87 4 (.slice (some (ϰ g 0)) (j+1) c) (j+1) (Ag ((Aj (φ n) ((J L.sub).take (j+1)) a).1.map lhl))/\LyF κ wn V A N C base F l (ws++(Aj (φ n) ((J L.sub).take (j+1)) a).2.1) (Aj (φ n) ((J L.sub).take (j+1)) a).2.2 W/\Wx base [A,F] w W):=⟨e1,e2,e3,e4,e5,e6,e7,e8⟩;clear e1 e2 e3 e4 e5 e6 e7 e8 u ax be bs cr ac al K0;go_wp2;exact⟨⟨j+1,_,oM,by go_num,HE.out.1,HE.out.2.1,HE.out.2.2.1,HE.out.2.2.2.1,HE.out.2.2.2.2.1,HE.out.2.2.2.2.2.1,HE.out.2.2.2.2.2.2.1,HE.out.2.2.2.2.2.2.2⟩,by simp[intOf];omega⟩
  .have c7:(J L.sub).take j=J L.sub:=List.take_of_length_le (by rw[<-ak.out.1];have:=aa.out;omega);have c8:j=(J L.sub).length:=by rw[<-ak.out.1];have:=aa.out;omega
   have:¬(j:Int)<(ln:Int):=oM
   have aj:=a9.out.2;have an:=a9.out.1;have bf:=a8.out;have a5:=au.out;rw[c7]at bf a5;rw[aj]at a5;have hb:=hf b (by have h:=Du (φ n) (news n) (J L.sub) a (λl _ o=>CJ n l o);rw[aj]at h;exact List.mem_of_mem_drop (h ▸ List.mem_cons_self));have ai:=Ho (φ n) (news n) (J L.sub) a (λl _ o=>Fd n l o);have bi:=JS (φ n) (J L.sub) a;have dz:o.length<=100000:=by have h:=congrArg List.length (Du (φ n) (news n) (J L.sub) a (λl _ o=>CJ n l o));rw[aj]at h;simp at h;omega
   have bv:=Hp n (J L.sub) a;have ca:=OG N n dv (J L.sub) a (λl hl=>by
    obtain⟨i,hi,rfl⟩:=List.getElem_of_mem hl;refine⟨by have h:=bw _ hl;cases n with | zero=>exact h.1 | succ n=>exact h.1,λx G=>?_⟩;have h2:=(ak.out.2 i (by rw[ak.out.1];exact hi) hi).2;rw[G]at h2;exact hO _ _ _ _ h2.2.2.2) hf
   rw[<-an]at bf a5 ai bi bv ca;have c6:(b::o).length+qM2 (news n) (J L.sub)=a.length:=by have h:=congrArg List.length (Du (φ n) (news n) (J L.sub) a (λl _ o=>CJ n l o));rw[a9.out.2,List.length_drop]at h;omega
   have d9:(ws++R.2.1).length<100000:=by rw[List.length_append,ai];simp at c6;omega
   have co:Hid ((∀x∈ws++R.2.1,x∈ws\/x.1∈a)/\(ws++R.2.1).length<=ws.length+(1+qM2 (news n) (J L.sub))):=by
    refine⟨λx G=>?_,by rw[List.length_append,ai];omega⟩;rcases List.mem_append.1 G with G|G
    .exact .inl G
    .rw[a9.out.1]at G;exact .inr (Oh n _ a hn x G)
   have ba:=zh a5;have dk:Hid (wr.ownsRow (w.heap.size+4) 87 4 vj (R.1.map lhl).length (Ag (R.1.map lhl))):=by rw[List.length_map,bi,<-c8];exact bf
   have dr:=zh ca;have cf:Hid (2+qM2 ζ []+qM2 ψ (R.1.map lhl)<=128/\([]:List KV).length+(R.1.map lhl).length<=255):=⟨by rw[bv,AJ];omega,by rw[List.length_map,bi];simp;omega⟩;clear c7 c8 bf a5 ai bi bv ca aj an IH bw hm hn c6;go_wp2_with fail;have u:wr.drew.heap[w.heap.size+1]?=some (ϲ #[.string h.key,ϊ h.b,.int .u64 h.s,ϖ q] 87)/\wr.drew.heap[w.heap.size]?=some (ϲ (ϟ V r) 89):=⟨ce.out,bp.out⟩;refine wp_region_held_drew (S:=λW=>W.heap[w.heap.size+1]?=some (ϲ #[.string h.key,ϊ h.b,.int .u64 h.s,ϖ q] 87)/\W.heap[w.heap.size]?=some (ϲ (ϟ V r) 89)) kR u (λ_=>?_);refine zU 0 (ϖ (w.heap.size+1)) u ?_;refine zV 1 (.string h.key) rfl (λW f=>by have:=ϻ f.1 0;clear f;go_simp) u ?_;refine zP 2 w.heap.size 0 u ?_;refine zV 3 (ϖ V) rfl (λW f=>by have:=ϻ f.2 0;clear f;go_simp) u ?_;refine zU 4 (.func (.func 175) #[] #[ϖ F]) u ?_;refine zq 5 λK hK=>?_;have dx:=ME;go_simp;refine((ba.out.qM3 ((Kp.refl _ wr).drew)).next dz).mono ?_;rintro e w3 ⟨rfl,di,ad⟩;have Q:=And.intro (ad.oth _ _ _ _ u.1 dC sO) (ad.oth _ _ _ _ u.2 dC sO);have cv:=ad.oth _ _ _ _ cl.out dC sO;have de:=ad.oth _ _ _ _ ci.out dC sO;have:=ad.size;have d8:=((Cm dk.out).qM4 ((Kp.refl _ wr).drew)).wx ad dC ((ba.out.qM3 ((Kp.refl _ wr).drew)).apt.sub dC);refine hK.out _ _ Q (λ_=>?_);clear hK K dx
   try simp only[zZ]
   refine zq 6 λK hK=>?_;go_simp;refine(di.lay d9 hb (w.heap.size+3) z (.slice I Z T) vj [] (R.1.map lhl) de (by have:=aa.out;omega) (by have:=aa.out;omega) (by have e:=aa.out;rw[e.1,e.2.1,e.2.2.1];exact⟨rfl,Or.inl ⟨rfl,none,0,rfl,λ_=>rfl⟩⟩) d8 cf.out.1 cf.out.2 sM dr.out).mono ?_;rintro e w4 ⟨(⟨d3,ds⟩|⟨rfl,dj⟩),ao⟩
   .obtain⟨a6,p,rfl⟩:=d3;clear hK;go_wp2;exact⟨rfl,.inl (LyX.of ⟨a6,p,rfl⟩ ds co.out.1 co.out.2),((af.out).trans (((Wx.qP2 (Kp.mono (S:=[]) ((Kp.refl _ wr).drew) sM) ba.out.low).trans ad).trans ao))⟩
   have ab:=And.intro (ao.oth _ _ _ _ Q.1 dC sO) (ao.oth _ _ _ _ Q.2 dC sO);have am:=ao.oth _ _ _ _ cv dC sO;refine zk hK ab ?_
   refine zU 7 (.agg #[.string h.key,ϊ b,.int .u64 (fnv (Ab z [] (R.1.map lhl))),.pointer none]) ab ?_;refine zq 8 λK hK=>?_;have z0:=Y am;have f0:=ρ am;have dw:=U am;have c9:=Ez (.string h.key) (ϊ (b:Int)) (.int .u64 (fnv (Ab z [] (R.1.map lhl)))) (.pointer none) am;have ck:=zh am;clear am;go_simp;let⟨w5,bn,a4,aw⟩:=gE c9;rw[<-bn];clear bn c9 z0 f0;refine hK.out _ _ ⟨aw.hp ab.1,aw.ho ab.2⟩ (λ_=>?_);refine zd ?_
   try simp only[zZ]
   have ap:Apt w4 [w.heap.size+1+1] (FH++[24,3]):=λq M c t o e=>by rw[List.mem_singleton.1 M,ck.out]at e;cases e;decide
   have dq:=zh (dj.qO4 aw ap);have dp:=zh (((af.out).trans (((Wx.qP2 (Kp.mono (S:=[]) ((Kp.refl _ wr).drew) sM) ba.out.low).trans ad).trans ao)).tail aw sO HY.out.low);have dl:=zh a4;clear u Q ab cv de di ad dj ao a4 aw ap ck dw;go_wp2_with fail;exact bodyPost_ret (results_cell_row results174 _ _ (w.heap.size+1+1) 87 #[.string h.key,ϊ (b:Int),.int .u64 (fnv (Ab z [] (R.1.map lhl))),.pointer none] (0,0) _ rfl dl.out underlying87 rfl kR) rfl ⟨.inr ⟨by simp only[Aw,HL.ptr,aa.out.2.2.2.1,Option.map_none],by have h:=dq.out;rw[aa.out.2.2.2.1]at h;exact h⟩,dp.out⟩
open Go.Maps (Keyed)
open Go.ChangeMaps
def Ev(k:Nat):Lit:=.int .i64 (k:Int)
def NN{k:Nat}(h:k<=1000000):keyOf prog 3 (ϊ (k:Int))=some (Ev k):=
 Maps.keyOf_int_mk underlying3 (by simp[Lit.wf,IntKind.min,IntKind.max,IntKind.signed,IntKind.bits];omega)
def JL:Keyed prog 3:=Maps.int_keyed underlying3
def Xl(k:Nat):WideAt.IsKeyLit (Ev k):=by simp[WideAt.IsKeyLit,Ev]
def Xm{a b:Nat}(h:a≠b):Ev a≠Ev b:=by
 intro e;simp[Ev,Lit.int.injEq,true_and]at e;omega
def BS(w:Ϣ)(M c:Nat)(ks:Ϥ):Prop:=∃n D,w.ownsMap prog 3 (unitElem (H:=Unit)) M n D/\n<=c/\Maps.size D=ks.length/\∀k:Nat,Maps.has D (Ev k)=decide (k∈ks)
def BS.made(w:Ϣ):BS (w.alloc (.map #[] 0)) w.heap.size 0 []:=⟨0,.map [],World.ownsMap_made w _ _ _,lR,rfl,λk=>by simp[Maps.has]⟩
def BS.kp{S}{w w'}{M c:Nat}{ks}(h:BS w M c ks)(hK:Kp S w w')(a:M∉S):BS w' M c ks:=by
 let⟨n,D,⟨es,cl,hb,hf⟩,h2⟩:=h;exact⟨n,D,⟨es,cl,hK.heap hb a,hf⟩,h2⟩
def BS.len{w}{M c:Nat}{ks}(h:BS w M c ks)(ty):(Builtin.len_ #[249] ty #[.map (some M)]).run prog w=.ok (ϊ (ks.length:Int)) w:=by
 let⟨n,D,a,d,b,e⟩:=h;rw[<-b];exact World.ownsMap.len a underlying249 ty
def BS.store{w}{M c b:Nat}{ks}(h:BS w M c ks)(m:b<=1000000)(p:c<=1000000):
  ∃w',(Instr.mapUpdate 249 (.map (some M)) (ϊ (b:Int)) (.agg #[])).run prog w=.ok () w'/\BS w' M (c+1) (if b∈ks then ks else b::ks)/\Kp [M] w w':=by
 let⟨n,D,d,o,l,f⟩:=h;let⟨w',g,i,j⟩:=World.ownsMap.store d JL underlying249 (by simp[maxLen];omega) (NN m) (unitElem_mk (H:=Unit));refine⟨w',g,⟨n+1,_,i,oM,?_,λk=>?_⟩,Kp.qT8 j⟩
 .rw[Maps.size_put (d.tidy JL),f b,l];by_cases a:b∈ks<;>simp[a]
 .by_cases e:k=b
  .rw[e,Maps.has_put_same d.isMap (Xl b)];by_cases a:b∈ks<;>simp[a]
  .rw[Maps.has_put_other (Xm e),f k];by_cases a:b∈ks<;>simp[a,e]
def BS.look{w}{M c k:Nat}{ks}(h:BS w M c ks)(f:k<=1000000):
  (Instr.lookup 249 (.map (some M)) (ϊ (k:Int)) true).run prog w=.ok (.tuple #[.agg #[],ϐ (decide (k∈ks))]) w:=by
 let⟨n,D,d,g,i,e⟩:=h;let⟨v,ps,a,b⟩:=World.ownsMap.look_ok d JL underlying249 (z:=.agg #[]) kR (unitElem_mk (H:=Unit)) (NN f);obtain⟨rfl,_⟩:=unitElem_inv b;rw[a,e]
def Hk(ks:List Nat)(b:Nat):List Nat:=if b∈ks then ks else b::ks
def Su(M c b:Nat)(ks)(h)(w)(u:BS w M c ks)(A:h.p=none)(v:h.b=(b:Int))(x:b<=1000000)(y:c<=1000000)(m:ks.length<=1000000):
  Ω 235 #[.map (some M),Aw h] w λe w'=>e=ϱ (ϐ (decide (b∉ks)))/\BS w' M (c+1) (Hk ks b)/\Kp [M] w w':=by
 have B:h.ptr=none:=by simp[HL.ptr,A]
 let⟨n,D,⟨es,cl,hmb,hf⟩,h2⟩:=u;have:=U hmb;have t:Hid (BS w M c ks):=⟨n,D,⟨es,cl,hmb,hf⟩,h2⟩;rw[Aw,B,v];let⟨H,p,f,d,E⟩:=AZ w (ϲ #[ϕ h.key,ϊ (b:Int),.int .u64 h.s,ϗ none] 87);have g:=t.out.kp d sM;have o:=g.len 3;let⟨q,C,i,l⟩:=g.store x y;have z:=i.len 3;go_enter func235,ntmps235;go_wp2_with fail;rw[<-p,o];have:=U f;have:=ϻ f 1;have:=zh m;let⟨F,j⟩:=eX ks.length;let⟨G,k⟩:=eX ((if b∈ks then ks else b::ks).length);rw[<-j];rw[<-k]at z;have s:=zh (n2 j k);have r:Hid (BS q M (c+1) (Hk ks b)/\Kp [M] w q):=⟨i,(d.mono sM).tr l⟩;clear i l d f o g m j k p;go_wp2;go_ret;refine⟨?_,r⟩;have h:=s.out;by_cases a:b∈ks
 .simp[a,if_true]at h;simp[a,h.1,h.2]
 .simp[a,if_false,lC]at h;simp[a,not_false_eq_true,decide_true];rw[h.1,h.2];simp
def BS.mono{w}{M c a:Nat}{ks}(h:BS w M c ks)(f:c<=a):BS w M a ks:=by
 let⟨n,D,b,e,d⟩:=h;exact⟨n,D,b,oM,d⟩
def BS.qY6{w}{M c:Nat}{ks}(h:BS w M c ks):ks.length<=c:=by
 let⟨n,D,a,b,d,_⟩:=h;have:=a.size_le;omega
def BS.at{w}{M c:Nat}{ks}(h:BS w M c ks):∃b a,w.heap[M]?=some (.map b a):=by
 let⟨n,D,⟨b,a,hb,hf⟩,h2⟩:=h;exact⟨b,a,hb⟩
def Bh{X:Type}(f:X→List Nat→List Nat)(ks:List Nat)(m:Lnk X):List Nat:=match m.ref with
 | none=>f m.sub ks
 | some x=>if x.1∈ks then ks else f m.sub (x.1::ks)
def Bc:(n:Nat)→Tn n→List Nat→List Nat
 | 0,_,ks=>ks
 | n+1,t,ks=>(J t).foldl (Bh (Bc n)) ks
def Ss(M:Nat)(h)(q:Nat)(w)(a:h.p=some q):
  Ω 235 #[.map (some M),Aw h] w λe w'=>e=ϱ (ϐ true)/\Kp [] w w':=by
 have b:h.ptr=some (ϰ q 0):=by simp[HL.ptr,a]
 rw[Aw,b];go_enter func235,ntmps235;go_wp2;go_ret;exact⟨rfl,kF.alloc _⟩
def Mu{E:SEnv}(o:∀(n b:Nat)(s:Int)(t:Tn n),E.O n b s t->b<=1000000)(n M c:Nat)(ks:Ϥ)(h:HL)(m:Lnk (Tn n))(w:Ϣ)(d:BS w M c ks)(i:RL E.O n w h m)(p:c<=1000000):
  Ω 235 #[.map (some M),Aw h] w λe w'=>∃go ks1,e=ϱ (ϐ go)/\BS w' M (c+1) ks1/\Kp [M] w w'/\(∀f:Tn n->Ϥ->Ϥ,Bh f ks m=if go then f m.sub ks1 else ks1):=by
 cases hx:m.ref with
 | none=>
  let⟨u,q,g,v⟩:=Kj i hx;refine mR (Ss M h q w g) ?_;rintro w' hK;exact⟨true,ks,rfl,(d.kp hK sM).mono oM,hK.mono sM,λf=>by simp[Bh,hx]⟩
 | some x=>
  let⟨g,r⟩:=Kt i (by rw[hx];rfl);have a:=i.2;rw[hx]at a;apply mR (Su M c x.1 ks h w d g a.1 (o _ _ _ _ a.2.2.2) p (oW d.qY6));rintro w' ⟨k,l⟩;refine⟨_,_,rfl,k,l,λf=>?_⟩;by_cases j:x.1∈ks
  .simp[Bh,hx,Hk,j]
  .simp[Bh,hx,Hk,j]
def Sd(E:SEnv)(t:Tn 0)(q M c:Nat)(ks:Ϥ)(r:HL)(w:Ϣ)(d:E.Dev w)(a:RN E.O 0 w q t)(b:BS w M c ks):
  Ω 236 #[.map (some M),θ E.V r,ϖ q] w λe w'=>e=ϱ (.tuple #[])/\Kp [] w w':=by
 let⟨g,a,f⟩:=a;have:=U a;have:=ϻ a 2;rw[θ];go_enter func236,ntmps236;go_wp2_with fail;refine wp_loop_rounds 1 ?_;rw[rounds_succ];go_wp2
 go_end0
 exact⟨rfl,kF.alloc _⟩
def Env.ZM(E:Env)(M:Nat)(w:Ϣ)(e:Ending)(w':Ϣ):Prop:=(∃p,e=.panicked (ioP p))/\E.qP9 w'/\Kp (M::E.S) w w'
abbrev Env.CM(E:Env)(M:Nat)(f:FuncId)(a:Array Value)(w:World)(Q:Ending→World→Prop):Prop:=Calls prog f a w fun e w'=>E.ZM M w e w'∨Q e w'
def Env.C.m{E:Env}{M:Nat}{f:FuncId}{a:ϧ}{w:Ϣ}{Q:Ending->ϯ}(h:E.C f a w Q):E.CM M f a w Q:=h.mono λ_ _ h=>h.imp (λh=>⟨h.1,h.2.1,h.2.2.mono sC⟩) id
def Env.qP1{E:Env}{M:Nat}{w c:Ϣ}{f:FuncId}{a:ϧ}{Q K:Ending->ϯ}(h:E.CM M f a c Q)(d:Kp (M::E.S) w c)(k:∀e w',Q e w'->K e w')
  (b:∀p w',E.ZM M w (.panicked (ioP p)) w'->K (.panicked (ioP p)) w':=by intro p w' b;go_wp2;exact⟨rfl,.inl b⟩):Calls prog f a c K:=
 h.mono λe w' h=>by
  rcases h with h|h
  .obtain⟨p,rfl⟩:=h.1;exact b p w' ⟨h.1,h.2.1,d.trans h.2.2 (λi g _=>g)⟩
  .exact k e w' h
def GD(E:SEnv)(n:Nat):Prop:=∀(t:Tn n)(q M c:Nat)(ks:Ϥ)(r:HL)(w:Ϣ),E.Dev w->RN E.O n w q t->BS w M c ks->c+Am n t<=1000000->
 E.toEnv.CM M 236 #[.map (some M),θ E.V r,ϖ q] w λe w'=>e=ϱ (.tuple #[])/\BS w' M (c+(Am n t-1)) (Bc n t ks)/\E.Dev w'/\Kp (M::E.S) w w'
def Sc(E):GD E 0:=λt q M c ks r w b d a e=>by
 refine mR (Sd E t q M c ks r w b d a) ?_;rintro w' hK;exact .inr ⟨rfl,(a.kp hK sM).mono oM,(Env.To.of0 b hK).dev,hK.mono sM⟩
def DL(E:SEnv){w:Ϣ}{M d:Nat}{ks:Ϥ}(g:E.Dev w)(f:BS w M d ks){k:Nat}{c:ϧ}{t:Ϯ}{e:Nat×Nat}(h:w.heap[k]?=some (ϲ c t e))(i:t∉Cn):k∉M::E.S:=λa=>by
 rcases List.mem_cons.1 a with rfl|a
 .let⟨l,j,b⟩:=f.at;rw[h]at b;cases b
 .exact E.nin g h i a
def GM(E:SEnv){w:Ϣ}{M a:Nat}{ks:Ϥ}(d:E.Dev w)(b:BS w M a ks):Apt w (M::E.S) Bi:=λk f c t h e g=>DL E d b e ((by decide:∀t∈Bi,t∉Cn) t g) f
def Sb(E)(hO:∀(n b:Nat)(s:Int)(t),E.O n b s t->b<=1000000)(n:Nat)(IH:GD E n):GD E (n+1):=by
 intro t q M c ks r w O g I hc;let⟨vl,g,a,a4,N⟩:=g;obtain⟨lb,lc,rfl⟩:=Df a4;let⟨p,ab⟩:=eX a.length;obtain⟨u,ai⟩:∃u:Int,u=((n+1:Nat):Int):=⟨_,rfl⟩;rw[<-ab,<-ai]at g;have F:=zh (n2 ab ai);have:=U g;have:=ϻ g 2;have bb:=Ca (λl:Lnk (Tn n)=>Am n l.sub) (J t) (λx _=>by cases n<;>simp[Am]);have ay:Am (n+1) t=1+qM2 (λl:Lnk (Tn n)=>Am n l.sub) (J t):=rfl;have:p<=1000000:=by rw[ab,N.1];omega
 clear ab ai bb;rw[θ];go_enter func236,ntmps236;go_wp2_with fail;have ac:Kp [] w (w.alloc (ϲ (ϟ E.V r) 89)):=kF.alloc _
 go_loopw [13] (λi wr=>∃j:Nat,j<=p/\i=.int .i64 j/\w.heap.size<wr.heap.size/\Hid (BS wr M (c+qM2 (λl:Lnk (Tn n)=>Am n l.sub) ((J t).take j)) (((J t).take j).foldl (Bh (Bc n)) ks))/\Hid (E.Dev wr)/\Hid (Kp (M::E.S) w wr)/\Hid (Ϙ wr w.heap.size (ϲ (ϟ E.V r) 89))) (λi _=>p-(intOf i).toNat)
 case atStart=>exact⟨0,zL _,rfl,sM,by show BS _ _ _ _;simpa [AJ] using I.kp ac sM,(Env.To.of0 O ac).dev,ac.mono sM,μ w (ϲ (ϟ E.V r) 89)⟩
 case round=>
  obtain⟨j,hj,rfl,bj,ap,an,D,aq⟩:=hrel;have aw:=GM E O I;have:=D.out.heap g (DL E O I g dC);by_cases bh:j<p
  .have aa:j<a.length:=by have:=F.out;omega
   have Q:j<(J t).length:=by rw[<-N.1];exact aa
   let⟨gb,B,bg,cur,fq,hv,a9,al,ax⟩:=a4.link oM;let⟨c0,c1,c2,c3⟩:=ax j aa;simp[vJ,true_and]at hv;obtain⟨rfl,rfl⟩:=hv;have L:=D.out.heap al (DL E O I al dC);have a0:=Y L (B+j*4);have a1:=Y L (B+j*4+1);have a2:=Y L (B+j*4+2);have a3:=Y L (B+j*4+3);rw[c0]at a0;rw[c1]at a1;rw[c2]at a2;rw[c3]at a3;have:=U L;have:(j:Int)<(p:Int):=oM
   have aj:=CA (λl:Lnk (Tn n)=>Am n l.sub) (J t) j Q;have:=Ge (λl:Lnk (Tn n)=>Am n l.sub) (J t) j Q;have:1<=Am n (J t)[j].sub:=by cases n<;>simp[Am]
   have ah:((J t).take (j+1)).foldl (Bh (Bc n)) ks=Bh (Bc n) (((J t).take j).foldl (Bh (Bc n)) ks) (J t)[j]:=by rw[tA Q,List.foldl_append];rfl
   clear ax a9 al c0 c1 c2 c3;go_wp2_with fail;let⟨w1,bf,ar,z,bi⟩:=AZ wr (ϲ #[ϕ a[j].key,ϊ a[j].b,.int .u64 a[j].s,ϗ a[j].ptr] 87);rw[<-bf];have ad:=ap.out.kp z sM;apply(show Calls _ _ _ _ _ from Mu hO n M _ _ a[j] (J t)[j] w1 ad (RL.qM3 (zh (RL.qM3 (N.2 j aa Q) D aw)) z (Apt.nil _ _)) oM).mono;rintro e C ⟨go,a5,rfl,X,H,am⟩;have bd:OffD w1 [M]:=λk hk c t G e=>by
    let⟨es,cl,m⟩:=ad.at;rw[mS hk,m]at e;cases e
   have T:=E.qN1 _ _ _ ((Env.To.of0 an z).dev) H bd;have v:=(D.tr z).tr H;have ae:=v.heap g (DL E O I g dC);have:=U ae;have:=ϻ ae 0;have az:∀k c t G,Ϙ w1 k (ϲ c t G)->k∉[M]:=λk c t G e hm=>by
    let⟨es,cl,m⟩:=ad.at;rw[<-mS hm,e]at m;cases m
   have ag:=H.heap (z.hp aq) (az _ _ _ _ (z.hp aq));have:=H.size;have a6:=zh (RL.qM3 (N.2 j aa Q) v aw)
   cases go with
   | false=>
    go_wp2;exact⟨⟨j+1,oM,by go_num,oM,by show BS _ _ _ _;rw[ah,am,aj];exact X.mono oM,T,v,ag⟩,by simp[intOf];omega⟩
   | true=>
    by_cases bc:n=0
    .have:¬(1:Int)<u:=by have:=F.out;omega
     go_wp2;refine⟨⟨j+1,oM,by go_num,oM,?_,T,v,ag⟩,by simp[intOf];omega⟩;show BS _ _ _ _;rw[ah,am,aj];subst bc;exact X.mono oM
    .have:(1:Int)<u:=by have:=F.out;omega
     go_wp2_with fail;have d:Ϙ C.drew w.heap.size (ϲ (ϟ E.V r) 89)/\Ϙ C.drew wr.heap.size (ϲ #[ϕ a[j].key,ϊ a[j].b,.int .u64 a[j].s,ϗ a[j].ptr] 87)/\Ϙ C.drew q (Ai u (ϒ none 0 0) (ϑ gb B p lc)):=⟨ag,H.heap ar (az _ _ _ _ ar),ae⟩;refine wp_region_held_drew (S:=λW=>Ϙ W w.heap.size (ϲ (ϟ E.V r) 89)/\Ϙ W wr.heap.size (ϲ #[ϕ a[j].key,ϊ a[j].b,.int .u64 a[j].s,ϗ a[j].ptr] 87)/\Ϙ W q (Ai u (ϒ none 0 0) (ϑ gb B p lc))) kR d (λ_=>?_);apply zU 0 (.map (some M)) d;apply zV 1 (.agg (ϟ E.V r)) rfl (λW f=>by have:=Y f.1;go_simp) d;apply zV 2 (.agg (ϟ E.V r)) rfl (λW f=>by have:=Y f.1;go_simp) d;refine zV 3 (.agg #[ϕ a[j].key,ϊ a[j].b,.int .u64 a[j].s,ϗ a[j].ptr]) rfl (λW f=>by have:=Y f.2.1;go_simp) d ?_;apply zP 4 q 0 d;refine zV 5 (ϖ q) rfl (λW f=>by have c:=U f.2.2;go_simp) d ?_;apply zP 6 q 0 d;apply zV 7 (ϊ u) rfl (λW f=>by have:=ϻ f.2.2 0;go_simp) d;refine zq 8 λK hK=>?_;go_simp;have A:Kp [] C C.drew:=kF.drew;have Z:=Env.To.of0 T A;apply Env.qP1 (BR E.toEnv n a[j] r (J t)[j] u C.drew Z.dev (RL.qM3 a6 A (Apt.nil _ _)) (oW F.out)).m (v.tr A);rintro e w3 ⟨q3,rfl,be,o⟩;have au:BS w3 M _ a5:=(X.kp A sM).kp o.kp (by let⟨es,cl,m⟩:=X.at;exact E.qZ7 T m);have y:=And.intro (E.stay Z.dev o d.1 dC) (And.intro (E.stay Z.dev o d.2.1 dC) (E.stay Z.dev o d.2.2 dC));refine zk hK y ?_
     refine zq 9 λK hK=>?_;go_simp;apply Env.qP1 (IH (J t)[j].sub q3 M _ a5 r w3 o.dev be au oM) ((v.tr A).trans o.kp (λi P _=>mM _ P));rintro e w4 ⟨rfl,a8,a7,V⟩;have ak:∀{k:Nat} {c:Array Value} {tt:TypeId} {G:Nat×Nat},Ϙ w3 k (ϲ c tt G)->tt∉Cn->k∉M::E.S:=λh1 m=>DL E o.dev au h1 m;have af:=And.intro (V.heap y.1 (ak y.1 dC)) (And.intro (V.heap y.2.1 (ak y.2.1 dC)) (V.heap y.2.2 (ak y.2.2 dC)));refine hK.out _ _ af (λ_=>?_);refine zd ?_
     try simp[zZ]
     have R:=zh (n4 a8 a7 (((v.tr A).trans o.kp (λi P _=>mM _ P)).trans V (λi P _=>P)) (U af.1));go_wp2;refine⟨⟨j+1,oM,by go_num,R.2.2.2,?_,R.2.1,R.2.2.1,zh af.1⟩,by simp[intOf];omega⟩;show BS _ _ _ _;rw[ah,am,aj];exact R.1.mono oM
  .have:¬(j:Int)<(p:Int):=oM
   have ba:(J t).take j=J t:=tL (by rw[<-N.1];have:=F.out;omega);have av:=ap.out;rw[ba]at av;have ao:Hid (BS wr M (c+(Am (n+1) t-1)) (Bc (n+1) t ks)):=av.mono (by rw[ay];omega);go_wp2
   go_end0
   exact .inr ⟨rfl,by first | exact ao | (have h:=ao.out;rw[ay,Nat.add_sub_cancel_left]at h;exact h),an,D⟩
def Mn(E:SEnv)(a:∀(n b:Nat)(s:Int)(t:Tn n),E.O n b s t->b<=1000000):∀n,GD E n
 | 0=>Sc E
 | n+1=>Sb E a n (Mn E a n)
def Ar(N:Nat)(ks:List Nat):List Nat:=(List.range' 2 (N-2)).filter (fun k=>decide (k∉ks))
def Wa(ks)(i:Nat):Ar (2+(i+1)) ks=Ar (2+i) ks++(if 2+i∈ks then [] else [2+i]):=by
 unfold Ar;rw[show 2+(i+1)-2=i+1 from by omega,show 2+i-2=i from by omega,List.range'_concat,List.filter_append]
 congr 1
 by_cases h:2+i∈ks<;>simp[h]
def Wf(ks)(k:Nat)(h:2<=k):Ar (k+1) ks=Ar k ks++(if k∈ks then [] else [k]):=by
 have e:=Wa ks (k-2);rw[show 2+(k-2+1)=k+1 from by omega,show 2+(k-2)=k from by omega]at e;exact e
def Nq(N:Nat)(ks):(Ar N ks).length<=N:=by
 unfold Ar;refine lT (List.length_filter_le _ _) ?_;simp
def WQ(a)(b:Nat):ints (a++[b])=ints a++[ϊ (b:Int)]:=by simp[ints]
def WI:(prog.info? 3).map (λi=>(i.zero,i.size,i.bytes))=some (some (ϊ 0),1,8):=kR
def Zm(M c V A N:Nat)(ks)(w)(p:BS w M c ks)(t:w.heap[V]?=some (CR A N))(r:2<=N)(O:N<=1000):
  Ω 171 #[.map (some M),ϖ V] w λe w'=>∃v,e=ϱ v/\Slc w' 3 1 v (Ar N ks).length (ints (Ar N ks))/\Kp [] w w':=by
 let⟨I,y,F,G,H⟩:=info_parts WI;go_enter func171,ntmps171;go_wp2_with fail
 go_loopw [5,6] (λs i wr=>∃(k:Nat),2<=k/\k<=N/\i=.int .i64 (k:Int)/\Hid (wr.ownsRow w.heap.size 3 1 s (Ar k ks).length (ints (Ar k ks)))/\Hid (Kp [] w wr)) (λ_ i _=>N-(intOf i).toNat)
 case atStart=>exact⟨2,Nat.le_refl _,r,rfl,World.ownsRow_nil _ _ _ _,Kp.refl _ _⟩
 case round=>
  obtain⟨k,z,P,rfl,b,a⟩:=hrel;go_wp2_with fail;refine mR (Ll V A N wr (a.hp t)) ?_;rintro w' E;rw[E];by_cases Q:k<N
  .have m:=(p.kp a sM).look (k:=k) oM;have:(k:Int)<(N:Int):=oM
   have l:=zh (Wf ks k z);have:=Nq k ks;by_cases d:k∈ks
   .have f:decide (k∈ks)=true:=by simp[d]
    rw[f]at m;have h:=b.out;rw[show Ar k ks=Ar (k+1) ks from by rw[l.out,if_pos d,List.append_nil]]at h;go_wp2;refine⟨⟨k+1,oM,oM,by go_num,(Hid.mk' h).alloc _,a.alloc _⟩,iO⟩
   .have f:decide (k∈ks)=false:=by simp[d]
    rw[f]at m;have n:Hid (Ar (k+1) ks=Ar k ks++[k]):=by show _=_;rw[l.out,if_neg d]
    go_wp2_with (at_builtin;refine wpList_append_own _ rfl _ _ 24 rfl w.heap.size 3 I (ϊ 0) 1 8 underlying24 y F G H rfl dC _ _ _ rfl ((b.alloc _).alloc _) (ϰ (wr.heap.size+1) 0) 1 1 [ϊ (k:Int)] rfl rfl ?_ (by simp[Value.oneCell']) (by unfold maxLen;omega) oM (by have:=a.out.size;simp;omega) ?_)
    .intro j u g
     cases j with
     | zero=>
      simp[zH,Option.some.injEq]at g;subst g;simp[Addr.add]
     | succ j=>simp at g
    .intro K L C x _;have o:Hid (L.ownsRow w.heap.size 3 1 K (Ar (k+1) ks).length (ints (Ar (k+1) ks))):=by
      show World.ownsRow _ _ _ _ _ _ _;rw[n.out,WQ,List.length_append];exact C
     go_wp2;exact⟨⟨k+1,oM,oM,by go_num,o,zh (((a.alloc _).alloc _).grown x (λq D=>Or.inr (qN3 b q D)))⟩,iO⟩
  .have:¬(k:Int)<(N:Int):=oM
   have B:k=N:=oM
   have h:=b.out;rw[B]at h;go_wp2;go_ret;exact⟨_,rfl,Cm (Hid.mk' h),a⟩
def tcs(V:Nat)(h:HL):List Value:=[.pointer (some ⟨V,0,none⟩),.string h.key,.int .i64 h.b,.int .u64 h.s,.pointer h.ptr]
def CQ(V:Nat)(hs:List HL):List Value:=hs.flatMap (tcs V)
def qF7(V:Nat)(hs)(i k:Nat)(b:i<hs.length)(c:k<5):(CQ V hs)[i*5+k]?=(tcs V hs[i])[k]?:=by
 have h:=Jw (tcs V) 5 hs (λx _=>rfl) i b;have a:=congrArg (λz=>z[k]?) h;simp[List.getElem?_take,if_pos c,List.getElem?_drop]at a;exact a
def Slc.tree{V:Nat}{w}{v}{hs}(h:Slc w 89 5 v hs.length (CQ V hs))(o:1<=hs.length):
  ∃g a cap cur d,v=.slice (some (ϰ g a)) hs.length cap/\hs.length<=cap/\w.heap[g]?=some (ϲ cur 89 d)/\∀i (h:i<hs.length),cur[a+i*5]?=some (ϖ V)/\cur[a+i*5+1]?=some (ϕ hs[i].key)/\cur[a+i*5+2]?=some (ϊ hs[i].b)/\cur[a+i*5+3]?=some (.int .u64 hs[i].s)/\cur[a+i*5+4]?=some (ϗ hs[i].ptr):=by
 rcases h.val with⟨m,_⟩|⟨g,a,cap,cur,d,e,n,f,j,l⟩
 .omega
 .have c:∀i (b:i<hs.length) k (hk:k<5) u,(tcs V hs[i])[k]?=some u->cur[a+i*5+k]?=some u:=λi b k hk u hu=>by
   rw[Nat.add_assoc];exact l _ _ ((qF7 V hs i k b hk).trans hu)
  exact⟨g,a,cap,cur,d,e,f,j,λi b=>⟨c i b 0 oM _ rfl,c i b 1 oM _ rfl,c i b 2 oM _ rfl,c i b 3 oM _ rfl,c i b 4 oM _ rfl⟩⟩
def ω(ks:List Nat):Root→List Nat
 | .none=>ks
 | .at n l=>Bh (Bc n) ks l
def AE:Root→Nat
 | .none=>0
 | .at n l=>Am n l.sub
def Mj(E:SEnv)(hO:∀(n b:Nat)(s:Int)(t:Tn n),E.O n b s t->b<=1000000)(M c:Nat)(ks:Ϥ)(v:Value)(a:List HL)(rs:List Root)(w:Ϣ)(hd:E.Dev w)(z:Slc w 89 5 v a.length (CQ E.V a))(hl:a.length=rs.length)(hr:∀i (h1:i<a.length) (r:i<rs.length),RR E.toEnv w a[i] rs[i]/\(∀n l,rs[i]=.at n l->l.key=⟨#[]⟩))(T:BS w M c ks)(hc:c+qM2 AE rs<1000000)(hn:a.length<=1000):
  E.toEnv.CM M 170 #[.map (some M),v] w λe w'=>e=ϱ (.tuple #[])/\BS w' M (c+qM2 AE rs) (rs.foldl ω ks)/\E.Dev w'/\Kp (M::E.S) w w':=by
 obtain⟨bs,cp,rfl⟩:=Df z;let⟨q,ac⟩:=eX a.length;rw[<-ac];have N:=zh (n2 ac hl);have:q<=1000:=oM
 clear ac hl hn;go_enter func170,ntmps170;go_wp2_with fail
 go_loopw [8] (λi wr=>∃j:Nat,j<=q/\i=.int .i64 j/\Hid (BS wr M (c+qM2 AE (rs.take j)) ((rs.take j).foldl ω ks))/\Hid (E.Dev wr)/\Hid (Kp (M::E.S) w wr)) (λi _=>q-(intOf i).toNat)
 case atStart=>exact⟨0,zL _,rfl,by show BS _ _ _ _;simpa [AJ] using T,hd,Kp.refl _ _⟩
 case round=>
  obtain⟨j,hj,rfl,af,ae,L⟩:=hrel;by_cases bc:j<q
  .have ap:j<a.length:=by have:=N.out;omega
   have B:j<rs.length:=by have:=N.out;omega
   let⟨gb,A,bb,cur,fq,z,az,ad,ao⟩:=z.tree oM;let⟨c0,c1,c2,c3,c4⟩:=ao j ap;simp[vJ,true_and]at z;obtain⟨rfl,rfl⟩:=z;have m:=L.out.heap ad (DL E hd T ad dC);have a0:=Y m (A+j*5);have a1:=Y m (A+j*5+1);have a2:=Y m (A+j*5+2);have a3:=Y m (A+j*5+3);have a4:=Y m (A+j*5+4);rw[c0]at a0;rw[c1]at a1;rw[c2]at a2;rw[c3]at a3;rw[c4]at a4;have:=U m;have:(j:Int)<(q:Int):=oM
   have C:=CA AE rs j B;have a7:=Ge AE rs j B;have I:Hid ((rs.take (j+1)).foldl ω ks=ω ((rs.take j).foldl ω ks) rs[j]):=by show _=_;rw[tA B,List.foldl_append];rfl
   clear ao az ad c0 c1 c2 c3 c4;go_wp2_with fail;let⟨D,ba,ag,P,bd⟩:=AZ wr (ϲ #[ϖ E.V,ϕ a[j].key,ϊ a[j].b,.int .u64 a[j].s,ϗ a[j].ptr] 89);rw[<-ba];have ak:=af.out.kp P sM;have ah:=(Env.To.of0 ae P).dev;have R:=L.out.tr P;have ab:=GM E hd T;let⟨o,a6⟩:=hr j ap B
   cases hrj:rs[j] with
   | none=>
    rw[hrj]at o;have hz:a[j]=⟨⟨#[]⟩,0,0,none⟩:=o;refine mR (show Calls _ _ _ _ _ from(by have h:=GW E.V D;rw[<-hz]at h;exact h:Ω 92 #[θ E.V a[j]] D λe w'=>e=ϱ (.bool true)/\Kp [] D w')) ?_;rintro w2 d;have G:=zh (n3 (ak.kp d sM) ((Env.To.of0 ah d).dev) (R.tr d));have f:=d.hp ag;have:=U f;go_wp2;refine⟨⟨j+1,oM,by go_num,?_,G.2.1,G.2.2⟩,by simp[intOf];omega⟩;show BS _ _ _ _;rw[I.out,hrj,C,hrj];exact G.1.mono (by simp[AE])
   | «at» n l=>
    rw[hrj]at o;apply mR (show Calls _ _ _ _ _ from EQ E.toEnv n a[j] l D (RL.qM3 o R ab) (a6 n l hrj));rintro w2 d;have V:=ak.kp d sM;have aj:=R.tr d;have f:=d.hp ag;have:=U f;have:=Y f;rw[hrj]at a7 C;have:1<=AE (.at n l):=by simp[AE];cases n<;>simp[Am]
    go_wp2_with fail;refine(show Calls _ _ _ _ _ from Mu hO n M _ _ a[j] l w2 V (RL.qM3 o aj ab) oM).mono ?_;rintro e F ⟨go,au,rfl,X,Q,ar⟩;have aq:∀{S:List Nat} {W:World} {cc:Nat} {kk:List Nat} {k:Nat} {c:Array Value} {t:TypeId} {fr:Nat×Nat},BS W M cc kk->Ϙ W k (ϲ c t fr)->k∉[M]:=λhB e hm=>by
     let⟨es,cl,r⟩:=hB.at;rw[<-mS hm,e]at r;cases r
    have a8:OffD w2 [M]:=λk hk c t fr e=>absurd hk (aq (S:=[]) V e);have O:=E.qN1 _ _ _ ((Env.To.of0 ah d).dev) Q a8;have u:=aj.tr Q;have aw:=Q.heap f (aq (S:=[]) V f);have av:=zh (RL.qM3 o u ab)
    cases go with
    | false=>
     go_wp2;refine⟨⟨j+1,oM,by go_num,?_,O,u⟩,by simp[intOf];omega⟩;show BS _ _ _ _;rw[I.out,hrj,C,ω,ar];exact X.mono oM
    | true=>
     go_wp2_with fail;have x:Ϙ F.drew (ϳ wr) (ϲ #[ϖ E.V,ϕ a[j].key,ϊ a[j].b,.int .u64 a[j].s,ϗ a[j].ptr] 89):=aw;refine wp_region_held_drew (S:=λW=>Ϙ W (ϳ wr) (ϲ #[ϖ E.V,ϕ a[j].key,ϊ a[j].b,.int .u64 a[j].s,ϗ a[j].ptr] 89)) kR x (λ_=>?_);refine zU 0 (.map (some M)) x ?_;refine zV 1 (.agg #[ϖ E.V,ϕ a[j].key,ϊ a[j].b,.int .u64 a[j].s,ϗ a[j].ptr]) rfl (λW Z=>by have:=Y Z;go_simp) x ?_;apply zV 2 (.agg #[ϖ E.V,ϕ a[j].key,ϊ a[j].b,.int .u64 a[j].s,ϗ a[j].ptr]) rfl (λW Z=>by have:=Y Z;go_simp) x;refine zq 3 λK hK=>?_;go_simp;have g:Kp [] F F.drew:=kF.drew;have an:=Env.To.of0 O g;refine Env.qP1 (Fr E.toEnv n a[j] l F.drew an.dev (RL.qM3 av g (Apt.nil _ _))).m (u.tr g) ?_;rintro e w4 ⟨q4,rfl,a9,p⟩;have al:BS w4 M _ au:=(X.kp g sM).kp p.kp (by let⟨es,cl,r⟩:=X.at;exact E.qZ7 O r);have aa:=E.stay an.dev p x dC;refine zk hK aa ?_
     refine zq 4 λK hK=>?_;go_simp;have:AE (.at n l)=Am n l.sub:=rfl;apply Env.qP1 (Mn E hO n l.sub q4 M _ au a[j] w4 p.dev a9 al oM) ((u.tr g).trans p.kp (λi y _=>mM _ y));rintro e w5 ⟨rfl,ay,ax,ai⟩;refine hK.out _ _ (ai.heap aa (DL E p.dev al aa dC)) (λ_=>?_);refine zd ?_
     try simp[zZ]
     have H:=zh (n3 ay ax (((u.tr g).trans p.kp (λi y _=>mM _ y)).trans ai (λi y _=>y)));go_wp2;refine⟨⟨j+1,oM,by go_num,?_,H.2.1,H.2.2⟩,by simp[intOf];omega⟩;show BS _ _ _ _;rw[I.out,hrj,C,ω,ar];exact H.1.mono oM
  .have:¬(j:Int)<(q:Int):=oM
   have a5:rs.take j=rs:=tL (oW N.out);have am:=af.out;rw[a5]at am;go_wp2
   go_end0
   exact .inr ⟨rfl,am,ae,L⟩
def RR.kp{E}{w w'}{h}{r}{S}(a:RR E w h r)(hK:Kp S w w')(b:Apt w S Bi):RR E w' h r:=by
 cases r with
 | none=>exact a
 | «at» n l=>exact RL.qM3 a hK b
variable {κ:Nat}
def upN(N:Int):Int:=(N+1) % 18446744073709551616
def EM(N:Int):0<=upN N/\upN N<18446744073709551616:=by unfold upN;omega
def Li(N:Int):upN N % 2=(N+1) % 2:=by unfold upN;omega
def Hx(N c rs a b:Int)(w):
  Ω 141 #[.agg #[.int .u64 N,ϊ c,.int .u64 rs],.agg #[ϊ a,.int .u64 b]] w λe w'=>e=ϱ (.agg #[.int .u64 (upN N),ϊ a,.int .u64 b])/\Below w.heap.size w w':=by
 have:IntKind.u64.wrap (N+1)=upN N:=by rw[IntKind.wrap_u64];rfl
 go_enter func141,ntmps141;go_wp2;refine bodyPost_ret (results_cell_row results141 _ _ (w.heap.size+1+1) 166 #[.int .u64 (upN N),ϊ a,.int .u64 b] (0,0) _ rfl ?_ underlying166 rfl kR) rfl ⟨rfl,(((Below.refl _ _).alloc lR _).alloc sM _).alloc sO _⟩;simpa using μ ((w.alloc (ϲ #[.int .u64 N,ϊ c,.int .u64 rs] 166)).alloc (ϲ #[ϊ a,.int .u64 b] 84)) (ϲ #[.int .u64 (upN N),ϊ a,.int .u64 b] 166)
def Ae(N rb rs:Int):List UInt8:=toB (BP N rb rs)++List.replicate 96 0
def BI(N a rs:Int):(Ae N a rs).length=128:=by simp[Ae,DS,KL]
def Sto.led(s:Sto)(qb qs:Int):Sto:={ s with N:=upN s.N,rb:=qb,rs:=qs }
def Pm{l n:Nat}{P:Program}{k:Array Oper}{Q:Exit->Act->ϯ}(q:∀(i:Nat)(o:Oper),k[i]?=some o->∀c,o.op≠.defer c)(p:¬LetsOut Q):∀(is)(a:Act)(w),wpOps P k Q is a w->wpOpsIn (Fence.wide.inRound l) n P k Q is a w
 | [],a,w,h=>h
 | i::rest,a,w,h=>by
  have b:=λa w=>Pm (l:=l) (n:=n) (P:=P) q p rest a w;unfold wpOps at h;unfold wpOpsIn
  cases ho:k[i]? with
  | none=>
   simp[ho]at h |-;exact b a w h
  | some o=>
   simp[ho]at h |-;split
   .rename_i m;rw[if_pos m]at h;have h:=h.resolve_right (λh=>p h.2);refine⟨λ_ _=>trivial,?_⟩;rw[Fence.inRound_round,Oper.semAt_eq _ _ _ (q i o ho)];unfold Oper.wp at h;generalize (execOp a.eval o).run P w=r at h
    cases r with
    | ok nx w'=>
     cases nx with
     | value v=>exact b _ _ h
     | skip=>exact b _ _ h
     | defer d=>exact b _ _ h
     | enter f args=>
      refine⟨λg=>(by cases g),CallsIn.inRound l (callsIn_wide.2 (Calls.mono h ?_))⟩;intro e s j
      cases e with
      | returned v=>exact b _ _ j
      | panicked c=>exact j
      | outgrown=>exact j
     | row row args=>
      refine⟨λg=>(by cases g),λc cs _=>?_⟩;let⟨v,s,j,t⟩:=h c cs;exact⟨v,s,b _ _ j,stepsIn_wide.2 t⟩
     | _=>exact h.elim
    | halt g w'=>
     cases g with
     | panic v=>exact h
     | _=>exact h.elim
   .rename_i m;rw[if_neg m]at h;exact⟨λ_ _=>trivial,b _ _ h⟩
def Km(o:Oper):Bool:=match o.op with
 | .defer _=>false
 | _=>true
def YP{a:Array Oper}(h:a.all Km=true):∀(i:Nat)(o:Oper),a[i]?=some o->∀c,o.op≠.defer c:=λi o ho c e=>by
 have b:=Array.mem_of_getElem? ho;have:=Array.all_eq_true_iff_forall_mem.1 h o b;simp[Km,e]at this
def qK7{l n:Nat}{P:Program}{b:Array Oper}{Q:Exit->Act->ϯ}{S:ϯ}{id:Nat}{a:Act}{w}(f:P.follows .mixedOrders=true)(e:b.all Km=true)(c:¬LetsOut Q)(d:S w.drew)
  (h:S w.drew->wpAnyH P .any b Q S b.size (Array.replicate b.size false) a w.drew):(Code.region id b true).wpIn (Fence.wide.inRound l) n P Q a w:=
 wpIn_region_draw λt=>by
  simp[Region.schedule,f,Bool.true_or,if_true];exact Pm (YP e) c _ _ _ (wpAny_sound b.size t _ a _ (wpAny_of_held _ _ _ _ (h d)))
section
attribute [local go_sem] Oper.semAt_some
def RO(l m Sx gb off k cp:Nat)(cur:ϧ)(fr:Nat×Nat)(hs:List HL)(Jj:Nat->ϯ)(Jx:ϯ)(Jp:List PanicEntry->ϯ)(w:Ϣ)(hk:k<=10000)(hkc:k<=cp)(hkh:k<=hs.length)
  (hcur:∀i (h:i<hs.length),cur[off+i*4]?=some (ϕ hs[i].key)/\cur[off+i*4+1]?=some (ϊ hs[i].b)/\cur[off+i*4+2]?=some (.int .u64 hs[i].s)/\cur[off+i*4+3]?=some (ϗ hs[i].ptr))
  (hbox:∀i W,Jj i W->W.heap[Sx]?=some (ϲ #[.slice (some (ϰ gb off)) k cp] 156)/\W.heap[gb]?=some (ϲ cur 87 fr))
  (hY:∀i (hi:i<k) W,Jj (i+1) W->YieldAt Fence.wide (m-1) prog l #[ϊ i,.agg #[ϕ hs[i].key,ϊ hs[i].b,.int .u64 hs[i].s,ϗ hs[i].ptr]] W λe W'=>(e=ϱ (ϐ true)/\Jj i W')\/(e=ϱ (ϐ false)/\Jx W')\/∃c,e=.panicked c/\Jp c W')
  (h0:Jj k w):
  CallsIn Fence.wide m prog 220 #[.func (.yield l) #[] #[],ϖ Sx] w λe w'=>((∃v,e=ϱ v)/\(Jj 0 w'\/Jx w'))\/∃c,e=.panicked c/\Jp c w':=by
 have HJ0:=zh h0;have HY:=zh hY;have HCUR:=zh hcur;have hS0:=(hbox k w h0).1;have:=U hS0;have:=ϻ hS0 0;have hwr:wrap64 ((k:Int)-1)=(k:Int)-1:=by simp[wrap64];omega
 clear hY hcur h0 hS0;refine callsIn_of_wp func220 rfl trivial ?_ rfl;simp[ntmps220,List.size_toArray,lC,List.length_nil,Nat.reduceAdd,Nat.reduceSub,Array.replicate_succ,Array.replicate_zero,List.push_toArray,aT,nA,cA]
 gi_wp2_with fail
 gi_loopg [3] k (λgk v wr=>gk<=k/\v=.int .i64 ((gk:Int)-1)/\Hid (Jj gk wr))
 case atStart=>exact⟨lR,by simp[hwr],HJ0⟩
 case round=>
  obtain⟨hgk,rfl,hJ⟩:=hrel;let⟨hS1,hG1⟩:=hbox _ _ hJ.out;have:=U hS1;have:=U hG1;have:=ϻ hS1 0;by_cases h0:gk=0
  .subst h0;have hc:¬(0:Int)<=((0:Nat):Int)-1:=oM
   clear hS1 hG1;rw[show((0:Nat):Int)-1=-1 by rfl]at hc |-
   gi_wp2
   refine bodyPost_end (results_none results220 _ _ _) rfl ?_;exact .inl ⟨⟨_,rfl⟩,.inl hJ.out⟩
  .obtain⟨i,rfl⟩:∃i,gk=i+1:=⟨gk-1,oM⟩;have hi:i<k:=oM
   have e1:((i+1:Nat):Int)-1=(i:Int):=oM
   rw[e1];have:(0:Int)<=(i:Int):=oM
   have:(i:Int)<(k:Int):=oM
   let⟨c0,c1,c2,c3⟩:=HCUR.out i oM;have a0:=Y hG1 (off+i*4);rw[c0]at a0;have a1:=Y hG1 (off+i*4+1);rw[c1]at a1;have a2:=Y hG1 (off+i*4+2);rw[c2]at a2;have a3:=Y hG1 (off+i*4+3);rw[c3]at a3;let⟨fn,tmps,assign,body,hy,hR⟩:=HY.out i hi wr hJ.out;have:wrap64 ((i:Int)-1)=(i:Int)-1:=by simp[wrap64];omega
   gi_wp2
   refine⟨λh=>(by cases h),hR.mono ?_⟩;rintro e w5 (⟨rfl,hJ5⟩|⟨rfl,hJx⟩|⟨c,rfl,hJp⟩)
   rotate_left 2
   .have HP:=zh hJp
    gi_wp2
    exact⟨rfl,.inr ⟨c,rfl,HP⟩⟩
   .have HJ5:=zh hJ5
    gi_wp2
    gi_roundg i
    .exact⟨oM,by go_num,HJ5⟩
    .omega
   .have HX:=zh hJx
    gi_wp2
    refine bodyPost_ret (results_none results220 _ _ _) rfl ?_;exact .inl ⟨⟨_,rfl⟩,.inr HX⟩
end
section
attribute [local go_sem] Oper.semAt_some
def SV(args)(W):Sem.run prog (callFunc 220 args) W=.ok (.enter 220 args) W:=by
 simp[go_sem,func220]
def Gc(x:HL):Value:=.agg #[.string x.key,.int .i64 x.b,.int .u64 x.s,.pointer x.ptr]
def Gb(x:HL):Obj:=.cells #[.string x.key,.int .i64 x.b,.int .u64 x.s,.pointer x.ptr] 87
def Lt(N:Nat)(W a:Ϣ):Prop:=a.heap[N+1]?=W.heap[N+1]?/\a.heap[N]?=W.heap[N]?
def qL1{nn:Nat}{g:Operand}{ps:Array Tmp}{assign body:Code}{Q:Exit->Act->ϯ}{a:Act}{w:Ϣ}(B N A k M:Nat)(cur:ϧ)(fr:Nat×Nat)(j:List HL)(h1:1<=nn)(hk:k<=10000)(ap:k<=M)(aq:k<=j.length)
  (hg:a.eval g=.func (.func 220) #[] #[ϖ B]) (av:ps.size=2)
  (am:∀i (h:i<j.length),cur[A+i*4]?=some (ϕ j[i].key)/\cur[A+i*4+1]?=some (ϊ j[i].b)/\cur[A+i*4+2]?=some (.int .u64 j[i].s)/\cur[A+i*4+3]?=some (ϗ j[i].ptr))
  (Jj:Nat->ϯ) (z:ϯ) (L:List PanicEntry->ϯ)
  (S:∀i W C,Jj i W->Kp [w.heap.size+1] W C->(∃b,W.heap[w.heap.size+1]?=some (.loop b))->Jj i C) (ab:∀W C,z W->Kp [w.heap.size+1] W C->(∃b,W.heap[w.heap.size+1]?=some (.loop b))->z C)
  (al:∀i W,Jj i W->W.heap[B]?=some (ϲ #[.slice (some (ϰ N A)) k M] 156)/\W.heap[N]?=some (ϲ cur 87 fr))
  (ad:∀W,Kp [] w W->Jj k W)
  (aa:Nat->HL->Nat->Act)
  (aj:∀(l i:Nat)(I:i<k)(W:Ϣ)(K:Act->ϯ),(∀d,d.heap[W.heap.size]?=some (Gb j[i])->Kp [] W d->K (aa i j[i] W.heap.size) d)->
   assign.wpIn (Fence.wide.inRound l) (nn-1-1) prog (Exit.then K (λ_ _ _=>False)) { tmps:=(ps.zip #[ϊ i,Gc j[i]]).foldl (λt (p,v)=>t.setIfInBounds p v) a.tmps,defers:=[] } W)
  (ak:∀(l i:Nat)(I:i<k)(W:Ϣ)(X:Nat),Jj (i+1) W->W.heap[X]?=some (Gb j[i])->w.heap.size+1<X->(∃b,W.heap[w.heap.size+1]?=some (.loop b))->W.heap[w.heap.size]?=some (.deferred (some []))->
   body.wpIn (Fence.wide.inRound l) (nn-1-1) prog (λe a3 m=>match e with
    | .normal=>Jj i m/\Lt w.heap.size W m
    | .ret=>z m/\Lt w.heap.size W m
    | .panic c=>a3.defers=[]/\L c m
    | _=>False) (aa i j[i] X) W)
  (an:∀(W:Ϣ),Jj 0 W->W.heap[w.heap.size]?=some (.deferred (some []))->Q .normal { a with defers:={ target:=.collected w.heap.size,args:=#[] }::a.defers } W)
  (aw:∀(W:Ϣ),z W->W.heap[w.heap.size]?=some (.deferred (some []))->Code.ret.wpIn Fence.wide nn prog Q { a with defers:={ target:=.collected w.heap.size,args:=#[] }::a.defers } W)
  (au:∀c W,L c W->Q (.panic c) { a with defers:={ target:=.collected w.heap.size,args:=#[] }::a.defers } W):
  wpV prog (Code.rangeFunc g ps assign body) Q a w:=by
 refine qL0 (n:=nn) ?_;intro fn ao;obtain⟨b,f⟩:∃b:LoopState->Option Code->Loop,b=λst pe=>{ state:=st,pending:=pe,fn,tmps:=a.tmps,params:=ps,assign,body,defers:=ϳ w }:=⟨_,rfl⟩;let⟨u,H⟩:=eY ((w.alloc (.deferred (some []))).alloc (.loop (b .ready none)));have af:u.heap[ϳ w+1]?=some (.loop (b .ready none)):=by
  rw[<-H];have:=World.alloc_heap_new (w.alloc (.deferred (some []))) (.loop (b .ready none));rwa [World.size_alloc]at this
 have ac:Ϙ u (ϳ w) (.deferred (some [])):=by
  rw[<-H];exact(Below.heap_alloc _ _ _ sM).trans (World.alloc_heap_new w _)
 have ae:Kp [] w u:=by rw[<-H];exact(kF.alloc _).alloc _
 refine⟨ϳ w+1,[{ target:=.collected (ϳ w),args:=#[] }],u,{ target:=.fn (.func 220) #[ϖ B],args:=#[.func (.yield (ϳ w+1)) #[] #[]] },u,220,
  #[.func (.yield (ϳ w+1)) #[] #[],ϖ B],u,?_,?_,?_,?_⟩
 .rw[<-H,f];exact run_enterLoop_outer _ _ _ _ _
 .simp[resolve,hg];simp[go_sem]
 .simp[invoke,go_sem,SV]
 .refine (RO (ϳ w+1) (nn-1) B N A k M cur fr j (λi W=>Jj i W/\W.heap[ϳ w+1]?=some (.loop (b .ready none))/\Ϙ W (ϳ w) (.deferred (some []))) (λW=>z W/\W.heap[ϳ w+1]?=some (.loop (b .done (some .ret)))/\Ϙ W (ϳ w) (.deferred (some []))) L u hk ap aq am (λi W h=>al i W h.1) ?_ ⟨ad u ae,af,ac⟩).mono ?_
  .
   rintro i I W ⟨hJ,G,hD⟩;have ar:=U G;have hy:=run_yield (P:=prog) (args:=#[ϊ i,Gc j[i]]) G (by rw[f];simp[av]);rw[f]at hy;refine⟨fn,_,assign,body,hy,qB1 ao (aj _ i I W _ ?_)⟩;intro d ah T;have x:=T.hp G;have D:=T.hp hD;refine⟨_,run_beginRound x (by rw[f]),?_⟩;obtain⟨m,ag,Z,V⟩:∃m,m=d.putObj (ϳ w+1) (.loop { b .ready none with state:=.busy })/\m.heap[ϳ w+1]?=some (.loop { b .ready none with state:=.busy })/\Kp [ϳ w+1] d m:=
    ⟨_,rfl,World.putObj_heap_same (U x),kF.putObj sM _⟩
   rw[<-ag];have ai:=V.ho ah;have O:=V.hp D;refine wpIn_mono (ak _ i I m (ϳ W) (S _ _ _ hJ (T.mono sM |>.trans V (λ_ h _=>h)) ⟨_,G⟩) ai ar ⟨_,Z⟩ O) ?_;rintro e a3 r y
   cases e with
   | normal=>
    let⟨R,s,E⟩:=y;rw[Z]at s;rw[O]at E;have q:=run_endRound (P:=prog) none s;rw[f]at q;refine⟨_,_,q,.inl ⟨rfl,?_⟩⟩;have o:Kp [ϳ w+1] r (r.putObj (ϳ w+1) (.loop (b .ready none))):=kF.putObj sM _;have F:Jj i (r.putObj (ϳ w+1) (.loop (b .ready none)))/\(r.putObj (ϳ w+1) (.loop (b .ready none))).heap[ϳ w+1]?=some (.loop (b .ready none))/\(r.putObj (ϳ w+1) (.loop (b .ready none))).heap[ϳ w]?=some (.deferred (some [])):=
     ⟨S _ _ _ R o ⟨_,s⟩,World.putObj_heap_same (U s),o.hp E⟩
    rw[f]at F |-;exact F
   | ret=>
    let⟨R,s,E⟩:=y;rw[Z]at s;rw[O]at E;have q:=run_endRound (P:=prog) (some .ret) s;rw[f]at q;refine⟨_,_,q,.inr (.inl ⟨rfl,?_⟩)⟩;have o:Kp [ϳ w+1] r (r.putObj (ϳ w+1) (.loop (b .done (some .ret)))):=kF.putObj sM _;have F:z (r.putObj (ϳ w+1) (.loop (b .done (some .ret))))/\(r.putObj (ϳ w+1) (.loop (b .done (some .ret)))).heap[ϳ w+1]?=some (.loop (b .done (some .ret)))/\(r.putObj (ϳ w+1) (.loop (b .done (some .ret)))).heap[ϳ w]?=some (.deferred (some [])):=
     ⟨ab _ _ R o ⟨_,s⟩,World.putObj_heap_same (U s),o.hp E⟩
    rw[f]at F |-;exact F
   | exit i=>exact y.elim
   | goto l=>exact y.elim
   | panic ch=>exact⟨y.1,.inr (.inr ⟨ch,rfl,y.2⟩)⟩
   | outgrown=>exact y.elim
  .
   rintro e d (⟨⟨v,rfl⟩,⟨hJ2,x,D⟩|⟨hJ2,x,D⟩⟩|⟨c,rfl,hJp⟩)
   .have q:=run_endLoop (P:=prog) x (by rw[f];simp);rw[f]at q;have o:Kp [ϳ w+1] d (d.putObj (ϳ w+1) (.loop { b .ready none with state:=.exhausted })):=kF.putObj sM _;refine⟨none,_,q,?_⟩;have:=an (d.putObj (ϳ w+1) (.loop { b .ready none with state:=.exhausted })) (S _ _ _ hJ2 o ⟨_,x⟩) (o.hp D);rw[f]at this;exact this
   .have q:=run_endLoop (P:=prog) x (by rw[f];simp);rw[f]at q;have o:Kp [ϳ w+1] d (d.putObj (ϳ w+1) (.loop { b .done (some .ret) with state:=.exhausted })):=kF.putObj sM _;refine⟨some .ret,_,q,?_⟩;have:=aw (d.putObj (ϳ w+1) (.loop { b .done (some .ret) with state:=.exhausted })) (ab _ _ hJ2 o ⟨_,x⟩) (o.hp D);rw[f]at this;exact this
   .exact au c d hJp
end
def Oc{f:Ϧ->Bool}{l}(h:∀q∈l,f q.k=false):AX f l=none:=by
 rw[AX,List.find?_eq_none];intro q a;simp[h q (sU a)]
def Od{f:Ϧ->Bool}{p}(h:f p.k=true):AX f [p]=some p:=by simp[AX,h]
def Oe{f:Ϧ->Bool}(u:DT f){l}(B:Sorted l){i:Nat}(D:l.findIdx (λq=>!f q.k)-1=i)(z:i<l.length):AX f l=if f l[i].k then some l[i] else none:=by
 obtain⟨j,a⟩:∃j,l.findIdx (λq=>!f q.k)=j:=⟨_,rfl⟩;have E:j<=l.length:=by rw[<-a];exact fL
 have c:∀q∈l.drop j,f q.k=false:=by
  intro q A;obtain⟨b,t,rfl⟩:=gO A;rw[List.getElem_drop];have v:j+b<l.length:=by simp at t;omega
  have k:j<l.length:=oM
  have g:f l[j].k=false:=by
   have:=List.findIdx_getElem (p:=λq:KV=>!f q.k) (xs:=l) (w:=by rw[a];exact k);simp[a]at this;simpa using this
  by_cases e:b=0
  .subst e;simpa using g
  .cases hf:f l[j+b].k with
   | false=>rfl
   | true=>
    have y:=pG B j (j+b) k v oM;rw[u _ _ y hf]at g;cases g
 by_cases r:j=0
 .have n:i=0:=oM
  subst n;have h:∀q∈l,f q.k=false:=by rw[r]at c;simpa using c
  rw[Oc h,if_neg (by rw[h _ (gM _)];simp)]
 .have o:i=j-1:=oM
  subst o;have d:f l[j-1].k=true:=by
   have:=List.not_of_lt_findIdx (p:=λq:KV=>!f q.k) (xs:=l) (i:=j-1) (by rw[a];omega);simpa using this
  rw[if_pos d];have m:l=l.take (j-1)++[l[j-1]]++l.drop j:=by
   have s:l.take (j-1)++[l[j-1]]=l.take j:=by
    rw[<-tA z]
    congr 1
    omega
   rw[s,tD]
  obtain⟨x,C⟩:=eY (l[j-1]);rw[C]at m d |-;have e:=congrArg (AX f) m;rw[Ex,Ex,Oc c,Od d]at e;rw[e];rfl
end Go.Proofs.YtdohpenfkdckiaaGreatDoor
