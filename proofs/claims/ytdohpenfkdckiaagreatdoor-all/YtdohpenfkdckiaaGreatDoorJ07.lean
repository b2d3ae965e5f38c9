import Derived.Test.YtdohpenfkdckiaaGreatDoorJ06
import Derived.Shelf.Abstract
import Derived.Shelf.RegionOpen
import Derived.OwnWalkIn
import Derived.TacticsInMore
import Derived.LoopNIn
import Derived.LoopIn
import Derived.Sort.LoopGhostIn
import Derived.Laws.EntriesVeiled
import Derived.ChangeKeysEq
import Derived.RangeFuncGives
import Derived.Sort.MapsRangeIn
set_option linter.all false
set_option maxRecDepth 100000
set_option maxHeartbeats 0
namespace Go.Proofs.YtdohpenfkdckiaaGreatDoor
open Go.Proofs.Tryz Go.RowKit
def E3(on:Option Addr)(h:HL):Obj:=.cells #[.pointer on,.string h.key,.int .i64 h.b,.int .u64 h.s,.pointer h.ptr] 89
def A3:Option KV→KV
 | none=>⟨⟨#[]⟩,⟨#[]⟩⟩
 | some p=>p
def Wo(o:Option KV):Ba o=.tuple #[.agg #[ϕ (A3 o).k,ϕ (A3 o).v],ϐ o.isSome]:=by cases o<;>rfl
def Tb(B b x:Nat)(t)(w)(c:w.heap[B]?=some (ϲ #[ϖ x] 32))(a:w.heap[b]?=some (E3 none ⟨⟨#[]⟩,0,0,none⟩))(d:w.heap[x]?=some (Al t)):Ω 177 #[ϖ B,ϖ b] w λe f=>e=AK none/\f.heap[b]?=some (E3 t.on t.h)/\Kp [b] w f:=by have:=U c;have:=U d;have:=U a;have:=ϻ c 0;have g:=Y d;simp[Al,zG,zH,zI]at g;have:=ϻ a 0;have:=ϻ a 1;have:=ϻ a 2;have:=ϻ a 3;have:=ϻ a 4;have:=ω a;clear d c;go_enter func177,ntmps177;go_wp2;go_end0;exact⟨rfl,η (η (η (η (η a 0 _) 1 _) 2 _) 3 _) 4 _,(((((Kp.refl [b] w).sc _).sc _).sc _).sc _).sc _⟩
def Tc(a:Nat)(lo k)(w)(b:w.heap[a]?=some (ϲ #[ϕ lo] 9)):Ω 178 #[ϕ k,ϖ a] w λe c=>e=ϱ (.bool !kl k lo)/\Kp [] w c:=by have:=U b;have d:=ϻ b 0;go_enter func178,ntmps178;go_wp2;go_ret;exact⟨rfl,Kp.refl _ _⟩
def Pi(a b):(!Op.bytesLess a.toList b.toList && !(a.toList == b.toList))=kl b a:=by rw[<-Bool.not_or,Pk];simp
def Te(a:Nat)(p k v)(w)(b:w.heap[a]?=some (ϲ #[ϕ p,ϕ v] 42)):Ω 180 #[ϕ k,ϖ a] w λe c=>e=ϱ (ϐ (kl p k))/\Kp [] w c:=by have:=U b;have d:=ϻ b 0;go_enter func180,ntmps180;go_wp2;go_ret;exact⟨by rw[<-Pi];rfl,Kp.refl _ _⟩
def Td(E:AI)(B A c Tx g:Nat)(k:ϧ)(f:Ϧ->Bool)(h:HL)(r:Ah)(w:Ϣ)(a:w.heap[B]?=some (E3 (some (ϰ E.V 0)) h))(t:w.heap[A]?=some (ϲ #[.func (.func g) #[] k] 92)) (M:w.heap[c]?=some (ϲ #[ϕ ⟨#[]⟩,ϕ ⟨#[]⟩] 42)) (N:w.heap[Tx]?=some (ϲ #[ϐ false] 4)) (l:E.Dev w) (I:RR E.toEnv w h r) (G:AE r) (K:Up f) (F:DB E.toEnv w g k f) (O:ϴ g):E.toEnv.C 179 #[ϖ B,ϖ A,ϖ c,ϖ Tx] w λe i=>e=AK none/\i.heap[c]?=some (ϲ #[ϕ (A3 (r.cont.find? λq=>f q.k)).k,ϕ (A3 (r.cont.find? λq=>f q.k)).v] 42)/\i.heap[Tx]?=some (ϲ #[ϐ (r.cont.find? λq=>f q.k).isSome] 4)/\∃n,E.To w n/\Kp [c,Tx] n i:=by have:=U a;have:=U t;have:=ϻ a 0;have:=ϻ a 1;have:=ϻ a 2;have:=ϻ a 3;have:=ϻ a 4;have:=ϻ t 0;have L:Hid (E.toEnv.C 49 #[.agg<|ϟ E.V h,.func (.func g) #[] k] w λe i=>e=ϱ (Ba<|r.cont.find? λq=>f q.k)/\E.To w i):=Kh E.toEnv r h g k f w l I G K F O;clear I G K F a t;go_enter func179,ntmps179;go_wp2_with fail;refine Env.call L (Env.To.of0 l kF) ?_;rintro e n ⟨rfl,u⟩;rw[Wo];obtain⟨o,H⟩:∃o,(r.cont.find? λq=>f q.k)=o:=⟨_,rfl⟩;rw[H];obtain⟨p,s,D,m⟩:∃p s D,(A3 o).k=p/\(A3 o).v=s/\o.isSome=D:=⟨_,_,_,rfl,rfl,rfl⟩;have b:=zh<|n2 H m;rw[m.1,m.2.1,m.2.2];have d:=E.stay l u M dC;have x:=E.stay l u N dC;have:=U d;have:=U x;have z:=zh<|Aa x d dC;have y:=CQ (ϕ p) (ϕ s) d;have v:=y.2.heap x (by simp;exact z);have:=Y d;have:=ω d;have:=ϻ v 0;have:=ω v 0;have j:=zh<|n4 u y.1 v y.2;go_wp2;go_end0;refine .inr ⟨rfl,?_,?_,n,j.1,(j.2.2.2.mono (S':=[c,Tx]) sC).sc _⟩;rw[b.out.1,b.out.2.1,b.out.2.2.1];exact(Bd (λe=>z e.symm) _ _).trans j.2.1;rw[b.out.1,b.out.2.2.2];exact η j.2.2.1 0 _
def UC(args)(W):Sem.run prog (callFunc 177 args) W=.ok (.enter 177 args) W:=by simp[go_sem,func177]
def UD(args)(W):Sem.run prog (callFunc 178 args) W=.ok (.enter 178 args) W:=by simp[go_sem,func178]
def UE(args)(W):Sem.run prog (callFunc 179 args) W=.ok (.enter 179 args) W:=by simp[go_sem,func179]
def UF(args)(W):Sem.run prog (callFunc 180 args) W=.ok (.enter 180 args) W:=by simp[go_sem,func180]
def UB(args)(W):Sem.run prog (callFunc 176 args) W=.ok (.enter 176 args) W:=by simp[go_sem,func176]
def KS(x:Nat)(lo hi)(w):Ω 116 #[ϖ x,ϕ lo,ϕ hi] w λe a=>e=ϱ (.func (.func 176) #[] #[ϖ w.heap.size,ϖ (w.heap.size+1),ϖ (w.heap.size+2)])/\a.heap[w.heap.size]?=some (ϲ #[ϖ x] 32)/\a.heap[w.heap.size+1]?=some (ϲ #[ϕ lo] 9)/\a.heap[w.heap.size+2]?=some (ϲ #[ϕ hi] 9)/\Kp [] w a:=by have:=zM;go_enter func116,ntmps116;go_wp2;go_ret;refine⟨rfl,ψ _<|ψ _<|φ _ _,ψ _ ?_,?_,((kF.alloc _).alloc _).alloc _⟩;have e:=φ (w.alloc<|ϲ #[ϖ x] 32)<|ϲ #[ϕ lo] 9;simpa using e;simpa using(φ ((w.alloc<|ϲ #[ϖ x] 32).alloc<|ϲ #[ϕ lo] 9)<|ϲ #[ϕ hi] 9)
def BE(l:List KV)(lo:ByteArray):List KV:=l.filter fun q=>!kl q.k lo
def Le{b:Type}(f:b->Bool):∀l:List b,l.find? f=(l.filter f).head?
 |[]=>rfl|a::l=>by by_cases h:f a=true;rw[List.find?_cons_of_pos h,List.filter_cons_of_pos h,jJ];rw[List.find?_cons_of_neg h,List.filter_cons_of_neg h];exact Le f l
def OU{l}(h:AJ l)(lo):AJ (BE l lo):=h.sublist List.filter_sublist
def Wv(l)(lo):(l.find? λq=>!kl q.k lo)=(BE l lo)[0]?:=by rw[Le,BE,eT]
def VN(l)(lo pk)(c:kl pk lo=false):(l.filter λq=>kl pk q.k)=(BE l lo).filter λq=>kl pk q.k:=by unfold BE;rw[List.filter_filter];refine List.filter_congr λq d=>?_;by_cases a:kl pk q.k=true;(have:kl q.k lo=false:=by by_cases e:kl q.k lo=true;have:=D4 a e;rw[c]at this;cases this;simpa using e);rw[a,this];rfl;(have b:kl pk q.k=false:=by simpa using a);rw[b];rfl
def Ww{l}(h:AJ l)(lo){j:Nat}(b:j<(BE l lo).length):(l.find? λq=>kl (BE l lo)[j].k q.k)=(BE l lo)[j+1]?:=by
 rw[Le,eT];have n:kl (BE l lo)[j].k lo=false:=by
  have o:=gM b;have:=(iA.1 o).2;simpa using this
 have f:=VN l lo _ n;rw[f];have p:=OU h lo;generalize BE l lo=A at *;have g:A.filter (λq=>kl A[j].k q.k)=A.drop (j+1):=by
  have r:A=A.take (j+1)++A.drop (j+1):=(tD _ _).symm;have d:=pG p;have k:(A.take<|j+1).filter (λq=>kl A[j].k q.k)=[]:=by
   rw[jH];intro q c;obtain⟨i,a,rfl⟩:=gO c;rw[List.getElem_take];simp[lK]at a;by_cases e:i=j
   .subst e;simp[DQ]
   .have:=ER<|d i j oM b oM;simp[this]
  have m:(A.drop<|j+1).filter (λq=>kl A[j].k q.k)=A.drop (j+1):=by
   rw[fT];intro q c;obtain⟨i,a,rfl⟩:=gO c;rw[jD];simp[lD]at a;exact d j (j+1+i) b oM oM
  calc A.filter (λq=>kl A[j].k q.k)=(A.take (j+1)++A.drop (j+1)).filter (λq=>kl A[j].k q.k):=by rw[tD]
   _=A.drop (j+1):=by rw[dV,k,m,nA]
 rw[g];simp
def OH(l)(lo hi):l.filter (Cv lo hi)=(BE l lo).filter λq=>kl q.k hi:=by rw[BE,List.filter_filter];refine List.filter_congr λq _=>?_;rw[Cv,Bool.and_comm]
def OV{l}(h:AJ l)(a hi){j:Nat}(r:j<=(BE l a).length)(k:∀q∈(BE l a).take j,kl q.k hi=true)(m:∀q,(BE l a)[j]?=some q->kl q.k hi=false):l.filter (Cv a hi)=(BE l a).take j:=by
 rw[OH];have p:=OU h a;generalize BE l a=A at *;have f:=fT.2 k;have g:(A.drop j).filter (λq=>kl q.k hi)=[]:=by
  rw[jH];intro q o;obtain⟨i,n,rfl⟩:=gO o;rw[jD];simp[lD]at n;have d:j<A.length:=oM
  have c:=m A[j] (by simp[d]);by_cases e:i=0
  .subst e;simp[c]
  .have:=pG p j (j+i) d oM oM;by_cases b:kl A[j+i].k hi=true
   .have:=D4 this b;rw[c]at this;cases this
   .simpa using b
 calc A.filter (λq=>kl q.k hi)=(A.take j++A.drop j).filter (λq=>kl q.k hi):=by rw[tD]
  _=A.take j:=by rw[dV,f,g,aN]
def Wy{l}(h:AJ l)(a hi){j:Nat}(d:j<=(BE l a).length)(c:∀q∈(BE l a).take j,kl q.k hi=true):(BE l a).take j <+: l.filter (Cv a hi):=by
 rw[OH];generalize BE l a=A at *;have b:=fT.2 c;refine⟨(A.drop j).filter λq=>kl q.k hi,?_⟩
 calc A.take j++(A.drop j).filter (λq=>kl q.k hi)=(A.take j++A.drop j).filter (λq=>kl q.k hi):=by rw[dV,b]
  _=A.filter (λq=>kl q.k hi):=by rw[tD]
def Rm(lo):Up λk=>!kl k lo:=λa b hab ha=>by
 by_cases e:kl b lo=true
 .have:=D4 hab e;simp[this]at ha
 .simpa using e
def Rn(p):Up λk=>kl p k:=λa b hab ha=>D4 ha hab
section
attribute [local go_sem] Oper.semAt_some
def YS(W:Ϣ)(N:Nat)(S:Ϥ):Prop:=∀k∈S,k<N/\((∃c t fr,W.heap[k]?=some (ϲ c t fr)/\(t=29\/t=42))\/∃rec,W.heap[k]?=some (.loop rec))
def YS.qK4{W W'}{N:Nat}{S}(h:YS W N S)(hK:Kp S W W'){k:Nat}{c}{t}{fr}(d:W.heap[k]?=some (ϲ c t fr))(f:t≠29/\(t≠42\/N<=k)):W'.heap[k]?=some (ϲ c t fr):=by refine hK.heap d λi=>?_;let⟨m,g⟩:=h k i;rcases g with⟨j,o,l,a,b⟩|⟨n,a⟩;rw[d]at a;cases a;rcases b with b|b;exact f.1 b;rcases f.2 with e|e;exact e b;omega;rw[d]at a;cases a
def YS.apt{W}{N:Nat}{S}(h:YS W N S):χ W S BU:=λk f c t j e g=>by
 let⟨m,b⟩:=h k f;rcases b with⟨i,o,l,a,d⟩|⟨n,a⟩
 .rw[e]at a;cases a;rcases d with rfl|rfl<;>revert g<;>decide
 .rw[e]at a;cases a
structure CT(E:AI)(x A n:Nat)(t:Tx)(s:Au)(r:Ah)(B b a:Nat)(d c:Ϧ)(w:Ϣ):Prop where
 live:BC E w x A n t s r
 hB:w.heap[B]?=some (ϲ #[ϖ x] 32)
 hL:w.heap[b]?=some (ϲ #[ϕ d] 9)
 hH:w.heap[a]?=some (ϲ #[ϕ c] 9)
def CT.more{E}{x A n:Nat}{t}{s}{r}{B b a:Nat}{lo hi}{w w'}(h:CT E x A n t s r B b a lo hi w)(hK:Kp [] w w'):CT E x A n t s r B b a lo hi w':=
 ⟨h.live.more hK,hK.hp h.hB,hK.hp h.hL,hK.hp h.hH⟩
def CT.qM5{E}{x A n:Nat}{t}{s}{r}{B f d:Nat}{lo hi}{w w'}{L}(h:CT E x A n t s r B f d lo hi w)(hK:Kp L w w')(i:w'.heap[t.St]?=some (ν 0 s))(j:E.Dev w') (g:∀k∈L,k=t.St\/k∈E.S\/∃c u fr,w.heap[k]?=some (ϲ c u fr)/\u∉[99,32,9,263,213,185,87]):CT E x A n t s r B f d lo hi w':=by (have b:∀k c u fr,w.heap[k]?=some (ϲ c u fr)->u∈[99,32,9,213,185,87]->k∉L:=λk c u fr hk hu a=>by rcases g k a with h1|h1|⟨c',u',fr',h1,h2⟩;subst h1;rw[h.live.hSt]at hk;cases hk;revert hu;decide;exact E.nin h.live.dev hk ((show ∀u∈([99,32,9,213,185,87]:List TypeId),u∉DF by decide) u hu) h1;rw[hk]at h1;cases h1;exact h2<|(show ∀u∈([99,32,9,213,185,87]:List TypeId),u∈([99,32,9,263,213,185,87]:List TypeId) by decide) u hu);(have hV:E.V∉L:=λa=>by rcases g _ a with h1|h1|⟨c',u',fr',h1,h2⟩;exact Aa h.live.hV h.live.hSt dC h1;exact h.live.vS h1;rw[h.live.hV]at h1;cases h1;exact h2 dC);refine⟨{ h.live with hx:=hK.heap h.live.hx<|b _ _ _ _ h.live.hx dC,hSt:=i,hV:=hK.heap h.live.hV hV,dev:=j,rr:=h.live.rr.qM4 hK (λk hk c u fr e a=>b k c u fr e ((show ∀u∈BU,u∈([99,32,9,213,185,87]:List TypeId) by decide) u a) hk) },hK.heap h.hB<|b _ _ _ _ h.hB dC,hK.heap h.hL<|b _ _ _ _ h.hL dC,hK.heap h.hH<|b _ _ _ _ h.hH dC⟩
def Kp.putObj{S}{a b}(h:Kp S a b){l:Nat}(c:l∈S\/a.heap.size<=l)(o):Kp S a (b.putObj l o):=
 ⟨h.os,h.tape,h.output,by have:=h.size;simp[World.putObj];omega,λk f d=>(World.putObj_heap_other (by
  rcases c with c|c
  .intro e;subst e;exact d c
  .omega)).trans<|h.block k f d⟩
end
section
attribute [local go_sem] Oper.semAt_some
def YS.off{W}{N:Nat}{S}(h:YS W N S):AH W S:=λk f c t j e g=>by
 let⟨m,b⟩:=h k f;rcases b with⟨i,o,l,a,d⟩|⟨n,a⟩
 .rw[e]at a;cases a;rcases d with rfl|rfl<;>revert g<;>decide
 .rw[e]at a;cases a
def CT.round{E}{x A n:Nat}{t}{s}{r}{B c b:Nat}{lo hi}{w w'}{N:Nat}{SY}(h:CT E x A n t s r B c b lo hi w)(a:YS w N SY)(hK:Kp SY w w'):CT E x A n t s r B c b lo hi w':=by have d:=a.qK4 hK h.live.hSt ⟨dC,.inl dC⟩;refine⟨{ h.live with hx:=a.qK4 hK h.live.hx ⟨dC,.inl dC⟩,hSt:=d,hV:=a.qK4 hK h.live.hV ⟨dC,.inl dC⟩,dev:=E.qL3 w w' SY h.live.dev hK a.off,rr:=h.live.rr.qM4 hK a.apt },a.qK4 hK h.hB ⟨dC,.inl dC⟩,a.qK4 hK h.hL ⟨dC,.inl dC⟩,a.qK4 hK h.hH ⟨dC,.inl dC⟩⟩
def AD.qK4{w w'}{v}{k:ϩ}{S}(h:AD w v k)(hK:Kp S w w')(a:∀i∈S,∀c fr,w.heap[i]?≠some (ϲ c 246 fr)):AD w' v k:=by cases k with|none=>exact h|some k=>let⟨F,call,h1,h2⟩:=h;exact⟨F,call,h1,hK.heap h2 λb=>a _ b _ _ h2⟩
def Tl(E)(x A n:Nat)(t)(s)(r)(B Lc Hc:Nat)(lo j call)(K I g:Nat)(cap)(f:Ϧ->Bool)(w)(hI:CT E x A n t s r B Lc Hc lo j w)(V:w.heap[K]?=some (E3 (some (ϰ E.V 0)) t.h))(R:w.heap[I]?=some (ϲ #[.func (.func g) #[] cap] 92))(l m:Nat) (G:w.heap[l]?=some (ϲ #[ϕ ⟨#[]⟩,ϕ ⟨#[]⟩] 42)) (H:w.heap[m]?=some (ϲ #[ϐ false] 4)) (ad:Up f) (ha:∀W,Kp (t.St::E.S) w W->∀k,Calls prog g (#[ϕ k]++cap) W λe L=>e=ϱ (ϐ (f k))/\Kp [] W L) (ab:ϴ g):Ω 45 #[ϖ x,ϕ call,.func (.func 179) #[] #[ϖ K,ϖ I,ϖ l,ϖ m]] w λe y=>∃v k,e=ϱ v/\AD y v k/\((AR k=true/\E9 E w y t s)\/(k=none/\y.heap[l]?=some (ϲ #[ϕ (A3 (r.cont.find? λq=>f q.k)).k,ϕ (A3 (r.cont.find? λq=>f q.k)).v] 42)/\y.heap[m]?=some (ϲ #[ϐ (r.cont.find? λq=>f q.k).isSome] 4)/\y.heap[t.St]?=some (ν 0 s)/\E.Dev y/\Kp (t.St::l::m::E.S) w y)):=by have a:=hI.live;refine(GN x t.St 179 t s #[] _ call (l::m::E.S) (λk Z W d=>Z=s/\((AR k=true/\E.qO2 d/\Kp E.S W d)\/(k=none/\E.Dev d/\Ϙ d l (ϲ #[ϕ (A3<|r.cont.find? λq=>f q.k).k,ϕ (A3<|r.cont.find? λq=>f q.k).v] 42)/\Ϙ d m (ϲ #[.bool (r.cont.find? λq=>f q.k).isSome] 4)))) w a.hx a.over rfl a.hSt (λh=>by rw[a.po]at h;cases h) a.xS (UE _) (λi j=>by simp[mC]at j;rcases j with h|h|h;rw[h];exact U G;rw[h];exact U H;exact E.low w a.dev i h) ?_).mono ?_;intro _ W hK O;have C:=a.qT0 hK;have p:∀{k:Nat} {c:Array Value} {u:TypeId} {fr:Nat×Nat},Ϙ w k (ϲ c u fr)->u≠169->k∉[t.St]:=λhk hu hm=>Aa hk a.hSt hu<|mS hm;have T:=hK.heap G<|p G dC;have X:=hK.heap H<|p H dC;refine(Td E K I l m g cap f t.h r W (hK.heap V<|p V dC) (hK.heap R<|p R dC) T X C (a.rr.qM4 hK<|χ.one a.hSt dC) a.qK9 ad (λL k aa=>ha L ((hK.mono (S':=t.St::E.S) sM).trans aa.kp sC) k) ab).mono ?_;rintro e D (⟨⟨b,rfl⟩,hf,P⟩|⟨rfl,F,M,d,o,N⟩);exact⟨some<|1000+(b:Int),s,Im b,(Gr b).symm,⟨rfl,.inl ⟨Gd b,hf,P⟩⟩,P.mono sC,P.heap O<|E.nin C O dC⟩;have z:Ϙ D t.St (ν 1 s):=N.heap (E.stay C o O dC) (by simp[mC,lN,or_false,not_or];exact⟨Aa a.hSt G dC,Aa a.hSt H dC⟩);exact⟨none,s,dC,rfl,⟨rfl,.inr ⟨rfl,E.qL3 d D _ o.dev N<|(AH.one (E.stay C o T dC) dC).cons<|AH.one (E.stay C o X dC) dC,F,M⟩⟩,(o.kp.mono (S':=t.St::l::m::E.S) sC).trans N (by intro i j _;simp at j |-;rcases j with h | h<;>simp[h]),z⟩;rintro e D ⟨k,Z,v,rfl,hv,z,hK2,W,d,Bb,⟨rfl,hQ⟩,hKW,hb1,hb2,hb3,hKB,hS1⟩;refine⟨v,k,rfl,hv,?_⟩;rcases hQ with⟨F,M,h3⟩|⟨rfl,ac,S,o⟩;refine .inl ⟨F,E.qN7 d D _ M hKB<|DI hS1 hb3,by rw[z,Au.aft,F,Bool.or_true],?_⟩;refine((hKW.mono (S':=t.St::E.S) sM).trans h3 sC).trans hKB ?_;intro i j ae;simp[mC,lN,or_false]at j;rcases j with rfl|rfl;simp;omega;rw[Au.qN0 rfl]at z;(have p:∀{k:Nat} {c:Array Value} {u:TypeId} {fr:Nat×Nat},Ϙ d k (ϲ c u fr)->u≠169->u≠38->k∉[t.St,Bb]:=λhk hu hu2 hm=>by simp[mC,lN,or_false]at hm;rcases hm with h|h;exact Aa hk hS1 hu h;exact Aa hk hb3 hu2 h);exact .inr ⟨rfl,hKB.heap S<|p S dC dC,hKB.heap o<|p o dC dC,z,E.qL3 d D _ ac hKB<|DI hS1 hb3,hK2⟩
end
section
attribute [local go_sem] Oper.semAt_some
def Tg(E)(x A n:Nat)(t)(s)(r)(B z y:Nat)(lo hi call)(b:Nat)(w)(h:CT E x A n t s r B z y lo hi w)(l:w.heap[b]?=some (E3 none ⟨⟨#[]⟩,0,0,none⟩)):Ω 45 #[ϖ x,ϕ call,.func (.func 177) #[] #[ϖ B,ϖ b]] w λe g=>e=ϱ .nilIface/\g.heap[b]?=some (E3 (some (ϰ E.V 0)) t.h)/\g.heap[t.St]?=some (ν 0 s)/\E.Dev g/\Kp [t.St,b] w g:=by
 have a:=h.live;refine(Jz none dC x t.St 177 t s s #[] _ call [b] (λW d=>E.Dev d/\Ϙ d t.St (ν 1 s)/\Ϙ d b (E3 (some (ϰ E.V 0)) t.h)) w a.hx a.over rfl a.hSt a.po a.xS (UC _) (λi hi=>by rw[mS hi];exact U l) ?_).mono ?_
 .intro W hK q;have o:∀{k:Nat} {c:Array Value} {u:TypeId} {fr:Nat×Nat},Ϙ w k (ϲ c u fr)->u≠169->k∉[t.St]:=λhk hu hm=>Aa hk a.hSt hu (mS hm);have m:=hK.heap l (o l dC);refine mR (Tb B b x t W (hK.heap h.hB (o h.hB dC)) m (hK.heap a.hx (o a.hx dC))) ?_;rintro d ⟨p,j⟩;have f:=j.heap q (by simp;exact Aa q m dC);rw[a.on]at p;exact⟨rfl,⟨E.qL3 W d _ (a.qT0 hK) j (AH.one m dC),f,p⟩,j.mono sC,f⟩
 .rintro e D ⟨v,rfl,hv,hSt2,hK2,W,d,Bb,⟨hd1,f,hP1⟩,hKW,hb1,hb2,hb3,hKB⟩;have C:v=.nilIface:=hv;subst C;refine⟨rfl,hKB.heap hP1 ?_,hSt2,E.qL3 d D _ hd1 hKB (DI f hb3),hK2⟩;simp only[mC,lN,or_false,not_or];exact⟨Aa hP1 f dC,Aa hP1 hb3 dC⟩
structure Hn(E:AI)(x A n:Nat)(t:Tx)(s:Au)(r:Ah)(B b f:Nat)(a e:Ϧ)(g c:Nat)(Jj:Nat->List KV->ϯ)(j:Nat)(w:Ϣ):Prop where
 inn:CT E x A n t s r B b f a e w
 le:j<=(BE r.cont a).length
 ahead:∀q∈(BE r.cont a).take j,kl q.k e=true
 hS:w.heap[g]?=some (E3 (some (ϰ E.V 0)) t.h)
 hN:(j=0/\w.heap[c]?=some (ϲ #[.func (.func 178) #[] #[ϖ b]] 92))\/∃p d,1<=j/\(BE r.cont a)[j-1]?=some p/\w.heap[c]?=some (ϲ #[.func (.func 180) #[] #[ϖ d]] 92)/\w.heap[d]?=some (ϲ #[ϕ p.k,ϕ p.v] 42)
 jj:Jj w.heap.size ((BE r.cont a).take j) w
def Hn.asks{E}{x A n:Nat}{t}{s}{r}{B d v:Nat}{lo hi}{z i:Nat}{Jj:Nat->List KV->ϯ}{j:Nat}{w}(h:Hn E x A n t s r B d v lo hi z i Jj j w)(G:AJ r.cont):∃g l f,w.heap[i]?=some (ϲ #[.func (.func g) #[] l] 92)/\Up f/\(ϴ g)/\(r.cont.find? λq=>f q.k)=(BE r.cont lo)[j]?/\∀W,Kp (t.St::E.S) w W->∀k,Calls prog g (#[ϕ k]++l) W λe W'=>e=ϱ (ϐ (f k))/\Kp [] W W':=by
 have o:∀{k:Nat} {c:Array Value} {u:TypeId} {fr:Nat×Nat},Ϙ w k (ϲ c u fr)->u≠169->u∉DF->k∉t.St::E.S:=λhk hu hd hm=>by
  rcases List.mem_cons.1 hm with a|a
  .exact Aa hk h.inn.live.hSt hu a
  .exact E.nin h.inn.live.dev hk hd a
 rcases h.hN with⟨rfl,b⟩|⟨p,y,H,D,b,m⟩
 .exact⟨_,_,_,b,Rm lo,UD,Wv _ _,λW hK k=>Tc d lo k W (hK.heap h.inn.hL (o h.inn.hL dC dC))⟩
 .let⟨C,F⟩:=gS D;refine⟨_,_,_,b,Rn p.k,UF,?_,λW hK k=>Te y p.k k p.v W (hK.heap m (o m dC dC))⟩;have e:=Ww G lo C;rw[F]at e;rw[e,show j-1+1=j by omega]
structure Fs(x:Nat)(t:Tx)(s:Au)(w:Ϣ):Prop where
 hx:w.heap[x]?=some (Al t)
 ov:s.po=true\/t.over=true
 hSt:w.heap[t.St]?=some (ν 0 s)
 xS:x≠t.St
def Fs.more{x:Nat}{t}{s}{w w'}(h:Fs x t s w)(hK:Kp [] w w'):Fs x t s w':={ h with hx:=hK.hp h.hx,hSt:=hK.hp h.hSt }
def FV(E:AI)(t:Tx)(s:Au)(Jj:Nat->List KV->ϯ)(w:Ϣ)(v:Value)(k:ϩ)(a:Ϣ):Prop:=
 AD a v k/\((AR k=true/\∃N b W L,Jj N b W/\E.qO2 a/\a.heap[t.St]?=some (ν 0 { s with po:=true })/\Kp L W a/\∀i∈L,i=t.St\/i∈E.S\/(w.heap.size<=i/\∃c fr,W.heap[i]?=some (ϲ c 92 fr)))\/
  (k=some (BP s)/\(s.po=true\/t.over=true)/\a.heap[t.St]?=some (ν 0 s)/\Kp [t.St] w a))
def FV.val{E}{t}{s}{Jj:Nat->List KV->ϯ}{w}{v}{k:ϩ}{W'}(h:FV E t s Jj w v k W'):∃F,v=.iface 243 (ϖ F):=by
 let⟨a,b⟩:=h
 cases k with
 | none=>rcases b with⟨h,_⟩ | ⟨h,_⟩<;>cases h
 | some k=>obtain⟨F,_,rfl,_⟩:=a;exact⟨F,rfl⟩
def Tf(E)(x A n:Nat)(t)(s)(r)(B K Q l m:Nat)(d a)(Jj:Nat->List KV->ϯ)(Jx:List KV->ϯ)(Jg:ϯ)(w) (hJ:∀N H W L S,Jj N H W->Kp S W L->(∀k∈S,k=t.St\/k∈E.S\/(w.heap.size<=k/\∃c R,W.heap[k]?=some (ϲ c 92 R)))->L.heap[t.St]?=some (ν 0 s)->E.Dev L->Jj N H L) (b8:∀N N' H W,Jj N H W->N<=N'->Jj N' H W) (hY:∀N H p V,Jj N H V->N<=V.heap.size->H++[p] <+: r.cont.filter (Cv d a)->CT E x A n t s r B K Q d a V->YieldAt Fence.wide (m-1) prog l #[.agg #[ϕ p.k,ϕ p.v],.nilIface] V λe L=>∃SY,YS V N SY/\Kp SY V L/\((e=ϱ (ϐ true)/\Jj L.heap.size (H++[p]) L)\/(e=ϱ (ϐ false)/\Jx (H++[p]) L))) (hE:∀v k V,FV E t s Jj w v k V->YieldAt Fence.wide (m-1) prog l #[.agg #[ϕ ⟨#[]⟩,ϕ ⟨#[]⟩],v] V λe L=>e=ϱ (ϐ false)/\Jg L) (hI:(CT E x A n t s r B K Q d a w/\Jj w.heap.size [] w)\/(Fs x t s w/\w.heap[B]?=some (ϲ #[ϖ x] 32))):CallsIn Fence.wide m prog 176 #[.func (.yield l) #[] #[],ϖ B,ϖ K,ϖ Q] w λe w'=>(∃v,e=ϱ v)/\((∃N,Jj N (r.cont.filter (Cv d a)) w')\/(∃H,H <+: r.cont.filter (Cv d a)/\Jx H w')\/Jg w'):=by
 have Sz:Hid (∀{p:Prop},(_h:p:=by
  refine⟨λ_ h=>(by cases h),?_⟩
  gi_wp2
  refine bodyPost_ret (results_none results176 _ _ _) rfl ?_;exact⟨⟨_,rfl⟩,.inl ⟨wr.heap.size,by rw[a3.out];exact a4⟩⟩)->p):=λh=>h
 have cs:=zM;have HI:=ξ hI;have HJ:=ξ hJ;have a5:=ξ b8;have HY:=ξ hY;have HE:=ξ hE;have ai:Hid (CT E x A n t s r B K Q d a w->AJ r.cont):=λhI=>(Ha hI.live.qK9).1;have hB:=hI.elim (λh=>h.1.hB) λh=>h.2;have bz:=ψ (ϲ ϛ 89) hB;have b0:=Y bz 0;simp[zG,zH]at b0;have bb:=U hB;have cb:=hI.elim (λh=>U h.1.live.hSt) λh=>U h.1.hSt;refine callsIn_of_wp func176 rfl trivial ?_ rfl;simp[ntmps176,List.size_toArray,lC,List.length_nil,Nat.reduceAdd,Nat.reduceSub,Array.replicate_succ,Array.replicate_zero,List.push_toArray,aT,nA,cA]
 gi_wp2_with fail
 refine⟨trivial,λh=>(by cases h),?_⟩;obtain⟨w0,bq,bh,af⟩:∃w0,w0=w.alloc (ϲ ϛ 89)/\Ϙ w0 w.heap.size (E3 none ⟨⟨#[]⟩,0,0,none⟩)/\Kp [] w w0:=⟨_,rfl,φ _ _,kF.alloc _⟩;rw[<-bq];clear bq b0;have HC:Hid (∀ac,Ω 45 #[ϖ x,.string ac,.func (.func 177) #[] #[ϖ B,ϖ w.heap.size]] w0 λe O=>∃v,e=ϱ v/\w.heap.size<=O.heap.size/\((v=.nilIface/\Ϙ O w.heap.size (E3 (some (ϰ E.V 0)) t.h)/\CT E x A n t s r B K Q d a O/\Jj w.heap.size [] O)\/FV E t s Jj w v (some (BP s)) O)):=λac=>by
  rcases HI with⟨hI,b5⟩|⟨hO,hB⟩
  .have bc:=hI.more af;refine mR (Tg E x A n t s r B K Q d a ac w.heap.size w0 bc bh) ?_;rintro O ⟨av,an,bl,ag⟩;refine⟨_,rfl,lT af.size ag.size,.inl ⟨rfl,av,bc.qM5 ag an bl (λk o=>?_),HJ _ _ _ _ [t.St] b5 ((af.mono (S':=[t.St]) sM).trans ag (by intro i a cg;simp at a |-;omega)) sM an bl⟩⟩;simp[mC,lN,or_false]at o;rcases o with h|h
   .exact .inl h
   .rw[h];exact .inr (.inr ⟨_,_,_,bh,dC⟩)
  .have bf:=hO.more af;refine(Gc x t.St 177 t s #[] _ ac w0 bf.hx hO.ov rfl bf.hSt hO.xS).mono ?_;rintro e O ⟨v,rfl,hv,an,ag⟩;exact⟨v,rfl,lT af.size ag.size,.inr ⟨hv,.inr ⟨rfl,hO.ov,an,(af.mono sM).trans ag (λ_ h _=>h)⟩⟩⟩
 refine callsIn_wide.2 ((HC _).mono ?_);rintro e O ⟨v,rfl,ci,b1⟩;have a2:=ξ b1
 gi_wp2_with fail
 let⟨w2,cm,bd,aa⟩:=CX O (ϲ #[.func (.func 178) #[] #[ϖ K]] 92);rw[<-cm];have a0:Hid ((v=.nilIface/\Hn E x A n t s r B K Q d a w.heap.size O.heap.size Jj 0 w2)\/∃k,FV E t s Jj w v k w2):=by
  rcases a2 with⟨h,av,b3,b6⟩|⟨hv,h⟩
  .have ar:=b3.more aa;exact .inl ⟨h,ar,zL _,sM,aa.hp av,.inl ⟨rfl,bd⟩,a5 _ _ _ _ (HJ _ _ _ _ [] b6 aa sM ar.live.hSt ar.live.dev) (oW aa.size)⟩
  .refine .inr ⟨_,hv.qK4 aa sM,?_⟩;rcases h with⟨h,_⟩|⟨z,h2,h3,h4⟩
   .exfalso;revert h;rw[BP];split<;>decide
   .exact .inr ⟨z,h2,aa.hp h3,h4.tr aa⟩
 clear bd aa a2;let⟨Sx,aw⟩:=eX w.heap.size;let⟨C,au⟩:=eX O.heap.size;have ca:w.heap.size<=C:=oM
 rw[<-aw,<-au]at a0;rw[<-aw,<-au];clear aw au ci bb cb;have a6:=ξ ca
 gi_loopg [6] ((BE r.cont d).length+1) (λk a9 wr=>(∃j,k+j=(BE r.cont d).length+1/\a9=.nilIface/\Hid (Hn E x A n t s r B K Q d a Sx C Jj j wr))\/∃k,Hid (FV E t s Jj w a9 k wr))
 case atStart=>
  rcases a0 with⟨z,h2⟩|⟨k,h⟩
  .exact .inl ⟨0,rfl,z,h2⟩
  .exact .inr ⟨k,h⟩
 case round=>
  rcases hrel with⟨j,cr,rfl,y⟩|⟨k,hb⟩
  rotate_left
  .obtain⟨F,rfl⟩:=hb.out.val;have:∀W:World,Sem.run prog (binOp .eql 38 (.iface 243 (ϖ F)) .nilIface) W=.ok (.bool false) W:=λW=>by kernel_rfl
   let⟨fn,co,bv,bw,hy,hR⟩:=HE.out _ _ wr hb.out
   gi_wp2
   refine⟨λh=>(by cases h),hR.mono ?_⟩;rintro e w3 ⟨rfl,hJ⟩;have bs:=ξ hJ;clear hJ hy hR
   gi_wp2
   go_end0
   exact⟨⟨_,rfl⟩,.inr (.inr bs)⟩
  have ai:=zh ((Ha y.out.inn.live.qK9).1);let⟨g,bx,f,hN,ck,ce,cf,cc⟩:=y.out.asks ai.out;have ba:=y.out.inn.hB;have cd:=ψ (ϲ #[.bool false] 4) (ψ (ϲ ϝ 42) ba);have bb:=U ba;have:=ϻ cd 0;have I:=zh (n5 hN ck ce cf cc)
  gi_wp2_with fail
  refine⟨trivial,λh=>(by cases h),?_⟩;let⟨w3,cn,aj,ak,ad,ct⟩:=El wr (ϲ ϝ 42) (ϲ #[.bool false] 4)
  rw[<-cn];have Z:=y.out.inn.more ad;have bi:=ad.hp y.out.hS;have be:=ad.hp I.1;refine callsIn_wide.2 ((Tl E x A n t s r B K Q d a _ Sx C g bx f w3 Z bi be wr.heap.size (wr.heap.size+1) aj ak I.2.1 (λW hK k=>I.2.2.2.2 W ((ad.mono sM).trans hK (λ_ h _=>h)) k) I.2.2.1).mono ?_);rintro e w4 ⟨v,k,rfl,hv,⟨hio,hsi⟩|⟨rfl,T,M,hSt4,hd4,ah⟩⟩
  .have ah:=(ad.mono sM).trans hsi.kp (λ_ h _=>h);have hn:C∉t.St::E.S:=λD=>by
    rcases List.mem_cons.1 D with z|z
    .exact Aa I.1 y.out.inn.live.hSt dC z
    .exact E.nin y.out.inn.live.dev I.1 dC z
   have ao:∀{k:Nat} {c:Array Value} {u:TypeId} {R:Nat×Nat},Ϙ w3 k (ϲ c u R)->u≠169->u∉DF->k∉t.St::E.S:=λo hu hdv D=>by
    rcases List.mem_cons.1 D with z|z
    .exact Aa o Z.live.hSt hu z
    .exact E.nin Z.live.dev o hdv z
   have T:=hsi.kp.heap aj (ao aj dC dC);have M:=hsi.kp.heap ak (ao ak dC dC);have ae:=hsi.kp.heap Z.hH (ao Z.hH dC dC);have:=U T;have:=U M;have b2:=U ae;have p0:=Y T;have:=ϻ M 0;have:=ϻ ae 0;have X:=ah.heap I.1 hn;have:=U X;obtain⟨F,ac,rfl,hF⟩:∃F ac,v=.iface 243 (ϖ F)/\Ϙ w4 F (ϲ #[.string ac,.iface (Hi (k.getD 0)) (Hj (k.getD 0))] 246):=by
    cases k with
    | none=>cases hio
    | some k=>exact hv
   have hq:∀W:World,Sem.run prog (binOp .eql 38 (.iface 243 (ϖ F)) .nilIface) W=.ok (.bool false) W:=λW=>by kernel_rfl
   obtain⟨P,az,G⟩:∃P,P=w4.setCell (ϰ C 0) (.func (.func 180) #[] #[ϖ wr.heap.size])/\Kp [C] w4 P:=⟨_,rfl,kF.sc _⟩;have HB:Hid (FV E t s Jj w (.iface 243 (ϖ F)) k P):=by
    refine⟨hv.qK4 G (λi a c R e=>by rw[mS a,X]at e;cases e),.inl ⟨hio,wr.heap.size,_,wr,C::t.St::E.S,y.out.jj,E.qN7 _ _ _ hsi.fail G (AH.one X dC),G.heap hsi.hSt (by simp;exact Aa hsi.hSt X dC),(ah.mono sC).trans G sC,λi a=>?_⟩⟩;rcases List.mem_cons.1 a with h|h
    .rw[h];exact .inr (.inr ⟨a6,_,_,I.1⟩)
    .rcases List.mem_cons.1 h with h|h
     .exact .inl h
     .exact .inr (.inl h)
   have n0:=ϻ X 0;have:=ω X 0;have HG:Hid (1<=gk):=by show 1<=gk;have:=y.out.le;omega
   clear Z bi be aj ak ad ah hn X hF G hv hio hsi ao M ae;have hu:∀b:Bool,some undef=some (.bool b)->False:=λb h=>by cases h
   gi_wp2
   all_goals first | exact(hu _ (by assumption)).elim | skip
   refine⟨λ_ h=>(by cases h),?_⟩
   gi_wp2
   rw[<-az]
   gi_roundg (gk-1)
   .exact .inr ⟨k,HB⟩
   .have:=HG.out;omega
  have cl:v=.nilIface:=hv;subst cl;rw[I.out.2.2.2.1]at T M;have cq:=Z.live.hSt;have am:=(ad.mono (S':=t.St::E.S) sM).trans ah (by
   intro i a cg;simp[mC]at a |-;rcases a with h|h|h|h
   .exact .inl h
   .omega
   .omega
   .exact .inr h)
  have cj:∀k∈t.St::wr.heap.size::(wr.heap.size+1)::E.S,k=t.St\/k∈E.S\/∃c u R,Ϙ w3 k (ϲ c u R)/\u∉[99,32,9,263,213,185,87]:=λk o=>by
   simp[mC]at o;rcases o with h|h|h|h
   .exact .inl h
   .rw[h];exact .inr (.inr ⟨_,_,_,aj,dC⟩)
   .rw[h];exact .inr (.inr ⟨_,_,_,ak,dC⟩)
   .exact .inr (.inl h)
  have aq:=zh (Z.qM5 ah hSt4 hd4 cj);have a4:=zh (HJ _ _ _ _ (t.St::E.S) y.out.jj am (λk o=>by
   rcases List.mem_cons.1 o with h|h
   .exact .inl h
   .exact .inr (.inl h)) hSt4 hd4)
  have bp:∀{k:Nat} {c:Array Value} {u:TypeId} {R:Nat×Nat},Ϙ wr k (ϲ c u R)->u≠169->u∉DF->k∉t.St::E.S:=λo hu hdv D=>by
   rcases List.mem_cons.1 D with z|z
   .exact Aa o y.out.inn.live.hSt hu z
   .exact E.nin y.out.inn.live.dev o hdv z
  have bu:=zh (am.heap y.out.hS (bp y.out.hS dC dC));have X:=am.heap I.1 (bp I.1 dC dC);have cp:=zh T;have bt:=zh X;have:=U T;have:=U M;have ae:=aq.out.hH;have b2:=U ae;have bo:=y.out.le;have ap:=zh y.out.ahead;have:=ϻ ae 0
  cases hq:(BE r.cont d)[j]? with
  | none=>
   rw[hq]at M;have:=ϻ M 0;have a3:=zh (OV ai d a bo ap (λq h=>by rw[hq]at h;cases h))
   gi_wp2
   exact Sz.out
  | some q=>
   rw[hq]at M T;simp[A3,Option.isSome_some]at M T;have:=ϻ M 0;have p0:=Y T;let⟨bn,ch⟩:=gS hq;have HQ:=zh hq
   cases hh:kl q.k a with
   | false=>
    have:Op.bytesLess q.k.toList a.toList=false:=hh;have a3:=zh (OV ai d a bo ap (λq' h=>by rw[hq]at h;cases h;exact hh))
    gi_wp2
    exact Sz.out
   | true=>
    have:Op.bytesLess q.k.toList a.toList=true:=hh;have ay:(BE r.cont d).take (j+1)=(BE r.cont d).take j++[q]:=by rw[tA bn,ch]
    have a1:Hid (∀q'∈(BE r.cont d).take (j+1),kl q'.k a=true):=λq' D=>by
     rw[ay]at D;rcases mA D with D|D
     .exact ap q' D
     .rw[mS D];exact hh
    have a7:Hid ((BE r.cont d).take j++[q] <+: r.cont.filter (Cv d a)):=by
     show _ <+: _;rw[<-ay];exact Wy ai d a oM a1
    let⟨fn,co,bv,bw,hy,hR⟩:=HY.out wr.heap.size ((BE r.cont d).take j) q w4 a4 (oW am.size) a7 aq.out;have a8:=zh (n2 ay bn)
    gi_wp2
    refine⟨λh=>(by cases h),hR.mono ?_⟩;rintro e w5 ⟨SY,hYS,hKY,⟨rfl,hJ5⟩|⟨rfl,hJx⟩⟩
    .have al:=aq.out.round hYS hKY;have bj:=hYS.qK4 hKY bu ⟨dC,.inl dC⟩;have ab:=hYS.qK4 hKY bt ⟨dC,.inl dC⟩;have bg:=hYS.qK4 hKY T ⟨dC,.inr lR⟩;have:=U ab;obtain⟨P,az,b9,G⟩:∃P,P=w5.setCell (ϰ C 0) (.func (.func 180) #[] #[ϖ wr.heap.size])/\Ϙ P C (ϲ #[.func (.func 180) #[] #[ϖ wr.heap.size]] 92)/\Kp [C] w5 P:=⟨_,rfl,η ab 0 _,kF.sc _⟩;have ax:∀{k:Nat} {c:Array Value} {u:TypeId} {R:Nat×Nat},Ϙ w5 k (ϲ c u R)->u≠92->k∉[C]:=λo hu D=>Aa o ab hu (mS D);have bk:=G.heap al.live.hSt (ax al.live.hSt dC);have bm:=E.qL3 w5 P [C] al.live.dev G (AH.one ab dC);have b4:=al.qM5 G bk bm (λk o=>by rw[mS o];exact .inr (.inr ⟨_,_,_,ab,dC⟩));have b7:=HJ.out _ _ _ _ [C] hJ5 G (λk o=>by rw[mS o];exact .inr (.inr ⟨a6,_,_,ab⟩)) bk bm;have br:Hid (Hn E x A n t s r B K Q d a Sx C Jj (j+1) P):=
      ⟨b4,a8.2,a1,G.heap bj (ax bj dC),.inr ⟨q,wr.heap.size,oM,HQ,b9,G.heap bg (ax bg dC)⟩,by
       rw[a8.out.1];exact a5 _ _ _ _ b7 G.size⟩
     have n0:=ϻ ab 0;have:=ω ab 0
     gi_wp2
     rw[<-az]
     gi_roundg (gk-1)
     .exact .inl ⟨j+1,oM,rfl,br⟩
     .omega
    .have HX:=zh hJx
     gi_wp2
     refine bodyPost_ret (results_none results176 _ _ _) rfl ?_;exact⟨⟨_,rfl⟩,.inr (.inl ⟨_,a7,HX⟩)⟩
end
section
attribute [local go_sem] Oper.semAt_some
structure Nk(E:AI)(t:Tx)(s:Au)(a M:Nat)(c:LoopState->Option Code->Loop)(w:Ϣ)(N:Nat)(b:List KV)(W:Ϣ):Prop where
 lv:s.po=false/\t.over=false
 kp:Kp (t.St::a::E.S) w W
 hSt:W.heap[t.St]?=some (ν 0 s)
 dev:E.Dev W
 out:∃v,W.heap[a]?=some (ϲ #[v] 29)/\Bm W w.heap.size v b/\∀k,v.ownBlock=some k->k<N
 le:b.length<=M
 lt:w.heap.size+1<N
 dfr:W.heap[w.heap.size]?=some (.deferred (some []))
 loop:W.heap[w.heap.size+1]?=some (.loop (c .ready none))
def Nl(E:AI)(t:Tx)(s:Au)(a M id:Nat)(c:LoopState->Option Code->Loop)(w:Ϣ)(b:List KV)(W:Ϣ):Prop:=
 (s.po=false/\t.over=false)/\∃q p v,b=q++[p]/\q.length=M/\Kp (t.St::a::E.S) w W/\W.heap[t.St]?=some (ν 0 s)/\E.Dev W/\W.heap[a]?=some (ϲ #[v] 29)/\Bm W w.heap.size v q/\W.heap[w.heap.size]?=some (.deferred (some []))/\W.heap[w.heap.size+1]?=some (.loop (c .done (some (.exit id))))
def Dm(E:AI)(t:Tx)(s:Au)(Z:Ϥ)(w:Ϣ)(k:ϩ)(W:Ϣ):Prop:=
 (AR k=true/\(s.po=false/\t.over=false)/\E.qO2 W/\W.heap[t.St]?=some (ν 0 { s with po:=true })/\Kp (t.St::(Z++E.S)) w W)\/(k=some (BP s)/\(s.po=true\/t.over=true)/\W.heap[t.St]?=some (ν 0 s)/\Kp (t.St::Z) w W)
def Dm.old{E}{t}{s}{Z}{w W}{k:ϩ}{i:Nat}{o}(h:Dm E t s Z w k W)(d:w.heap[i]?=some o)(a:i∉t.St::Z)(f:s.po=false/\t.over=false->i∉E.S):W.heap[i]?=some o:=by rcases h with⟨_,e,_,_,b⟩|⟨_,_,_,b⟩;refine b.heap d λc=>?_;simp only[mC,List.mem_append]at c a;rcases c with h|h|h;exact a<|.inl h;exact a<|.inr h;exact f e h;exact b.heap d a
def Dm.on{E}{t}{s}{Z Z' L}{w W W'}{k:ϩ}(h:Dm E t s Z w k W)(hK:Kp L W W')(b:∀i∈L,i∈Z'\/w.heap.size<=i)(c:∀i∈Z,i∈Z')(e:AH W L)(d:t.St∉L):Dm E t s Z' w k W':=by rcases h with⟨h0,h1,h2,h3,h4⟩|⟨h0,h1,h3,h4⟩;refine .inl ⟨h0,h1,E.qN7 _ _ _ h2 hK e,hK.heap h3 d,(h4.mono λi a _=>?_).trans hK λi a hlt=>?_⟩;simp[mC,List.mem_append]at a |-;exact a.imp id<|Or.imp (c i) id;simp[(b i a).resolve_right oM];refine .inr ⟨h0,h1,hK.heap h3 d,(h4.mono λi a _=>?_).trans hK λi a hlt=>?_⟩;simp[mC]at a |-;exact a.imp id<|c i;simp[(b i a).resolve_right oM]
def Dm.low{E}{t}{s}{Z}{w0 w W}{k:ϩ}(h:Dm E t s Z w k W)(hK:Kp [] w0 w)(b:∀i∈Z,w0.heap.size<=i):Dm E t s [] w0 k W:=by rcases h with⟨h0,h1,h2,h3,h4⟩|⟨h0,h1,h3,h4⟩;refine .inl ⟨h0,h1,h2,h3,(hK.mono sM).trans h4 λi a c=>?_⟩;simp only[mC,List.mem_append,nA]at a |-;rcases a with h|h|h;exact .inl h;have:=b i h;omega;exact .inr h;refine .inr ⟨h0,h1,h3,(hK.mono sM).trans h4 λi a c=>?_⟩;simp only[mC]at a |-;rcases a with h|h;exact .inl h;have:=b i h;omega
def Dm.St{E}{t}{s}{Z}{w W}{k:ϩ}(h:Dm E t s Z w k W):∃a,W.heap[t.St]?=some (ν 0 a):=by rcases h with⟨_,_,_,h,_⟩|⟨_,_,h,_⟩<;>exact⟨_,h⟩
def Se(a b:Nat)(v:Value)(W d:Ϣ):Prop:=(∃c,W.heap[a]?=some (ϲ c 29))/\(∃c,W.heap[b]?=some (ϲ c 38))/\d.heap[a]?=some (ϲ #[.slice none 0 0] 29)/\d.heap[b]?=some (ϲ #[v] 38)/\Kp [a,b] W d
def Bm.qK4{S}{w w'}{a:Nat}{v}{ps}(h:Bm w a v ps)(hK:Kp S w w')(m:∀k∈S,∀c fr,w.heap[k]?≠some (ϲ c 42 fr)):Bm w' a v ps:=by refine⟨h.1,?_⟩;rcases h.2 with f|⟨g,d,e,i,j,b,l⟩;exact .inl f;exact .inr ⟨g,d,e,i,j,hK.heap b λn=>m g n _ _ b,l⟩
def qI4{nn:Nat}{g:Operand}{ps:Array Tmp}{assign body:Code}{Q:Exit->Act->ϯ}{a:Act}{w}(E)(x A n:Nat)(t)(s)(r)(B Lc Hc H M id B1 B2:Nat)(lo m)(j:1<=nn)
  (hg:a.eval g=.func (.func 176) #[] #[ϖ B,ϖ Lc,ϖ Hc]) (bf:ps.size=2)
  (hI:CT E x A n t s r B Lc Hc lo m w\/(Fs x t s w/\w.heap[B]?=some (ϲ #[ϖ x] 32))) (hO:w.heap[H]?=some (ϲ #[.slice none 0 0] 29))
  (aw:KV->Value->Nat->Act)
  (bc:∀(l:Nat)(p)(v)(W)(K:Act->ϯ),K (aw p v W.heap.size) (W.alloc (ϲ #[ϕ p.k,ϕ p.v] 42))->
   assign.wpIn (Fence.wide.inRound l) (nn-1-1) prog (Exit.then K (λ_ _ _=>False)) { tmps:=(ps.zip #[.agg #[ϕ p.k,ϕ p.v],v]).foldl (λt (p,v)=>t.setIfInBounds p v) a.tmps,defers:=[] } W)
  (bn:∀(l:Nat)(X)(p)(W)(v)(Pb:Nat),s.po=false/\t.over=false->W.heap[H]?=some (ϲ #[v] 29)->Bm W w.heap.size v X->W.heap[Pb]?=some (ϲ #[ϕ p.k,ϕ p.v] 42)->w.heap.size<=Pb->v.ownBlock≠some Pb->Kp (t.St::H::E.S) w W->X.length<=M->X.length<=70000->
   body.wpIn (Fence.wide.inRound l) (nn-1-1) prog (λe _ I=>match e with
    | .normal=>X.length<M/\∃v3 S3,Kp S3 W I/\(∀k∈S3,k=H\/v.ownBlock=some k)/\I.heap[H]?=some (ϲ #[v3] 29)/\Bm I w.heap.size v3 (X++[p])/\∀k,v3.ownBlock=some k->k<I.heap.size
    | .exit i=>i=id/\X.length=M/\I=W
    | _=>False) (aw p .nilIface Pb) W)
  (bm:∀(l:Nat)(F:Nat)(k:ϩ)(W)(Pb:Nat),Dm E t s [H] w k W->AD W (.iface 243 (ϖ F)) k->
   body.wpIn (Fence.wide.inRound l) (nn-1-1) prog (λe _ I=>match e with
    | .ret=>Se B1 B2 (.iface 243 (ϖ F)) W I
    | _=>False) (aw ⟨⟨#[]⟩,⟨#[]⟩⟩ (.iface 243 (ϖ F)) Pb) W)
  (bw:∀(W)(v)(k:ϩ),Dm E t s [H,B1,B2] w k W->AD W v k->W.heap[B1]?=some (ϲ #[.slice none 0 0] 29)->W.heap[B2]?=some (ϲ #[v] 38)->W.heap[w.heap.size]?=some (.deferred (some []))->w.heap.size<W.heap.size->(Code.ret).wpIn Fence.wide nn prog Q { a with defers:={ target:=.collected w.heap.size,args:=#[] }::a.defers } W)
  (bp:∀(W)(v),s.po=false/\t.over=false->Kp (t.St::H::E.S) w W->W.heap[t.St]?=some (ν 0 s)->E.Dev W->W.heap[H]?=some (ϲ #[v] 29)->Bm W w.heap.size v (Cn r.cont lo m M)->W.heap[w.heap.size]?=some (.deferred (some []))->w.heap.size<W.heap.size->Q .normal { a with defers:={ target:=.collected w.heap.size,args:=#[] }::a.defers } W)
  (bz:∀(W)(v),s.po=false/\t.over=false->Kp (t.St::H::E.S) w W->W.heap[t.St]?=some (ν 0 s)->E.Dev W->W.heap[H]?=some (ϲ #[v] 29)->Bm W w.heap.size v (Cn r.cont lo m M)->W.heap[w.heap.size]?=some (.deferred (some []))->w.heap.size<W.heap.size->(Code.exit id).wpIn Fence.wide nn prog Q { a with defers:={ target:=.collected w.heap.size,args:=#[] }::a.defers } W):
  (Code.rangeFunc g ps assign body).wpIn Fence.wide nn prog Q a w:=by
 apply wpIn_rangeFunc;intro fn bd;obtain⟨y,G⟩:∃y:LoopState->Option Code->Loop,y=λst pe=>{ state:=st,pending:=pe,fn,tmps:=a.tmps,params:=ps,assign,body,defers:=w.heap.size }:=⟨_,rfl⟩;let⟨W1,ao⟩:=eY<|(w.alloc<|.deferred<|some []).alloc<|.loop<|y .ready none;have a9:W1.heap[w.heap.size+1]?=some (.loop<|y .ready none):=by
  rw[<-ao];have:=World.alloc_heap_new (w.alloc<|.deferred<|some [])<|.loop<|y .ready none;rwa [World.size_alloc]at this
 have a7:W1.heap[w.heap.size]?=some (.deferred<|some []):=by
  rw[<-ao];exact(Below.heap_alloc _ _ _ sM).trans<|World.alloc_heap_new w _
 have ak:Kp [] w W1:=by rw[<-ao];exact(kF.alloc _).alloc _
 have b7:W1.heap.size=w.heap.size+2:=by rw[<-ao];simp
 have bh:CT E x A n t s r B Lc Hc lo m W1\/(Fs x t s W1/\W1.heap[B]?=some (ϲ #[ϖ x] 32)):=hI.imp (λh=>h.more ak) λh=>⟨h.1.more ak,ak.hp h.2⟩;refine⟨w.heap.size+1,[{ target:=.collected w.heap.size,args:=#[] }],W1,{ target:=.fn (.func 176) #[ϖ B,ϖ Lc,ϖ Hc],args:=#[.func (.yield<|w.heap.size+1) #[] #[]] },W1,176,
  #[.func (.yield<|w.heap.size+1) #[] #[],ϖ B,ϖ Lc,ϖ Hc],W1,?_,?_,?_,?_,λh=>(by cases h),?_⟩
 .rw[<-ao,G];exact run_enterLoop_outer _ _ _ _ _
 .simp[resolve,hg];simp[go_sem]
 .intro f' b6;trivial
 .simp[invoke,go_sem,UB]
 .have b4:=U hO;obtain⟨b9,bb⟩:∃o,w.heap[t.St]?=some (ν 0 o):=hI.elim (λh=>⟨_,h.live.hSt⟩) λh=>⟨_,h.1.hSt⟩;have b5:=U bb;have b3:=Aa hO bb dC;refine(Tf E x A n t s r B Lc Hc (w.heap.size+1) (nn-1) lo m (Nk E t s H M y w) (Nl E t s H M id y w) (λW=>W.heap[w.heap.size+1]?=some (.loop<|y .done<|some .ret)/\W.heap[w.heap.size]?=some (.deferred<|some [])/\∃v k,Dm E t s [H,B1,B2] w k W/\AD W v k/\W.heap[B1]?=some (ϲ #[ϒ none 0 0] 29)/\W.heap[B2]?=some (ϲ #[v] 38)) W1 ?_ ?_ ?_ ?_<|bh.imp (λh=>⟨h,?_⟩) λh=>h).mono ?_
  .
   intro N X W W' S h hK hS bk bo;let⟨v,hv1,hv2,ah⟩:=h.out;have aq:∀k∈S,∀c u d,W.heap[k]?=some (ϲ c u d)->u=29\/u=42->False:=λk b c u d e hu=>by
    rcases hS k b with j|j|⟨_,c',ar,j⟩
    .rw[j,h.hSt]at e;cases e;rcases hu with hu | hu<;>revert hu<;>decide
    .exact E.nin h.dev e (by rcases hu with rfl | rfl<;>decide) j
    .rw[e]at j;cases j;rcases hu with hu | hu<;>revert hu<;>decide
   have ap:∀k∈S,∀o,W.heap[k]?=some o->(∀c u d,o≠.cells c u d)->False:=λk b o e ho=>by
    rcases hS k b with j|j|⟨_,c',ar,j⟩
    .rw[j,h.hSt]at e;cases e;exact ho _ _ _ rfl
    .let⟨c',t',ar,h2,h3⟩:=E.qT3 W h.dev k j;rw[e]at h2;cases h2;exact ho _ _ _ rfl
    .rw[e]at j;cases j;exact ho _ _ _ rfl
   refine⟨h.lv,h.kp.trans hK λi m ae=>?_,bk,bo,⟨v,hK.heap hv1 λD=>aq _ D _ _ _ hv1<|.inl rfl,hv2.qK4 hK λk b c d e=>aq k b _ _ _ e<|.inr rfl,ah⟩,h.le,h.lt,hK.heap h.dfr λD=>ap _ D _ h.dfr (by intros;simp),hK.heap h.loop λD=>ap _ D _ h.loop (by intros;simp)⟩;rcases hS i m with j|j|⟨j,_⟩
   .simp[j]
   .simp[j]
   .omega
  .intro N N' X W h hN;let⟨v,hv1,hv2,ah⟩:=h.out;exact { h with out:=⟨v,hv1,hv2,λk b=>by have:=ah k b;omega⟩,lt:=by have:=h.lt;omega }
  .
   intro N X p W h b2 a1 hA;let⟨v,hv1,hv2,ah⟩:=h.out;have ae:=U h.loop;have hy:=run_yield (P:=prog) (args:=#[.agg #[ϕ p.k,ϕ p.v],.nilIface]) h.loop (by rw[G];simp[bf]);rw[G]at hy;refine⟨fn,_,assign,body,hy,roundIn_of_wpIn bd<|bc _ p _ W _ ?_⟩;have am:Kp [] W (W.alloc<|ϲ #[ϕ p.k,ϕ p.v] 42):=kF.alloc _;have ax:=am.hp h.loop;refine⟨_,run_beginRound ax (by rw[G]),?_⟩;obtain⟨C,az,T,aa,bj,a2⟩:∃C,C=(W.alloc<|ϲ #[ϕ p.k,ϕ p.v] 42).putObj (w.heap.size+1) (.loop { y .ready none with state:=.busy })/\C.heap[w.heap.size+1]?=some (.loop { y .ready none with state:=.busy })/\Kp [w.heap.size+1] W C/\C.heap[W.heap.size]?=some (ϲ #[ϕ p.k,ϕ p.v] 42)/\C.heap.size=W.heap.size+1:=
    ⟨_,rfl,World.putObj_heap_same sO,((am.mono sM).putObj sM _),(World.putObj_heap_other oM).trans<|φ _ _,by simp[World.putObj]⟩
   rw[<-az];have be:∀{k:Nat} {c:Array Value} {u:TypeId} {d:Nat×Nat},W.heap[k]?=some (ϲ c u d)->k∉[w.heap.size+1]:=λb D=>by
    rw[mS D,h.loop]at b;cases b
   have af:=aa.heap hv1<|be hv1;have an:=hv2.qK4 aa (λk b c d e=>by rw[mS b,h.loop]at e;cases e);have bs:=h.kp.trans aa (by intro i m ae;simp at m;omega);have av:∀k,v.ownBlock=some k->k<N/\∃ai,W.heap[k]?=some (ϲ ai 42):=λk b=>⟨ah k b,by
    rcases hv2.2 with⟨h0,_⟩|⟨gb,b1,ai,e1,Z,e3,_⟩
    .rw[h0]at b;cases b
    .rw[e1]at b;cases b;exact⟨ai,e3⟩⟩
   have bt:X.length<=70000:=by
    have j:=List.IsPrefix.length_le a1;have h2:=List.length_filter_le (Cv lo m) r.cont;have h3:=hA.live.sz;simp at j;omega
   refine wpIn_mono (bn _ X p C v W.heap.size h.lv af an bj oM (λe=>by have:=(av _ e).1;omega) bs h.le bt) ?_;rintro e a3 I hp
   cases e with
   | normal=>
    let⟨D,v3,S3,ab,au,ba,bi,b0⟩:=hp;have ac:=ab.heap T (λbu=>by
     rcases au _ bu with e|e
     .rw[<-e]at hv1;rw[h.loop]at hv1;cases hv1
     .let⟨_,ai,Z⟩:=av _ e;rw[h.loop]at Z;cases Z)
    have R:=run_endRound (P:=prog) none ac;rw[G]at R;have a8:Kp ((w.heap.size+1)::S3) W I:=(aa.mono sC).trans ab sC;have bq:∀k∈S3,k∈[H]\/w.heap.size<=k:=λk b=>by
     rcases au k b with e|e
     .exact .inl (by simp[e])
     .exact .inr<|hv2.low k e
    have b8:=ab.size;have ag:YS W N ((w.heap.size+1)::S3):=λk b=>by
     rcases List.mem_cons.1 b with e|e
     .rw[e];exact⟨h.lt,.inr ⟨_,h.loop⟩⟩
     .rcases au k e with Z|Z
      .rw[Z];refine⟨?_,.inl ⟨_,_,_,hv1,.inl rfl⟩⟩;have:=h.lt;omega
      .let⟨e3,ai,e4⟩:=av k Z;exact⟨e3,.inl ⟨_,_,_,e4,.inr rfl⟩⟩
    have f:Kp ((w.heap.size+1)::S3) W (I.putObj (w.heap.size+1)<|.loop<|y .ready none):=a8.putObj sM _;have bl:=ag.qK4 f h.hSt ⟨dC,.inl dC⟩;have O:∀{k:Nat} {c:Array Value} {u:TypeId} {d:Nat×Nat},I.heap[k]?=some (ϲ c u d)->k≠w.heap.size+1:=λb e=>by rw[e,ac]at b;cases b
    refine⟨_,_,R,((w.heap.size+1)::S3),ag,?_,.inl ⟨rfl,?_⟩⟩
    .rw[G]at f;exact f
    .have ad:Nk E t s H M y w (I.putObj (w.heap.size+1)<|.loop<|y .ready none).heap.size (X++[p]) (I.putObj (w.heap.size+1)<|.loop<|y .ready none):=by
      refine⟨h.lv,h.kp.trans f λi m ae=>?_,bl,E.qL3 _ _ _ h.dev f ag.off,⟨v3,(World.putObj_heap_other<|O ba).trans ba,bi.qK4 ((Kp.refl [w.heap.size+1] I).putObj sM _) (λk b c d e=>by rw[mS b,ac]at e;cases e),λk b=>by have:=b0 k b;simp[World.putObj];omega⟩,sO,by simp[World.putObj];omega,?_,World.putObj_heap_same<|U ac⟩
      .rcases List.mem_cons.1 m with e|e
       .omega
       .rcases bq i e with Z|Z
        .simp at Z;simp[Z]
        .omega
      .refine (World.putObj_heap_other oM).trans<|a8.heap h.dfr λD=>?_;rcases List.mem_cons.1 D with e|e
       .omega
       .rcases au _ e with Z|Z
        .rw[<-Z]at hv1;rw[h.dfr]at hv1;cases hv1
        .let⟨_,ai,e4⟩:=av _ Z;rw[h.dfr]at e4;cases e4
     rw[G]at ad |-;exact ad
   | exit i=>
    obtain⟨rfl,D,rfl⟩:=hp;have R:=run_endRound (P:=prog) (some<|.exit i) T;rw[G]at R;have ag:YS W N [w.heap.size+1]:=λk b=>by rw[mS b];exact⟨h.lt,.inr ⟨_,h.loop⟩⟩
    have f:Kp [w.heap.size+1] W (I.putObj (w.heap.size+1)<|.loop<|y .done<|some<|.exit i):=aa.putObj sM _;refine⟨_,_,R,[w.heap.size+1],ag,?_,.inr ⟨rfl,?_⟩⟩
    .rw[G]at f;exact f
    .have ad:Nl E t s H M i y w (X++[p]) (I.putObj (w.heap.size+1)<|.loop<|y .done<|some<|.exit i):=
      ⟨h.lv,X,p,v,rfl,D,h.kp.trans f (by intro i m ae;simp at m;omega),ag.qK4 f h.hSt ⟨dC,.inl dC⟩,E.qL3 _ _ _ h.dev f ag.off,f.heap hv1<|be hv1,hv2.qK4 f (λk b c d e=>by rw[mS b,h.loop]at e;cases e),f.hp h.dfr,World.putObj_heap_same<|U T⟩
     rw[G]at ad |-;exact ad
   | ret=>exact hp.elim
   | goto l=>exact hp.elim
   | panic ch=>exact hp.elim
   | outgrown=>exact hp.elim
  .
   intro v k W hb;obtain⟨F,rfl⟩:=hb.val;let⟨hv,hb⟩:=hb;obtain⟨hL,hD,a4⟩:W.heap[w.heap.size+1]?=some (.loop<|y .ready none)/\W.heap[w.heap.size]?=some (.deferred<|some [])/\Dm E t s [H] w k W:=by
    rcases hb with⟨br,N,X,V,L,h,hf,ay,hK,hS⟩|⟨rfl,ho,ay,hK⟩
    .have ap:∀k∈L,∀o,V.heap[k]?=some o->(∀c u d,o≠.cells c u d)->False:=λk b o e ho=>by
      rcases hS k b with j|j|⟨_,c',ar,j⟩
      .rw[j,h.hSt]at e;cases e;exact ho _ _ _ rfl
      .let⟨c',t',ar,h2,h3⟩:=E.qT3 V h.dev k j;rw[e]at h2;cases h2;exact ho _ _ _ rfl
      .rw[e]at j;cases j;exact ho _ _ _ rfl
     refine⟨hK.heap h.loop λD=>ap _ D _ h.loop (by intros;simp),hK.heap h.dfr λD=>ap _ D _ h.dfr (by intros;simp),.inl ⟨br,h.lv,hf,ay,h.kp.trans hK λi m ae=>?_⟩⟩;rcases hS i m with j|j|⟨j,_⟩
     .simp[j]
     .simp[j]
     .omega
    .exact⟨hK.ho a9,hK.ho a7,.inr ⟨rfl,ho,ay,(ak.mono sM).trans hK sC⟩⟩
   have ae:=U hL;have hy:=run_yield (P:=prog) (args:=#[.agg #[ϕ ⟨#[]⟩,ϕ ⟨#[]⟩],.iface 243<|ϖ F]) hL (by rw[G];simp[bf]);rw[G]at hy;refine⟨fn,_,assign,body,hy,roundIn_of_wpIn bd<|bc _ ⟨⟨#[]⟩,⟨#[]⟩⟩ _ W _ ?_⟩;have am:Kp [] W (W.alloc<|ϲ ϝ 42):=kF.alloc _;have ax:=am.hp hL;refine⟨_,run_beginRound ax (by rw[G]),?_⟩;obtain⟨C,az,T,aa⟩:∃C,C=(W.alloc<|ϲ ϝ 42).putObj (w.heap.size+1) (.loop { y .ready none with state:=.busy })/\C.heap[w.heap.size+1]?=some (.loop { y .ready none with state:=.busy })/\Kp [w.heap.size+1] W C:=
    ⟨_,rfl,World.putObj_heap_same sO,((am.mono sM).putObj sM _)⟩
   rw[<-az];have bv:AH W [w.heap.size+1]:=λk b c u d e=>by rw[mS b,hL]at e;cases e
   have a5:=a4.on aa (Z':=[H]) sM sM bv sO;have hv2:=hv.qK4 aa (λi m c d e=>by rw[mS m,hL]at e;cases e);have aj:=aa.hp hD;apply wpIn_mono<|bm _ F k C W.heap.size a5 hv2;rintro e a3 I hp
   cases e with
   | ret=>
    let⟨⟨c1,a0⟩,⟨c2,hc2⟩,hr1,hr2,ab⟩:=hp;have aq:∀k o,C.heap[k]?=some o->(∀c u d,o≠.cells c u d)->k∉[B1,B2]:=λk o ho' hn D=>by
     simp[mC,lN,or_false]at D;rcases D with h|h<;>(subst h;rw[ho']at *;simp_all)
    have ac:=ab.heap T<|aq _ _ T (by intros;simp);have R:=run_endRound (P:=prog) (some .ret) ac;rw[G]at R;refine⟨_,_,R,rfl,?_⟩;let⟨s2,a2⟩:=a5.St;have bx:=a5.on ab (Z':=[H,B1,B2]) sC sM ((AH.one a0 dC).cons<|AH.one hc2 dC) (by
     simp[mC,lN,or_false,not_or];exact⟨Aa a2 a0 dC,Aa a2 hc2 dC⟩)
    have ah:=hv2.qK4 ab (λi m c d e=>by
     simp[mC,lN,or_false]at m;rcases m with h|h
     .rw[h,a0]at e;cases e
     .rw[h,hc2]at e;cases e)
    have bg:=ab.heap aj<|aq _ _ aj (by intros;simp);have al:Kp [w.heap.size+1] I (I.putObj (w.heap.size+1)<|.loop<|y .done<|some .ret):=kF.putObj sM _;have O:∀{k:Nat} {c:Array Value} {u:TypeId} {d:Nat×Nat},I.heap[k]?=some (ϲ c u d)->k∉[w.heap.size+1]:=λb D=>by rw[mS D,ac]at b;cases b
    have ad:(λW:World=>W.heap[w.heap.size+1]?=some (.loop<|y .done<|some .ret)/\W.heap[w.heap.size]?=some (.deferred<|some [])/\∃v k,Dm E t s [H,B1,B2] w k W/\AD W v k/\W.heap[B1]?=some (ϲ #[ϒ none 0 0] 29)/\W.heap[B2]?=some (ϲ #[v] 38)) (I.putObj (w.heap.size+1)<|.loop<|y .done<|some .ret):=
     ⟨World.putObj_heap_same<|U ac,al.hp bg,_,k,bx.on al sM sM (λk b c u d e=>(O e b).elim) sO,ah.qK4 al λi m c d e=>O e m,al.heap hr1<|O hr1,al.heap hr2<|O hr2⟩
    rw[G]at ad |-;exact ad
   | normal=>exact hp.elim
   | exit i=>exact hp.elim
   | goto l=>exact hp.elim
   | panic ch=>exact hp.elim
   | outgrown=>exact hp.elim
  .exact⟨⟨h.live.po,h.live.over⟩,ak.mono sM,h.live.hSt,h.live.dev,⟨_,ak.hp hO,Bm.nil _ _,λk b=>by cases b⟩,zL _,oM,a7,a9⟩
  .
   rintro e C ⟨⟨v,rfl⟩,⟨N,h⟩|⟨X,a1,hlv,q,p,v2,rfl,hM,hkp,hSt2,hd2,af,an,aj,T⟩|⟨T,aj,v2,k,a4,hv,hr1,hr2⟩⟩
   .let⟨v2,af,an,_⟩:=h.out;have R:=run_endLoop (P:=prog) h.loop (by rw[G];simp);rw[G]at R;have f:Kp [w.heap.size+1] C (C.putObj (w.heap.size+1) (.loop { y .ready none with state:=.exhausted })):=kF.putObj sM _;have a6:Cn r.cont lo m M=r.cont.filter (Cv lo m):=by
     rw[Cn];exact tL (by have:=h.le;simp;omega)
    have O:∀{k:Nat} {c:Array Value} {u:TypeId} {d:Nat×Nat},C.heap[k]?=some (ϲ c u d)->k∉[w.heap.size+1]:=λb D=>by rw[mS D,h.loop]at b;cases b
    refine⟨none,_,R,?_⟩;have:=bp (C.putObj (w.heap.size+1) (.loop { y .ready none with state:=.exhausted })) v2 h.lv (h.kp.trans f (by intro i m ae;simp at m;omega)) (f.heap h.hSt<|O h.hSt) (E.qL3 _ _ _ h.dev f (λk b c u d e=>by rw[mS b,h.loop]at e;cases e)) (f.heap af<|O af) (by rw[a6];exact an.qK4 f (λk b c d e=>by rw[mS b,h.loop]at e;cases e)) (f.hp h.dfr) (by have:=U h.loop;simp[World.putObj];omega);rw[G]at this;exact this
   .have R:=run_endLoop (P:=prog) T (by rw[G];simp);rw[G]at R;have f:Kp [w.heap.size+1] C (C.putObj (w.heap.size+1) (.loop { y .done (some<|.exit id) with state:=.exhausted })):=kF.putObj sM _;have a6:Cn r.cont lo m M=q:=by
     rw[Cn];let⟨z,hz⟩:=a1;rw[<-hz,Int.toNat_natCast,aA,<-hM,List.take_left'];rfl
    have O:∀{k:Nat} {c:Array Value} {u:TypeId} {d:Nat×Nat},C.heap[k]?=some (ϲ c u d)->k∉[w.heap.size+1]:=λb D=>by rw[mS D,T]at b;cases b
    refine⟨some<|.exit id,_,R,?_⟩;have:=bz (C.putObj (w.heap.size+1) (.loop { y .done (some<|.exit id) with state:=.exhausted })) v2 hlv (hkp.trans f (by intro i m ae;simp at m;omega)) (f.heap hSt2<|O hSt2) (E.qL3 _ _ _ hd2 f (λk b c u d e=>by rw[mS b,T]at e;cases e)) (f.heap af<|O af) (by rw[a6];exact an.qK4 f (λk b c d e=>by rw[mS b,T]at e;cases e)) (f.hp aj) (by have:=U T;simp[World.putObj];omega);rw[G]at this;exact this
   .have R:=run_endLoop (P:=prog) T (by rw[G];simp);rw[G]at R;have f:Kp [w.heap.size+1] C (C.putObj (w.heap.size+1) (.loop { y .done (some .ret) with state:=.exhausted })):=kF.putObj sM _;have O:∀{k:Nat} {c:Array Value} {u:TypeId} {d:Nat×Nat},C.heap[k]?=some (ϲ c u d)->k∉[w.heap.size+1]:=λb D=>by rw[mS D,T]at b;cases b
    refine⟨some .ret,_,R,?_⟩;have:=bw (C.putObj (w.heap.size+1) (.loop { y .done (some .ret) with state:=.exhausted })) v2 k (a4.on f sM sM (λk b c u d e=>(O e b).elim) sO) (hv.qK4 f λi m c d e=>O e m) (f.heap hr1<|O hr1) (f.heap hr2<|O hr2) (f.hp aj) (by have:=U T;simp[World.putObj];omega);rw[G]at this;exact this
end
section
attribute [local go_sem] Oper.semAt_some
def qG3(w:Ϣ)(a b:Value)(t:Ϯ):∀j u,[a,b][j]?=some u->(w.alloc (ϲ #[a,b] t)).cell? (((ϰ w.heap.size 0):Addr).add j)=some u:=λj u hj=>by
 rw[Cp,Y<|φ _ _];simpa using hj
def WK{W b:Ϣ}{X:Obj}{a:Option Nat}{k:Nat}{o:Obj}(h:W.heap[k]?=some o)(c:(W.alloc X).grownBy b a)(d:a≠some k):b.heap[k]?=some o:=
 (c.block k (by have:=U h;simp;omega) λe=>d e.symm).trans (ψ _ h)
def Bm.qY2{S}{w w'}{a n d:Nat}{v}{e:Ϩ}(h:w.ownsRow a 42 d v n e)(hK:Kp S w w')(p:∀k∈S,∀c fr,w.heap[k]?≠some (ϲ c 42 fr)):w'.ownsRow a 42 d v n e:=by refine⟨h.1,?_⟩;rcases h.2 with j|⟨g,f,i,l,m,b,o⟩;exact .inl j;exact .inr ⟨g,f,i,l,m,hK.heap b λq=>p g q _ _ b,o⟩
def Ms(E)(x A n:Nat)(t)(s)(r)(lo d)(q:Int)(w)(V:BC E w x A n t s r\/Fs x t s w)(bt:-9223372036854775808<=q)(bu:q<=9223372036854775807):Ω 71 #[ϖ x,ϕ lo,ϕ d,ϊ q] w λe w'=>∃l v k,e=ϱ (.tuple #[l,v])/\AD w' v k/\((k=none/\Bm w' w.heap.size l (Cn r.cont lo d q)/\Ee E w w' t s)\/(l=.slice none 0 0/\Dm E t s [] w k w')):=by have HL:=ξ V;(have aa:Hid (s.po=false/\t.over=false->BC E w x A n t s r):=λh=>V.resolve_right λg=>by rcases g.ov with e|e;rw[h.1]at e;cases e;rw[h.2]at e;cases e);have:=V.elim (λh=>U h.hx) λh=>U h.hx;have:=V.elim (λh=>U h.hSt) λh=>U h.hSt;clear V;obtain⟨M,hM⟩:∃M:Nat,M=q.toNat:=⟨_,rfl⟩;(have a5:Hid (Cn r.cont lo d q=Cn r.cont lo d M):=by show _=_;rw[Cn,Cn,hM,dD]);let⟨i0,bk,bq,br,bs⟩:=bF Ls;refine(eP (n:=9)).1 ?_;refine callsIn_of_wp_marks func71 rfl trivial ?_ rfl;simp only[ntmps71,dM,List.length_cons,aJ,Nat.reduceAdd,Nat.reduceSub,eE,eF,eW,List.append_toArray,List.nil_append,List.cons_append];let⟨j,a2,be,bg,a7,bf,aj,a1⟩:=KR w (ϲ #[ϊ (M:Int)] 3) (ϲ #[ϒ none 0 0] 29) (ϲ #[.nilIface] 38)<|ϲ #[ϒ none 0 0] 29;have ax:=zh a2;have aw:=zh a1;clear a2 a1;by_cases hb:q<1;(focus let⟨bb,a0⟩:=eX true;have C:(0:Int)=(M:Int):=oM;have ai:=zh C;clear C hM;gi_wp2_with fail;refine⟨trivial,?_⟩;rw[ai.out,<-ax.out]);rotate_left;(focus let⟨bb,a0⟩:=eX false;have C:q=(M:Int):=oM;have ai:=zh C;clear C hM;gi_wp2_with fail;refine⟨trivial,?_⟩;(have B:(((w.alloc<|ϲ #[ϊ q] 3).alloc<|ϲ #[ϒ none 0 0] 29).alloc<|ϲ #[.nilIface] 38).alloc (ϲ #[ϒ none 0 0] 29)=j:=by rw[ax.out,<-ai.out]);rw[B];clear B);all_goals refine eP.2<|(KS x lo d j).mono ?_;rintro e y ⟨rfl,ay,bd,ba,L⟩;have ac:CT E x A n t s r j.heap.size (j.heap.size+1) (j.heap.size+2) lo d y\/(Fs x t s y/\y.heap[j.heap.size]?=some (ϲ #[ϖ x] 32)):=HL.out.imp (λh=>⟨(h.more aj).more L,ay,bd,ba⟩) λh=>⟨(h.more aj).more L,ay⟩;have C:=L.hp be;have X:=L.hp bg;have T:=L.hp a7;have ad:=L.hp bf;have au:=zh<|aj.tr L;have:=L.size;gi_wp2_with fail;have:t.St≠w.heap.size+1+1+1:=oM;refine qI4 E x A n t s r j.heap.size (j.heap.size+1) (j.heap.size+2) (w.heap.size+1+1+1) M 0 (w.heap.size+1) (w.heap.size+1+1) lo d dC rfl rfl ac ad (λp v Pb=>{ tmps:=#[ϖ x,ϕ lo,ϕ d,ϊ q,undef,undef,undef,ϖ w.heap.size,ϖ<|w.heap.size+1,ϖ<|w.heap.size+1+1,ϖ<|w.heap.size+1+1+1,ϖ Pb,v,ϊ q,ϐ bb,ϖ x,ϕ lo,ϕ d,.func (.func 176) #[] #[ϖ j.heap.size,ϖ<|j.heap.size+1,ϖ<|j.heap.size+2],.agg #[ϕ p.k,ϕ p.v],v,undef,undef,undef,undef,undef,undef,undef,undef,undef,undef,undef,undef],defers:=[] }) ?_ ?_ ?_ ?_ ?_ ?_;(.intro l p v W K hK;gi_wp2;subst a0;exact hK);(.intro l pre p W v Pb ag D N hP hPb hown o hle hlen;have ak:=o.heap C (by simp only[List.mem_cons,bY];exact⟨oM,oM,λh=>by have:=E.low w (aa ag).dev _ h;omega⟩);have:=U D;have:=U hP;have:=U ak;have:=ϻ D 0;have:=ω D 0;have:=Y hP;have:=ϻ ak 0;obtain⟨G,H,rfl⟩:=N.form;by_cases hq:pre.length=M;(.have:(pre.length:Int)=(M:Int):=oM;gi_wp2;all_goals exact⟨rfl,hq,rfl⟩);have:¬(pre.length:Int)=(M:Int):=oM;have av:=zh<|n3 D N o;have:=o.size;(have a3:Hid ((Value.slice G pre.length H).ownBlock≠some (w.heap.size+1+1+1)):=λe=>by rcases N.2 with⟨h0,_⟩|⟨gb,cap,cur,e1,e2,e3,_⟩;rw[h0]at e;cases e;rw[e1]at e;cases e;rw[D]at e3;cases e3);clear C X T ad ac D hP ak N o;gi_wp2_with (gi_at_builtin;refine wpListIn_append_own _ rfl _ _ 29 rfl y.heap.size 42 i0 (.agg #[ϕ ⟨#[]⟩,ϕ ⟨#[]⟩]) 2 32 underlying29 bk bq br bs rfl dC _ _ _ rfl (World.ownsRow.alloc av.2.1 _) (ϰ W.heap.size 0) 1 1 [ϕ p.k,ϕ p.v] rfl rfl (qG3 _ _ _ _) (by simp[Value.oneCell']) (by unfold maxLen;omega) oM sO ?_;intro v5 z al am _;obtain⟨g5,c5,rfl⟩:=D7 al;have ae:=WK av.1 am a3;have o5:=Y ae 0;have:=ω ae 0;simp only[zG,zH]at o5);have bo:pre.length<M:=oM;have:=am.size;refine⟨bo,ϑ g5 0 (pre.length+1) c5,[w.heap.size+1+1+1]++(Value.slice G pre.length H).ownBlock.toList,?_,?_,η ae 0 _,?_,?_⟩;refine((((kE _ W).alloc _).grown am λk f=>.inl<|aH.2<|.inr (by have bl:(Value.slice G pre.length H).ownBlock=some k:=f;rw[bl];simp)).sc _);intro k f;rcases aH.1 f with h|h;exact .inl<|aC.1 h;exact .inr<|sU h;have e:=ZA pre p;unfold Bm;rw[e,List.length_append];refine Bm.qY2 al ((kE [w.heap.size+1+1+1] z).sc _) λk f c R e=>?_;rw[aC.1 f,ae]at e;cases e;intro k f;have:=(World.ownsRow.lt al k f).2;simp[World.setCell];omega);(.intro l F k W Pb O Z;(have ap:∀i,w.heap.size<=i->s.po=false/\t.over=false->i∉E.S:=λi d h hm=>by have:=E.low w (aa h).dev i hm;omega);have b:=O.old X sO<|ap _ oM;have a:=O.old T sO<|ap _ oM;have:=U b;have:=U a;have:=ϻ b 0;have:=ω b 0;have:=ϻ a 0;have:=ω a 0;(have:∀W:World,Sem.run prog (binOp .neq 38 (.iface 243<|ϖ F) .nilIface) W=.ok (ϐ true) W:=λW=>by kernel_rfl);have ab:=ξ<|n2 b a;clear X T b a O Z ac ad C ap;gi_wp2;exact⟨⟨_,ab.1⟩,⟨_,ab.2⟩,(Bd oM _ _).trans<|η ab.1 0 _,η ((Bd oM _ _).trans ab.2) 0 _,((kE _ _).sc _).sc _⟩);(.intro W v k O Z b a m ao;have P:=Y b 0;have B:=Y a 0;simp only[zG,zH]at P B;have HF:=ξ<|n2 O<|n2 Z<|n2 b<|n2 a m;gi_wp2;let⟨O,Z,b,a,m⟩:=HF.out;have:=aw.out;refine⟨sM,.inl ⟨_,_,rfl,run_takeDeferred m,?_⟩⟩;obtain⟨z,ar,I⟩:∃z,z=W.putObj y.heap.size (.deferred none)/\Kp [y.heap.size] W z:=⟨_,rfl,(kE _ _).putObj sM _⟩;rw[<-ar];(have ah:∀{k:Nat} {c:Array Value} {u:TypeId} {R:Nat×Nat},W.heap[k]?=some (ϲ c u R)->k∉[y.heap.size]:=λf hm=>by rw[aC.1 hm,m]at f;cases f);have P:=Y (I.heap b<|ah b) 0;have B:=Y (I.heap a<|ah a) 0;simp only[zG,zH]at P B;refine⟨.tuple #[ϒ none 0 0,v],?_,_,v,k,rfl,Z.qK4 I λi d c R e=>ah e d,.inr ⟨rfl,(O.on I (Z':=[w.heap.size+1+1+1,w.heap.size+1,w.heap.size+1+1]) sM sM (λk f c u R e=>(ah e f).elim) sO).low au λi d=>?_⟩⟩;(.simp[results,results71,go_sem,P,B]);simp at d;omega);all_goals intro W v ag o af hd D N m ao;(have an:∀k,w.heap.size<=k->k≠w.heap.size+1+1+1->k∉t.St::(w.heap.size+1+1+1)::E.S:=λk f hne hm=>by simp only[List.mem_cons]at hm;rcases hm with h|h|h;omega;omega;have:=E.low w (aa ag).dev _ h;omega);have b:=o.heap X<|an _ oM oM;have a:=o.heap T<|an _ oM oM;have:=U D;have:=U b;have:=U a;let⟨G,H,bj⟩:=N.form;subst bj;have o0:=ϻ D 0;have:=ϻ b 0;have:=ω b 0;have:=ϻ a 0;have:=ω a 0;let⟨S,aq⟩:=eX<|(Cn r.cont lo d M).length;rw[<-aq]at o0;(have a4:Hid (Bm W y.heap.size (ϒ G S H)<|Cn r.cont lo d M):=by rwa[aq]);have HW:=zh<|n6 af hd o b a m;clear C X T ad ac af hd o b a m D N aq an;gi_wp2;let⟨af,hd,o,b,a,m⟩:=HW.out;have:=aw.out;have az:=(au.mono sM).trans o λ_ h _=>h;have:=az.size;have:=E.low w (aa ag).dev;obtain⟨Q,bp,bh,a8,a6,bc⟩:∃Q,Q=(W.setCell (ϰ (w.heap.size+1) 0)<|ϒ G S H).setCell (ϰ (w.heap.size+1+1) 0) .nilIface/\Q.heap[w.heap.size+1]?=some (ϲ #[ϒ G S H] 29)/\Q.heap[w.heap.size+1+1]?=some (ϲ #[.nilIface] 38)/\Q.heap[y.heap.size]?=some (.deferred<|some [])/\Kp [w.heap.size+1,w.heap.size+1+1] W Q:=⟨_,rfl,(Bd oM _ _).trans<|η b 0 _,η ((Bd oM _ _).trans a) 0 _,(Bd oM _ _).trans<|(Bd oM _ _).trans m,((kE _ _).sc _).sc _⟩;rw[<-bp];refine⟨sM,.inl ⟨_,_,rfl,run_takeDeferred a6,?_⟩⟩;obtain⟨z,ar,bi,a9,I⟩:∃z,z=Q.putObj y.heap.size (.deferred none)/\z.heap[w.heap.size+1]?=some (ϲ #[ϒ G S H] 29)/\z.heap[w.heap.size+1+1]?=some (ϲ #[.nilIface] 38)/\Kp [w.heap.size+1,w.heap.size+1+1,y.heap.size] W z:=⟨_,rfl,(World.putObj_heap_other oM).trans bh,(World.putObj_heap_other oM).trans a8,(bc.mono sC).putObj sM _⟩;rw[<-ar];have P:=Y bi 0;have B:=Y a9 0;simp only[zG,zH]at P B;have bm:=(AH.one b dC).cons<|(AH.one a dC).cons (λk f c t R e=>by rw[aC.1 f,m]at e;cases e);have bn:=a4.out.qK4 I (λk f c R e=>by simp only[List.mem_cons,List.not_mem_nil,aD]at f;rcases f with h|h|h;rw[h,b]at e;cases e;rw[h,a]at e;cases e;rw[h,m]at e;cases e);refine⟨.tuple #[ϒ G S H,.nilIface],?_,ϒ G S H,.nilIface,none,rfl,rfl,.inl ⟨rfl,?_,E.qL3 _ _ _ hd I bm,I.heap af ?_,az.trans I ?_ |>.mono ?_⟩⟩;(.simp[results,results71,go_sem,P,B]);rw[a5.out];exact D8 bn oM;simp only[List.mem_cons,List.not_mem_nil,aD,bY];exact⟨oM,oM,oM⟩;intro i d ao;simp at d;omega;intro i d ao;simp only[List.mem_cons]at d |-;rcases d with h|h|h;exact .inl h;omega;exact .inr h
end
variable {κ:Nat}
structure Wr(d A:Nat)(w a:Ϣ):Prop where
 os:a.os=w.os
 tape:a.tape=w.tape
 output:a.output=w.output
 size:w.heap.size<=a.heap.size
 low:∀k,k<d->k≠A->a.heap[k]?=w.heap[k]?
 oth:∀(k:Nat)(c:ϧ)(t:Ϯ)(b:Nat×Nat),w.heap[k]?=some (ϲ c t b)->t≠117->k≠A->a.heap[k]?=some (ϲ c t b)
def Wr.trans{g A:Nat}{a b c}(h:Wr g A a b)(k:Wr g A b c):Wr g A a c:=
 ⟨k.os.trans h.os,k.tape.trans h.tape,k.output.trans h.output,lT h.size k.size,λq d f=>(k.low q d f).trans<|h.low q d f,λq c t fr e d f=>k.oth q c t fr (h.oth q c t fr e d f) d f⟩
def Wr.qN3{f A:Nat}{a b}(h:Kp [A] a b)(i:f<=a.heap.size):Wr f A a b:=
 ⟨h.os,h.tape,h.output,h.size,λk g d=>h.block k oM (sU d),λk c t fr e g d=>h.heap e (sU d)⟩
def Wr.grown{d A:Nat}{a w w'}{j:Nat}{v}{n:Nat}{l:Ϩ}(s:Wr d A a w)(m:d<=a.heap.size)(h:w.ownsRow d 117 j v n l)(b:w.grownBy w' v.ownBlock):Wr d A a w':=
 ⟨b.os.trans s.os,b.tape.trans s.tape,b.output.trans s.output,lT s.size b.size,λk f g=>by
  refine(b.block k (oW s.size) ?_).trans<|s.low k f g;intro e;have:=qL8 h k e.symm;omega,λk c t i e f g=>Fe h b (s.oth k c t i e f g) f⟩
def C3{w w'}{S}{b:Nat}{e}{d:Nat}{v}{n:Nat}{f:Ϩ}(h:w.ownsRow b e d v n f)(hK:Kp S w w')(m:χ w S [e]):w'.ownsRow b e d v n f:=by refine⟨h.1,?_⟩;rcases h.2 with a|⟨g,i,j,a,k,c,l⟩;exact Or.inl a;exact Or.inr ⟨g,i,j,a,k,hK.heap c λo=>m g o _ _ _ c sM,l⟩
variable {κ:Nat}
def B5(x:Nat×List UInt8):List Value:=.int .i64 (x.1:Int)::AT x.2
def laidAll(l:List UInt8)(ws:List (Nat×List UInt8)):List UInt8:=ws.foldl (fun l x=>AO l x.1 x.2) l
def Ly(l:ϣ)(a:ϥ)(j:Nat)(h:j<a.length):laidAll l (a.take (j+1))=AO (laidAll l (a.take j)) a[j].1 a[j].2:=by unfold laidAll;rw[tA h,List.foldl_append];rfl
def FO(l b)(i n:Nat)(a:b.length=128)(d:n*128<=l.length)(c:i<n):n*128<=(AO l i b).length:=by unfold AO;simp[lA,lK,lD];omega
def Mv(l b)(i n:Nat)(a:b.length=128)(d:n*128<=l.length)(c:i<n):(AO l i b).length=l.length:=by unfold AO;simp[lA,lK,lD];omega
def XA(n:Nat)(ws):∀(l),n*128<=l.length->(∀x∈ws,x.1<n/\x.2.length=128)->(laidAll l ws).length=l.length:=by induction ws with|nil=>intro l h _;rfl|cons a ws ih=>intro l h d;have b:=d a sM;have c:=Mv l a.2 a.1 n b.2 h b.1;rw[<-c];exact ih _ (by rw[c];exact h) λx e=>d x (by simp[e])
def Dy(n:Nat)(ws):∀(l),n*128<=l.length->(∀x∈ws,x.1<n/\x.2.length=128)->n*128<=(laidAll l ws).length:=by induction ws with|nil=>intro l h _;exact h|cons a ws ih=>intro l h c;have b:=c a sM;exact ih _ (FO l a.2 a.1 n b.2 h b.1) λx d=>c x (by simp[d])
def Lj{c g:Type}(f:c->List g)(m:Nat)(l:List c):(∀x∈l,(f x).length=m)->∀j (h:j<l.length),((l.flatMap f).drop (j*m)).take m=f l[j]:=by induction l with|nil=>intro _ j h;cases h|cons a l ih=>intro b j h;have d:=b a sM;cases j with|zero=>simp[Nat.zero_mul,dZ,fC,zF];rw[List.take_append_of_le_length oM,tL oM]|succ j=>simp[fC,zE];rw[show(j+1)*m=(f a).length+j*m from by rw[d,Nat.succ_mul];omega,<-List.drop_drop,List.drop_left];exact ih (λx e=>b x (by simp[e])) j (sU h)
variable {κ:Nat}
def Wr.tail{b A:Nat}{a w w'}{S}(h:Wr b A a w)(hK:Kp S w w')(g:∀k∈S,a.heap.size<=k)(j:b<=a.heap.size):Wr b A a w':=
 ⟨hK.os.trans h.os,hK.tape.trans h.tape,hK.output.trans h.output,lT h.size hK.size,λk d f=>(hK.block k (oW h.size) (λhm=>by have:=g k hm;omega)).trans<|h.low k d f,λk c t i e d f=>hK.heap (h.oth k c t i e d f) (λhm=>by have:=g k hm;have:=U e;omega)⟩
def Zr(p)(h:A2 p):∀x∈Bl p,0<=x/\x<256:=by let⟨h1,h2,h3⟩:=h;intro x a;simp only[Bl,aH,aC]at a;rcases a with (rfl|a)|a;omega;exact Mz _ x a;exact Mz _ x a
def X4(h)(b:h.key.size<=8):∀x∈Bo h,0<=x/\x<256:=by intro x a;simp only[Bo,aH,aC]at a;rcases a with ((a|a)|rfl)|a;exact DH _ _ x a;exact DH _ _ x a;omega;exact Mz _ x a
def Cj(c:Int)(d)(hs)(h:0<=c)(i:c<256)(g:d.length+hs.length<=255)(f:∀p∈d,A2 p)(e:∀p∈hs,p.key.size<=8):∀x∈Az c d hs,0<=x/\x<256:=by intro x a;simp only[Az,DA,aH,mC,lN,aD,aS]at a;rcases a with (((rfl|rfl)|⟨p,b,a⟩)|⟨p,b,a⟩)|a;omega;omega;exact Zr p (f p b) x a;exact X4 p (e p b) x a;rw[List.eq_of_mem_replicate a];omega
def Ov(a:List Int)(h:∀x∈a,0<=x/\x<256):AT (ι a)=Ax a:=by unfold AT ι Ax;rw[jG];refine fQ λx b=>?_;have:=h x b;simp only[Function.comp];congr 1;(have e:(UInt8.ofNat x.toNat).toNat=x.toNat:=by rw[iT];omega);rw[e];omega
def DJ(a:List Int):(ι a).length=a.length:=by simp[ι]
def Ek(T:Ϯ)(w a:Ϣ):Prop:=∀(k:Nat)(c:ϧ)(t:Ϯ)(fr:Nat×Nat),w.heap[k]?=some (ϲ c t fr)->t≠T->a.heap[k]?=some (ϲ c t fr)
def Ek.refl(T)(w):Ek T w w:=λ_ _ _ _ h _=>h
def Ek.kp{T}{a b c}(h:Ek T a b)(k:Kp [] b c):Ek T a c:=λq x t d e f=>k.heap (h q x t d e f) sM
def Ek.grown{T}{a w w'}{c:Nat}{g:Nat}{v}{n:Nat}{i:Ϩ}(s:Ek T a w)(h:w.ownsRow c T g v n i)(f:w.grownBy w' v.ownBlock):Ek T a w':=λq x t d e b=>Fe h f (s q x t d e b) b
def qA9{w}{g a k d:Nat}{cur}{t}{fr}{l}(f:w.heap[g]?=some (ϲ cur t fr))(h:a+k<=cur.size)(i:Am cur a k=(AT l).toArray):Sem.run prog (convert 118 9 (.slice (some (ϰ g a)) k d)) w=.ok (ϕ ⟨l.toArray⟩) w:=by
 rw[eJ w _ _ _ _ _ _ underlying118 underlying5 underlying9];have e:(l.map λb=>(b.toNat:Int)).map (Value.int .u8)=AT l:=by simp[AT]
 have c:=IM (P:=prog) (o:=a) (n:=k) f h;rw[i,<-e]at c;rw[jC w _ _ _ _ c,Ll];simp
def Mr{w}{g a k cap:Nat}{cur}{t}{fr}{s}(b:w.heap[g]?=some (ϲ cur t fr))(c:a+k<=cur.size)(d:Am cur a k=(AT s.data.toList).toArray):Sem.run prog (convert 118 9 (.slice (some (ϰ g a)) k cap)) w=.ok (ϕ s) w:=by rw[qA9 b c d,Array.toArray_toList]
def FT(s):ι (D9 s)=s.data.toList:=by unfold ι D9;rw[jG];refine Eq.trans (fQ (g:=id) λb _=>?_)<|List.map_id _;simp only[Function.comp,dD,id];exact jE
def Ul(bl)(a:Nat)(p)(i:A2 p)(j:(bl.drop a).take (μ p)=ι (Bl p)):(enc bl)[a]?=some (.int .u8 ((p.k.size:Int)*16+p.v.size))/\Am (enc bl) (a+1) p.k.size=(AT p.k.data.toList).toArray/\Am (enc bl) (a+1+p.k.size) p.v.size=(AT p.v.data.toList).toArray:=by let⟨k,m,n⟩:=i;have o:μ p=1+p.k.size+p.v.size:=rfl;have d:p.k.data.toList.length=p.k.size:=bL;have q:p.v.data.toList.length=p.v.size:=bL;(have e:(bl.drop a).take (μ p)=[UInt8.ofNat ((p.k.size:Int)*16+p.v.size).toNat]++p.k.data.toList++p.v.data.toList:=by rw[j,Bl,CS,CS,FT,FT];rfl);let⟨l,b⟩:=eX<|bl.drop a;rw[<-b]at e;refine⟨?_,?_,?_⟩;(have c:l[0]?=some (UInt8.ofNat ((p.k.size:Int)*16+p.v.size).toNat):=by have:=congrArg (λz=>z[0]?) e;simp only[aX,aA,cA,nA,zH]at this;rw[aR oM]at this;exact this);rw[b,bU,bG]at c;unfold enc AT;rw[zG,bQ,c];simp only[Option.map_some,aP,Value.int.injEq,bN];rw[iT];omega;rw[Ez];(have f:(bl.drop<|a+1).take p.k.size=p.k.data.toList:=by rw[<-bH,<-b];have h:=congrArg (λz=>(z.drop 1).take p.k.size) e;simp only[dU,cP,aA,cA,nA,List.drop_succ_cons,dZ]at h;rwa[dE oM,List.take_left' d]at h);rw[f];rfl;rw[Ez];(have g:(bl.drop<|a+1+p.k.size).take p.v.size=p.v.data.toList:=by rw[gX,<-bH,<-b];have h:=congrArg (λz=>(z.drop<|1+p.k.size).take p.v.size) e;simp only[dU,cP]at h;rw[dE oM]at h;rw[h,fX (by simp[d];omega),tL oM]);rw[g];rfl
def ZN(B q c:Nat)(bl)(p)(ps)(v)(w)(y:w.heap[B]?=some (ϲ (enc bl) 288))(T:bl.length=128)(hp:A2 p)(a7:c+μ p<=128) (ad:(bl.drop c).take (μ p)=ι (Bl p)) (hv:w.ownsRow q 185 2 v ps.length (Aj ps)) (hb:q<=w.heap.size) (hl:ps.length<=1000):Ω 274 #[v,.slice (some (ϰ B c)) (128-c) (128-c)] w λe M=>∃v' r,e=ϱ (.tuple #[v',r,ϐ true])/\(c+μ p<128->r=.slice (some ⟨B,c+μ p,none⟩) (128-(c+μ p)) (128-(c+μ p)))/\(∃o,r=.slice (some (ϰ B o)) (128-(c+μ p)) (128-(c+μ p)))/\M.ownsRow q 185 2 v' (ps.length+1) (Aj (ps++[p]))/\Below q w M/\Ek 185 w M:=by let⟨aa,ab,ac⟩:=hp;have a9:μ p=1+p.k.size+p.v.size:=rfl;let⟨m,I⟩:=eX<|128-c;obtain⟨x,hx⟩:∃x:Int,x=(p.k.size:Int)*16+p.v.size:=⟨_,rfl⟩;obtain⟨a,V⟩:∃a:Nat,a=p.k.size:=⟨_,rfl⟩;obtain⟨b,ag⟩:∃b:Nat,b=p.v.size:=⟨_,rfl⟩;have a4:x / 16=(a:Int):=oM;have be:x % 16=(b:Int):=oM;have a6:(0:Int)<(m:Int):=oM;have a5:((m:Int) == 0)=false:=sO;have ax:¬(a:Int)<1:=oM;have ay:¬(8:Int)<(a:Int):=oM;have az:¬(12:Int)<(b:Int):=oM;have a0:¬(m:Int)<1+(a:Int)+(b:Int):=oM;have bc:=Ul bl c p ⟨aa,ab,ac⟩ ad;let⟨ba,ae,C⟩:=bc;(have b0:w.cell? (ϰ B c)=some (.int .u8 x):=by rwa[Y y,hx]);rw[<-V]at ae C;rw[<-ag]at C;have l:Hid (m=128-c/\c+(1+a+b)<=128):=⟨I,oM⟩;(have ap:Hid (μ p=1+a+b):=by show _=_;omega);have HB:=zh y;have:=U y;rw[<-I,ap.out];clear ad y hx V ag I ba a9 a7 aa ab ac;go_enter func274,ntmps274;go_wp2_with fail;go_quiet (fail);go_wp2_with fail;obtain⟨k,ah,O,au,af⟩:∃k,k=w.drewN nq/\Ϙ k B (ϲ (enc bl) 288)/\Kp [] w k/\k.heap.size=w.heap.size:=⟨_,rfl,HB,(kE _ _).drewN _,rfl⟩;rw[<-ah];clear ah b0 a4 be a6 a5 ax ay az a0;(have:a<=m-1:=by have:=l.out;omega);(have:a+b<=m-1:=by have:=l.out;omega);have:(a:Int)<=((m-1:Nat):Int):=oM;have:(a:Int)+(b:Int)<=((m-1:Nat):Int):=oM;have:(a:Int)<=(a:Int)+(b:Int):=oM;(have:IntKind.i64.wrap ((a:Int)+(b:Int))=(a:Int)+(b:Int):=by rw[IntKind.wrap_i64];have:=l.out;omega);let⟨L,Z⟩:=eX (if m-1=a then c+1 else c+1+a);have E:=zh Z;clear Z;have:((a:Int)+(b:Int)).toNat-a=b:=oM;(have a1:c+1+a<=(enc bl).size:=by rw[CF,T];have:=l.out;omega);(have a2:c+1+a+b<=(enc bl).size:=by rw[CF,T];have:=l.out;omega);(have a3:L+b<=(enc bl).size:=by rw[E.out];split;omega;exact a2);(have aq:Hid (Am (enc bl) L b=(AT p.v.data.toList).toArray):=by show _=_;rw[E.out];split;rename_i he;have bd:b=0:=oM;have h:=C;rw[bd]at h |-;rw[<-h];simp[Am];exact C);have d:Ϙ k.drew B (ϲ (enc bl) 288):=O;refine aB (S:=λW=>Ϙ W B<|ϲ (enc bl) 288) kR d λ_=>?_;refine zN 0 d ?_;apply zN 1 d;apply zN 2 d;refine zV 3 _ rfl (λW i=>by have:=Mr (cap:=m-1) i a1 ae;clear i;go_simp;rfl) d ?_;refine zN 4 d ?_;apply zN 5 d;refine zN 6 d ?_;refine zN 7 d ?_;apply zN 8 d;apply zV 9 (ϑ B L b<|m-1-a) rfl (λW i=>by clear i;go_simp;rw[E.out];split<;>rfl) d;refine zV 10 _ rfl (λW i=>by have:=Mr (cap:=m-1-a) i a3 aq;clear i;go_simp;rfl) d ?_;apply zN 11 d;refine zN 12 d ?_;refine zq 13 λK hK=>?_;go_simp;obtain⟨n,ai,t,P,av,bb⟩:∃n,n=(k.alloc<|ϲ ϝ 185).drew/\Ϙ n w.heap.size (ϲ ϝ 185)/\Ϙ n B (ϲ (enc bl) 288)/\Kp [] w n/\n.heap.size=w.heap.size+1:=⟨_,rfl,by rw[<-af];exact φ k _,ψ _ O,(au.alloc _).drew,by simp[af]⟩;rw[<-ai];clear ai;refine hK.out _ _ P λ_=>?_;(try simp[zZ]);refine zq 14 λK hK=>?_;have z0:=Y t;have f0:=ω t;have:=U t;have ao:=zh t;clear t;go_simp;obtain⟨f,aj,G,Q,aw,bh⟩:∃f,f=(n.setCell (ϰ w.heap.size 0)<|ϕ p.k).setCell (ϰ w.heap.size 1) (ϕ p.v)/\Ϙ f w.heap.size (ϲ #[ϕ p.k,ϕ p.v] 185)/\Ϙ f B (ϲ (enc bl) 288)/\Kp [] w f/\f.heap.size=w.heap.size+1:=⟨_,rfl,η (η ao 0 _) 1 _,(Bd oM _ _).trans<|(Bd oM _ _).trans P,(av.setCell (Or.inr<|aM _) _).setCell (Or.inr<|aM _) _,by simp[bb]⟩;rw[<-aj];clear aj z0 f0;refine hK.out _ _ Q λ_=>?_;refine zd ?_;(try simp[zZ]);go_wp2_with fail;let⟨D,X⟩:=eX (if m-1=a+b then c+1 else c+1+(a+b));have N:=zh X;clear X;have:(0:Int)<=(a:Int)+(b:Int):=oM;have:((a:Int)+(b:Int)).toNat=a+b:=oM;have j:Ϙ f.drew w.heap.size (ϲ #[ϕ p.k,ϕ p.v] 185):=G;refine aB (S:=λW=>Ϙ W w.heap.size<|ϲ #[ϕ p.k,ϕ p.v] 185) kR j λ_=>?_;apply zN 0 j;apply zw 1 j id;apply zN 4 j;refine zN 5 j ?_;apply zN 6 j;apply zN 7 j;refine zV 8 (ϑ B D (m-1-(a+b))<|m-1-(a+b)) rfl (λW i=>by clear i;go_simp;rw[N.out];split<;>rfl) j ?_;refine zq 2 λK hK=>?_;go_simp;obtain⟨s,ak,R,H,F,bi⟩:∃s,s=(f.alloc<|ϲ #[ϕ p.k,ϕ p.v] 185).drew/\Ϙ s f.heap.size (ϲ #[ϕ p.k,ϕ p.v] 185)/\Ϙ s w.heap.size (ϲ #[ϕ p.k,ϕ p.v] 185)/\Kp [] w s/\s.heap.size=f.heap.size+1:=⟨_,rfl,φ f _,ψ _ G,(aw.alloc _).drew,sM⟩;rw[<-ak];clear ak;refine hK.out _ _ H λ_=>?_;(try simp[zZ]);have A:=C3 hv F<|χ.nil _ _;refine zq 3 λK hK=>?_;refine Ke rfl rfl (.agg #[ϕ ⟨#[]⟩,ϕ ⟨#[]⟩]) 2 32 underlying186 Lt rfl dC q v ps.length (Aj ps) (by simp[Act.eval]) A f.heap.size 0 1 1 #[ϕ p.k,ϕ p.v] 185 (0,0) (by simp[Act.eval]) R sM (by simp[Am,Value.oneCell']) oM oM oM ?_;intro v4 w4 a8 z _;(have u:Ϙ w4 w.heap.size (ϲ #[ϕ p.k,ϕ p.v] 185):=by refine(z.block _ oM ?_).trans H;rcases hv.2 with⟨rfl,_⟩|⟨g,cap,bf,rfl,_,hh,_⟩;simp[Value.ownBlock];intro e;simp[Value.ownBlock,aP]at e;have:=U hh;omega);(have an:Hid (w4.ownsRow q 185 2 v4 (ps.length+1)<|Aj<|ps++[p]):=by (have e:Aj (ps++[p])=Aj ps++(Am #[ϕ p.k,ϕ p.v] 0 (1*2)).toList:=by simp[Aj,DT,Am]);show World.ownsRow _ _ _ _ _ _ _;rwa[e]);have am:=zh<|(F.below hb sM).grown z oM<|qL8 A;have ar:=zh<|((Ek.refl _ w).kp F).grown A z;refine hK.out _ _ u λ_=>?_;clear hK K a8 z A;(try simp[zZ]);refine zq 9 λK hK=>?_;go_simp;apply zk hK u;refine zq 10 λK hK=>?_;go_simp;apply zk hK u;refine zq 11 λK hK=>?_;go_simp;apply zk hK u;refine zd ?_;(have al:Hid (c+(1+a+b)<128->(Value.slice (some<|ϰ B D) (m-1-(a+b))<|m-1-(a+b))=ϒ (some ⟨B,c+(1+a+b),none⟩) (128-(c+(1+a+b))) (128-(c+(1+a+b)))):=by intro bg;have:=l.out;rw[N.out,aO oM,show c+1+(a+b)=c+(1+a+b) from by omega,show m-1-(a+b)=128-(c+(1+a+b)) from by omega]);clear u R H G Q;go_wp2;go_ret3;refine⟨v4,_,rfl,al,⟨D,?_⟩,an,am,ar⟩;show Value.slice (some<|ϰ B D) (m-1-(a+b)) (m-1-(a+b))=_;rw[show m-1-(a+b)=128-(c+(1+a+b)) from by have:=l.out;omega]
def Ka{α:Type}{R:α->Prop}{G:Prop}(h:∃a,R a/\(R a->G)):G:=h.elim λ_ h=>h.2 h.1
def Hh{c:Type}(l:List c)(b N:Nat)(A B C:List c)(h:(l.drop b).take N=A++B++C):(l.drop (b+A.length)).take B.length=B:=by
 have d:(A++B++C).length<=N:=by rw[<-h];exact List.length_take_le _ _
 simp[lA]at d;have a:=congrArg (λz=>(z.drop A.length).take B.length) h;simp[dU,cP,bH,aA,List.drop_left,List.take_left]at a;rwa[dE oM]at a
def Hx(bl)(o k:Nat)(a:List Int)(c:∀x∈a,0<=x/\x<256)(d:a.length=k)(h:(bl.drop o).take k=ι a):∀j,j<k->(enc bl)[o+j]?=some (.int .u8 (a.getD j 0)):=by intro j hj;have b:=congrArg (λz=>(AT z)[j]?) h;simp only[AT,bQ,aX,aR hj,bU]at b;unfold enc AT;rw[zG,bQ,b,<-bQ];have e:=Ov a c;unfold AT at e;rw[e];unfold Ax;rw[bQ,gQ oM,dX,gQ oM];rfl
def Um(bl)(a:Nat)(h)(k:h.key.size<=8)(i:(bl.drop a).take (Ab h)=ι (Bo h)):(∀j,j<2->(enc bl)[a+j]?=some (.int .u8 ((AB 2 h.b).getD j 0)))/\(∀j,j<8->(enc bl)[a+2+j]?=some (.int .u8 ((AB 8 h.s).getD j 0)))/\(enc bl)[a+10]?=some (.int .u8 (h.key.size:Int))/\Am (enc bl) (a+11) h.key.size=(AT h.key.data.toList).toArray:=by have g:h.key.data.toList.length=h.key.size:=bL;(have e:(bl.drop a).take (Ab h)=ι (AB 2 h.b)++ι (AB 8 h.s)++ι [(h.key.size:Int)]++h.key.data.toList:=by rw[i,Bo,CS,CS,CS,FT]);(have c:(ι<|AB 2 h.b).length=2:=by rw[DJ,CK]);(have d:(ι<|AB 8 h.s).length=8:=by rw[DJ,CK]);(have f:(ι [(h.key.size:Int)]).length=1:=by rw[DJ];rfl);refine⟨?_,?_,?_,?_⟩;have b:=Hh bl a (Ab h) [] (ι<|AB 2 h.b) (ι (AB 8 h.s)++ι [(h.key.size:Int)]++h.key.data.toList) (by rw[e];simp);rw[c]at b;exact Hx bl a 2 _ (DH _ _) (CK _ _) b;have b:=Hh bl a (Ab h) (ι<|AB 2 h.b) (ι<|AB 8 h.s) (ι [(h.key.size:Int)]++h.key.data.toList) (by rw[e];simp);rw[c,d]at b;exact Hx bl (a+2) 8 _ (DH _ _) (CK _ _) b;have b:=Hh bl a (Ab h) (ι (AB 2 h.b)++ι (AB 8 h.s)) (ι [(h.key.size:Int)]) (h.key.data.toList) (by rw[e]);rw[lA,c,d,f]at b;exact Hx bl (a+10) 1 [(h.key.size:Int)] sO rfl b 0 oM;have b:=Hh bl a (Ab h) (ι (AB 2 h.b)++ι (AB 8 h.s)++ι [(h.key.size:Int)]) (h.key.data.toList) [] (by rw[e];simp);rw[lA,lA,c,d,f,g]at b;rw[Ez,b];rfl
def ZH(B C b:Nat)(bl)(h)(hs)(v)(w)(O:w.heap[B]?=some (ϲ (enc bl) 288))(bi:bl.length=128)(hp:h.p=none)(hk:h.key.size<=8)(au:0<=h.b)(av:h.b<65536)(a3:0<=h.s)(y:h.s<18446744073709551616)(bq:b+Ab h<=128) (a0:(bl.drop b).take (Ab h)=ι (Bo h)) (hv:w.ownsRow C 87 4 v hs.length (Ap hs)) (hb:C<=w.heap.size) (hl:hs.length<=1000):Ω 275 #[v,.slice (some (ϰ B b)) (128-b) (128-b)] w λe l=>∃v' r,e=ϱ (.tuple #[v',r,ϐ true])/\(b+Ab h<128->r=.slice (some ⟨B,b+Ab h,none⟩) (128-(b+Ab h)) (128-(b+Ab h)))/\(∃o,r=.slice (some (ϰ B o)) (128-(b+Ab h)) (128-(b+Ab h)))/\l.ownsRow C 87 4 v' (hs.length+1) (Ap (hs++[h]))/\Below C w l/\Ek 87 w l:=by
 have Sy:Hid (∀{p:Prop},(_h:p:=by
  refine zq 6 λK hK=>?_;go_simp;refine(IF B (b+2) 8 (m-2) (AB 8 h.s) c (CK _ _) oM (λj x=>(Y f (b+2+j)).trans (a2 j x))).mono ?_;rintro e l ⟨rfl,k⟩;rw[k,am.out];clear k l;refine zk hK f ?_
  refine zU 7 (.agg #[ϊ h.b,.int .u64 h.s]) f ?_;exact Sz.out)->p):=λh=>h
 have Sz:Hid (∀{p:Prop},(_h:p:=by
  refine zq 9 λK hK=>?_;have z0:=Y u;have f0:=ω u;have bh:=U u;go_simp;obtain⟨d,a5,F,D,ab,aj⟩:∃d,d=(c.setCell (ϰ w.heap.size 0) (ϊ h.b)).setCell (ϰ w.heap.size 1) (.int .u64 h.s)/\d.heap[w.heap.size]?=some (ϲ #[ϊ h.b,.int .u64 h.s] 84)/\d.heap[B]?=some (ϲ (enc bl) 288)/\Kp [] w d/\d.heap.size=w.heap.size+1:=
   ⟨_,rfl,η (η u 0 _) 1 _,(Bd oM _ _).trans ((Bd oM _ _).trans f),(P.setCell (Or.inr (Nat.le_refl _)) _).setCell (Or.inr (Nat.le_refl _)) _,by simp[y]⟩
  rw[<-a5];clear a5 z0 f0;refine hK.out _ _ D (λ_=>?_);clear hK K P y u f bh;refine zd ?_
  try simp only[zZ]
  exact HREST d F D ab aj)->p):=λh=>h
 let⟨m,hm⟩:=eX (128-b);obtain⟨a,ag⟩:∃a:Nat,a=h.key.size:=⟨_,rfl⟩;have a4:Ab h=11+a:=by rw[ag];rfl
 let⟨a1,a2,ah,ai⟩:=Um bl b h hk a0;rw[<-ag]at ah ai;have br:h.ptr=none:=by simp[HL.ptr,hp]
 have bn:¬(m:Int)<11:=oM
 have bo:(10:Int)<(m:Int):=oM
 have:¬(m:Int)<2:=oM
 have b0:¬(m:Int)<10:=oM
 have bj:¬(8:Int)<(a:Int):=oM
 have bk:¬(m:Int)<11+(a:Int):=oM
 have be:w.cell? (ϰ B (b+10))=some (.int .u8 (a:Int)):=by rw[Y O];exact ah
 have al:=zh (EK 2 h.b oM au (by simpa using av));have am:=zh (EK 8 h.s oM a3 (by simpa using y));have bu:IntKind.i64.wrap h.b=h.b:=by rw[IntKind.wrap_i64];omega
 have ao:=zh a1;have n:Hid (m=128-b/\b+(11+a)<=128):=⟨hm,oM⟩;have N:=zh O;have HV:=zh hv;have:=U O;rw[<-hm,a4];clear a0 hv O hm a1 ah bq au av a3 y hk ag hp a4;go_enter func275,ntmps275;go_wp2_with fail;have bp:¬m=2:=oM
 have bx:b+11+a<=(enc bl).size:=by rw[CF,bi];have:=n.out;omega
 rename_i K0 ap;have i:w.drew.heap[B]?=some (ϲ (enc bl) 288):=N.out;refine Ka (R:=λA=>∀W,W.heap[w.heap.size]?=some (ϲ #[ϊ h.b,.int .u64 h.s] 84)->W.heap[B]?=some (ϲ (enc bl) 288)->Kp [] w W->W.heap.size=w.heap.size+1->K0 A W) ?_;apply Exists.intro;apply And.intro
 rotate_left
 .intro HREST;refine wp_region_held_drew (S:=λW=>W.heap[B]?=some (ϲ (enc bl) 288)) kR i (λ_=>?_);refine zU 0 (.slice (some (ϰ B b)) m m) i ?_;refine zU 1 (.slice (some (ϰ B b)) 2 m) i ?_;refine zU 4 (.slice (some (ϰ B b)) m m) i ?_;refine zU 5 (.slice (some (ϰ B (b+2))) 8 (m-2)) i ?_;refine zr 2 8 (λK hK=>?_) λK hK=>?_
  .skip
   go_simp;refine(IF B b 2 m (AB 2 h.b) w.drew (CK _ _) oM (λj x=>(Y i (b+j)).trans (ao j x))).mono ?_;rintro e l ⟨rfl,k⟩;rw[k,al.out];clear k l;refine zk hK i ?_
   refine zU 3 (ϊ h.b) i ?_;refine zr 6 8 (λK hK=>?_) λK hK=>?_
   .skip
    go_simp;refine(IF B (b+2) 8 (m-2) (AB 8 h.s) w.drew (CK _ _) oM (λj x=>(Y i (b+2+j)).trans (a2 j x))).mono ?_;rintro e l ⟨rfl,k⟩;rw[k,am.out];clear k l;refine zk hK i ?_
    refine zU 7 (.agg #[ϊ h.b,.int .u64 h.s]) i ?_;refine zq 8 λK hK=>?_;go_simp;obtain⟨c,t,u,f,P,y⟩:∃c,c=(w.alloc (ϲ #[ϊ 0,.int .u64 0] 84)).drew/\c.heap[w.heap.size]?=some (ϲ #[ϊ 0,.int .u64 0] 84)/\c.heap[B]?=some (ϲ (enc bl) 288)/\Kp [] w c/\c.heap.size=w.heap.size+1:=
     ⟨_,rfl,φ w _,ψ _ N,((Kp.refl _ _).alloc _).drew,sM⟩
    rw[<-t];clear t;refine zk hK f ?_
    exact Sz.out
   .skip
    go_simp;obtain⟨c,t,u,f,P,y⟩:∃c,c=(w.alloc (ϲ #[ϊ 0,.int .u64 0] 84)).drew/\c.heap[w.heap.size]?=some (ϲ #[ϊ 0,.int .u64 0] 84)/\c.heap[B]?=some (ϲ (enc bl) 288)/\Kp [] w c/\c.heap.size=w.heap.size+1:=
     ⟨_,rfl,φ w _,ψ _ N,((Kp.refl _ _).alloc _).drew,sM⟩
    rw[<-t];clear t;refine zk hK f ?_
    exact Sy.out
  .skip
   go_simp;obtain⟨c,t,u,f,P,y⟩:∃c,c=(w.alloc (ϲ #[ϊ 0,.int .u64 0] 84)).drew/\c.heap[w.heap.size]?=some (ϲ #[ϊ 0,.int .u64 0] 84)/\c.heap[B]?=some (ϲ (enc bl) 288)/\Kp [] w c/\c.heap.size=w.heap.size+1:=
    ⟨_,rfl,φ w _,ψ _ N,((Kp.refl _ _).alloc _).drew,sM⟩
   rw[<-t];clear t;refine zk hK f ?_
   refine zq 2 λK hK=>?_;go_simp;refine(IF B b 2 m (AB 2 h.b) c (CK _ _) oM (λj x=>(Y f (b+j)).trans (ao j x))).mono ?_;rintro e l ⟨rfl,k⟩;rw[k,al.out];clear k l;refine zk hK f ?_
   refine zU 3 (ϊ h.b) f ?_;exact Sy.out
 intro d F D ab aj;refine ap _ _ ?_;clear ap K0 be bn bo bj bk bu bp;go_wp2_with fail;have:=U F;have:(0:Int)<=11+(a:Int):=oM
 have:(11:Int)<=11+(a:Int):=oM
 have:¬(m:Int)<11+(a:Int):=by have:=n.out;omega
 have:(11:Int)+(a:Int)<=(m:Int):=by have:=n.out;omega
 have bw:((11:Int)+(a:Int)).toNat=11+a:=oM
 have b2:IntKind.i64.wrap (11+(a:Int))=11+(a:Int):=by rw[IntKind.wrap_i64];have:=n.out;omega
 have:11+a-11=a:=oM
 let⟨o7,ax⟩:=eX (if m=11 then b else b+11)
 let⟨V,ay⟩:=eX (if m=11+a then b else b+(11+a))
 have Z:=zh ax;have an:=zh ay;clear ax ay;have bm:o7+a<=(enc bl).size:=by
  rw[Z.out];have:=n.out;split<;>omega
 have bc:Hid (Am (enc bl) o7 a=(AT h.key.data.toList).toArray):=by
  show _=_;rw[Z.out];split
  .rename_i he;have bt:a=0:=by have:=n.out;omega
   have h:=ai;rw[bt]at h |-;rw[<-h];simp[Am]
  .exact ai
 have q:d.drew.heap[w.heap.size]?=some (ϲ #[ϊ h.b,.int .u64 h.s] 84)/\d.drew.heap[B]?=some (ϲ (enc bl) 288):=⟨F,D⟩;refine wp_region_held_drew (S:=λW=>W.heap[w.heap.size]?=some (ϲ #[ϊ h.b,.int .u64 h.s] 84)/\W.heap[B]?=some (ϲ (enc bl) 288)) kR q (λ_=>?_);refine zU 0 (.slice (some (ϰ B b)) m m) q ?_;refine zU 1 (ϊ a) q ?_;refine zU 2 (ϊ (11+(a:Int))) q ?_;refine zV 3 (.slice (some (ϰ B o7)) a (m-11)) rfl (λW G=>by clear G;go_simp;rw[Z.out];split<;>rfl) q ?_;refine zV 4 (.string h.key) rfl (λW G=>by have h:=Mr (cap:=m-11) G.2 bm bc.out;clear G;go_simp) q ?_;refine zW 5 (.agg #[ϊ h.b,.int .u64 h.s]) q (·.1) ?_;refine zU 6 (.agg #[.string h.key,ϊ h.b,.int .u64 h.s,.pointer none]) q ?_;refine zq 7 λK hK=>?_;go_simp;obtain⟨z,a6,E,af,aa,aq,bs⟩:∃z,z=(d.alloc (ϲ ϙ 87)).drew/\z.heap[d.heap.size]?=some (ϲ ϙ 87)/\z.heap[w.heap.size]?=some (ϲ #[ϊ h.b,.int .u64 h.s] 84)/\z.heap[B]?=some (ϲ (enc bl) 288)/\Kp [] w z/\z.heap.size=d.heap.size+1:=
  ⟨_,rfl,φ d _,ψ _ F,ψ _ D,(ab.alloc _).drew,sM⟩
 rw[<-a6];clear a6;rw[aj]at E bs;refine hK.out _ _ ⟨af,aa⟩ (λ_=>?_)
 try simp only[zZ]
 refine zq 8 λK hK=>?_;have z0:=Y E;have f0:=ω E;have bg:=U E;have ak:=zh E;have X:=zh (n2 af aa);clear E af aa;go_simp;have aw:=Gk (.string h.key) (ϊ h.b) (.int .u64 h.s) (.pointer none) ak.out;let⟨H,a7,ad,L⟩:=gE aw;rw[<-a7];clear a7 aw z0 f0;have bf:=aq.tr L;have:=L.size;refine hK.out _ _ ⟨L.hp X.1,L.ho X.2⟩ (λ_=>?_);refine zd ?_
 try simp only[zZ]
 clear X ak aq L bg;go_wp2_with fail;have s:H.drew.heap[w.heap.size+1]?=some (ϲ #[.string h.key,ϊ h.b,.int .u64 h.s,.pointer none] 87):=ad;refine wp_region_held_drew (S:=λW=>W.heap[w.heap.size+1]?=some (ϲ #[.string h.key,ϊ h.b,.int .u64 h.s,.pointer none] 87)) kR s (λ_=>?_);refine zU 0 v s ?_;refine zW 1 (.agg #[.string h.key,ϊ h.b,.int .u64 h.s,.pointer none]) s id ?_;refine zU 4 (.slice (some (ϰ B b)) m m) s ?_;refine zU 5 (ϊ a) s ?_;refine zU 6 (ϊ (11+(a:Int))) s ?_;refine zV 7 (.slice (some (ϰ B V)) (m-(11+a)) (m-(11+a))) rfl (λW G=>by clear G;go_simp;rw[an.out];split<;>rfl) s ?_;refine zq 2 λK hK=>?_;go_simp;obtain⟨I,a8,ar,ae,ac,b1⟩:∃I,I=(H.alloc (ϲ #[.string h.key,ϊ h.b,.int .u64 h.s,.pointer none] 87)).drew/\I.heap[H.heap.size]?=some (ϲ #[.string h.key,ϊ h.b,.int .u64 h.s,.pointer none] 87)/\I.heap[w.heap.size+1]?=some (ϲ #[.string h.key,ϊ h.b,.int .u64 h.s,.pointer none] 87)/\Kp [] w I/\I.heap.size=H.heap.size+1:=
  ⟨_,rfl,φ H _,ψ _ ad,(bf.alloc _).drew,sM⟩
 rw[<-a8];clear a8;refine hK.out _ _ ae (λ_=>?_);clear hK K s
 try simp only[zZ]
 have T:=C3 HV ac (χ.nil _ _);refine zq 3 λK hK=>?_;refine Ke rfl rfl (.agg #[.string ⟨#[]⟩,ϊ 0,.int .u64 0,.pointer none]) 4 40 underlying156 GP rfl dC C v hs.length (Ap hs) (by simp[Act.eval]) T H.heap.size 0 1 1 #[.string h.key,ϊ h.b,.int .u64 h.s,.pointer none] 87 (0,0) (by simp[Act.eval]) ar sM (by simp[Am,Value.oneCell']) oM oM oM ?_;intro v6 w6 az Q _;have M:w6.heap[w.heap.size+1]?=some (ϲ #[.string h.key,ϊ h.b,.int .u64 h.s,.pointer none] 87):=by
  refine(Q.block _ oM ?_).trans ae;rcases HV.2 with⟨rfl,_⟩|⟨g,cap,bv,rfl,_,hh,_⟩
  .simp[Value.ownBlock]
  .intro e;simp only[Value.ownBlock,Option.some.injEq]at e;have:=U hh;omega
 have bb:Hid (w6.ownsRow C 87 4 v6 (hs.length+1) (Ap (hs++[h]))):=by
  have e:Ap (hs++[h])=Ap hs++(Am #[.string h.key,ϊ h.b,.int .u64 h.s,.pointer none] 0 (1*4)).toList:=by simp[Ap,Fi,Am,br]
  show World.ownsRow _ _ _ _ _ _ _;rw[e];exact az
 have ba:=zh ((ac.below hb sM).grown Q oM (qL8 T));have bd:=zh (((Ek.refl _ w).kp ac).grown T Q);refine hK.out _ _ M (λ_=>?_);clear hK K az Q T
 try simp only[zZ]
 refine zq 8 λK hK=>?_;go_simp;refine zk hK M ?_
 refine zq 9 λK hK=>?_;go_simp;refine zk hK M ?_
 refine zq 10 λK hK=>?_;go_simp;refine zk hK M ?_
 refine zd ?_;have a9:Hid (b+(11+a)<128->(Value.slice (some (ϰ B V)) (m-(11+a)) (m-(11+a)))=.slice (some ⟨B,b+(11+a),none⟩) (128-(b+(11+a))) (128-(b+(11+a)))):=by
  intro bz;have h1:=n.out;rw[an.out,if_neg oM,show m-(11+a)=128-(b+(11+a)) from by omega]
 clear M ar ae ad F D;go_wp2
 go_ret3
 refine⟨v6,_,rfl,a9,⟨V,?_⟩,bb,ba,bd⟩;show Value.slice (some (ϰ B V)) (m-(11+a)) (m-(11+a))=_;rw[show m-(11+a)=128-(b+(11+a)) from by have:=n.out;omega]
def OL{a:Type}(f:a->List Int)(g:a->Nat)(b:∀x,(f x).length=g x)(l:List a)(j:Nat)(h:j<l.length):l.flatMap f=(l.take j).flatMap f++f l[j]++(l.drop (j+1)).flatMap f:=by
 conv=>lhs;rw[<-tD j l,fA,dG h,fC]
 rw[aA]
def IA{a:Type}(g:a->Nat)(l:List a)(j:Nat)(h:j<l.length):qK3 g (l.take j)+g l[j]<=qK3 g l:=by have:=EI g l j h;have:=EJ g l<|j+1;omega
def YQ(ps)  (j:Nat) (h:j<ps.length):((ι (Az 0 ps [])).drop (2+qK3 μ (ps.take j))).take (μ ps[j])=ι (Bl ps[j]):=by (have e:ι (Az 0 ps [])=ι ([(0:Int),((ps.length:Nat):Int)]++(ps.take j).flatMap Bl)++ι (Bl ps[j])++ι ((ps.drop<|j+1).flatMap Bl++List.replicate (128-(2+qK3 μ ps)) 0):=by rw[<-CS,<-CS];congr 1;simp[Az,DA,fO,aN,aJ,bG,cD,Bf];(conv=>lhs;rw[OL Bl μ (λp=>by first | exact Gu p | exact Gj p) ps j h]);simp[aA]);(have b:(ι<|[(0:Int),((ps.length:Nat):Int)]++(ps.take j).flatMap Bl).length=2+qK3 μ (ps.take j):=by rw[DJ,lA,Ju Bl μ (λp=>by first | exact Gu p | exact Gj p)];rfl);(have c:(ι<|Bl ps[j]).length=μ ps[j]:=by rw[DJ];first | exact Gu _ | exact Gj _);have a:=Hh (ι<|Az 0 ps []) 0 (ι<|Az 0 ps []).length _ _ _ (by rwa[dZ,gV]);rwa[b,c,cD]at a
def YP(ps)(a:Int)(f:0<a)(g:a<256)(j:Nat)(h:j<ps.length):((ι (Az a [] ps)).drop (2+qK3 Ab (ps.take j))).take (Ab ps[j])=ι (Bo ps[j]):=by (have e:ι (Az a [] ps)=ι ([(a:Int),((ps.length:Nat):Int)]++(ps.take j).flatMap Bo)++ι (Bo ps[j])++ι ((ps.drop<|j+1).flatMap Bo++List.replicate (128-(2+qK3 Ab ps)) 0):=by rw[<-CS,<-CS];congr 1;simp[Az,DA,fO,aN,aJ,bG,cD,Bf];(conv=>lhs;rw[OL Bo Ab (λp=>by first | exact Gu p | exact Gj p) ps j h]);simp[aA]);(have c:(ι<|[(a:Int),((ps.length:Nat):Int)]++(ps.take j).flatMap Bo).length=2+qK3 Ab (ps.take j):=by rw[DJ,lA,Ju Bo Ab (λp=>by first | exact Gu p | exact Gj p)];rfl);(have d:(ι<|Bo ps[j]).length=Ab ps[j]:=by rw[DJ];first | exact Gu _ | exact Gj _);have b:=Hh (ι<|Az a [] ps) 0 (ι<|Az a [] ps).length _ _ _ (by rwa[dZ,gV]);rwa[c,d,cD]at b
def N0(d:Nat)(x:Int)(W):(Op.equalIn (d+1) 5 (.int .u8 x) (.int .u8 x)).run prog W=.ok true W:=by simp[Op.equalIn,run_underlying underlying5]
def Xk(d:Nat)(E)(b:DE E)(W):∀a:Ϥ,(∀i∈a,i<E.size)->(Op.eqItems (d+1) 5 1 E E a).run prog W=.ok true W:=by intro a;induction a with|nil=>intro _;rfl|cons i a ih=>intro h;have f:=h i sM;let⟨x,k⟩:=b E[i] sM;(have c:E[i*1]?=some (.int .u8 x):=by rw[Nat.mul_one,Array.getElem?_eq_getElem f,k]);simp only[Op.eqItems,Sem.run_bind,run_part_plain W (P:=prog) (e:=5) kR c,Result.andThen_ok,N0,Bool.not_true,Bool.false_eq_true,if_false];exact ih λj g=>h j (by simp[g])
def T7(E)(c:E.size=128)(b:DE E)(W):Sem.run prog (Op.equalIn 10000 288 (.agg E) (.agg E)) W=.ok true W:=by let⟨d,a,_⟩:=info_parts Tryz.qO0;refine Eq.trans (run_equalIn_array (P:=prog) W 9999 E E underlying288 a) ?_;rw[show prog.cellsOf 5=1 from by kernel_rfl];exact Xk 9998 E b W _ (λi a=>by rw[c];simpa using a)
def Ib(s x:Int):CY s x<18446744073709551616:=by unfold CY;rw[IntKind.wrap_u64];omega
def Ic(b:List Int):A9 b<18446744073709551616:=by unfold A9;rcases List.eq_nil_or_concat b with h|⟨l,a,h⟩;rw[h];decide;rw[h,List.concat_eq_append,List.foldl_append];exact Ib _ _
def Av(N:Nat)(l:List UInt8):(n:Nat)→Nat→Int→Tn n→Prop
 | 0,b,s,t=>2≤b∧b<N∧s=A9 (Az 0 (ζ t) [])∧ρ l b=ι (Az 0 (ζ t) [])∧(∀p∈ζ t,A2 p)∧2+qK3 μ (ζ t)≤128∧(ζ t).length≤126
 | n+1,b,s,t=>2≤b∧b<N∧n+1<6∧∃hs:List HL,AF (Dc (fun _ _=>False) (Av N l n)) hs (J t)∧s=A9 (Az ((n+1:Nat):Int) [] hs)∧ρ l b=ι (Az ((n+1:Nat):Int) [] hs)∧(∀h∈hs,h.key.size≤8)∧2+qK3 Ab hs≤128∧hs.length≤126
def Av.at{N:Nat}{l}:∀{n b:Nat} {s:Int} {t},Av N l n b s t->2<=b/\b<N/\0<=s/\s<18446744073709551616/\n<6
 | 0,_,_,_,h=>⟨h.1,h.2.1,by rw[h.2.2.1];exact FF _,by rw[h.2.2.1];exact Ic _,oM⟩
 | _+1,_,_,_,h=>by
  let⟨c,d,e,f,_,a,_⟩:=h;exact⟨c,d,by rw[a];exact FF _,by rw[a];exact Ic _,e⟩
def Av.links{N:Nat}{l}{n:Nat}{b}{ls}(h:AF (Dc (λ_ _=>False) (Av N l n)) b ls)(g:∀h∈b,h.key.size<=8)(m:N<=1000):∀p∈b,p.p=none/\p.key.size<=8/\0<=p.b/\p.b<65536/\0<=p.s/\p.s<18446744073709551616:=by intro p hp;obtain⟨i,c,rfl⟩:=gO hp;have a:=(h.2 i c (by rw[<-h.1];exact c)).2;split at a;let⟨_,_,q,_,f⟩:=a;exact f.elim;let⟨j,k,d,e⟩:=a;have:=e.at;exact⟨d,g _ hp,oM,oM,oM,oM⟩
def AU{X:Type}(l:θ X):HL:=⟨l.key,((l.ref.getD (0,0)).1:Int),(l.ref.getD (0,0)).2,none⟩
def AA{X:Type}(f:θ X→List Nat→θ X×List (Nat×List UInt8)×List Nat):List (θ X)→List Nat→List (θ X)×List (Nat×List UInt8)×List Nat
 | [],fr=>([],[],fr)
 | l::ls,fr=>((f l fr).1::(AA f ls (f l fr).2.2).1,(f l fr).2.1++(AA f ls (f l fr).2.2).2.1,(AA f ls (f l fr).2.2).2.2)
def Ac:(n:Nat)→θ (Tn n)→List Nat→θ (Tn n)×List (Nat×List UInt8)×List Nat
 | 0,l,fr=>if l.ref.isSome then(l,[],fr) else(⟨l.key,some (fr.headD 0,A9 (Az 0 (ζ l.sub) [])),l.sub⟩,[(fr.headD 0,ι (Az 0 (ζ l.sub) []))],fr.tail)
 | n+1,l,fr=>if l.ref.isSome then(l,[],fr) else
   let r:=AA (Ac n) (J l.sub) fr
   (⟨l.key,some (r.2.2.headD 0,A9 (Az ((n+1:Nat):Int) [] (r.1.map AU))),r.1⟩,r.2.1++[(r.2.2.headD 0,ι (Az ((n+1:Nat):Int) [] (r.1.map AU)))],r.2.2.tail)
def Px{X:Type}(f:θ X->Ϥ->θ X×ϥ×Ϥ):∀(a:List (θ X)) (l:θ X) (fr),AA f (a++[l]) fr=((AA f a fr).1++[(f l (AA f a fr).2.2).1],(AA f a fr).2.1++(f l (AA f a fr).2.2).2.1,(f l (AA f a fr).2.2).2.2)
 | [],l,fr=>by simp[AA]
 | x::a,l,fr=>by
  simp[cA,AA,Px f a l (f x fr).2.2,aA]
def ES{X:Type}(f:θ X->Ϥ->θ X×ϥ×Ϥ)(g:θ X->Nat):∀(b:List (θ X)) (a:Ϥ),(∀l∈b,∀a,(f l a).2.2=a.drop (g l))->(AA f b a).2.2=a.drop (qK3 g b)
 | [],a,_=>by simp[AA,Bf]
 | l::b,a,h=>by
  simp[AA];rw[ES f g b _ λx c=>h x (by simp[c]),h l sM,List.drop_drop,AV]
def D5:∀(n:Nat) (l:θ (Tn n)) (a:Ϥ),(Ac n l a).2.2=a.drop (news n l)
 | 0,l,a=>by
  simp[Ac,news];split<;>simp
 | n+1,l,a=>by
  simp[Ac,news];split
  .simp
  .simp only;rw[ES (Ac n) (news n) _ a λl _ a=>D5 n l a,<-List.drop_one,List.drop_drop]
   congr 1
   exact Nat.add_comm _ _
structure Wx(d:Nat)(S:Ϥ)(w a:Ϣ):Prop where
 os:a.os=w.os
 tape:a.tape=w.tape
 output:a.output=w.output
 size:w.heap.size<=a.heap.size
 low:∀k,k<d->k∉S->a.heap[k]?=w.heap[k]?
 oth:∀(k:Nat)(c:ϧ)(t:Ϯ)(b:Nat×Nat),w.heap[k]?=some (ϲ c t b)->t≠117->k∉S->a.heap[k]?=some (ϲ c t b)
def Wx.trans{g:Nat}{S}{a b c}(h:Wx g S a b)(k:Wx g S b c):Wx g S a c:=
 ⟨k.os.trans h.os,k.tape.trans h.tape,k.output.trans h.output,lT h.size k.size,λq d f=>(k.low q d f).trans<|h.low q d f,λq c t fr e d f=>k.oth q c t fr (h.oth q c t fr e d f) d f⟩
def Wx.qN3{f:Nat}{S}{a b}(h:Kp S a b)(i:f<=a.heap.size):Wx f S a b:=
 ⟨h.os,h.tape,h.output,h.size,λk g d=>h.block k oM d,λk c t fr e g d=>h.heap e d⟩
def Wx.of{base A:Nat}{S}{a b}(h:Wr base A a b)(g:A∈S):Wx base S a b:=
 ⟨h.os,h.tape,h.output,h.size,λk d f=>h.low k d λe=>f<|e ▸ g,λk c t fr e d f=>h.oth k c t fr e d λe=>f<|e ▸ g⟩
def Wx.tail{b:Nat}{a w w'}{S T}(h:Wx b S a w)(hK:Kp T w w')(g:∀k∈T,a.heap.size<=k)(j:b<=a.heap.size):Wx b S a w':=
 ⟨hK.os.trans h.os,hK.tape.trans h.tape,hK.output.trans h.output,lT h.size hK.size,λk d f=>(hK.block k (oW h.size) (λhm=>by have:=g k hm;omega)).trans<|h.low k d f,λk c t i e d f=>hK.heap (h.oth k c t i e d f) (λhm=>by have:=g k hm;have:=U e;omega)⟩
def ints(fr:List Nat):List Value:=fr.map (fun (b:Nat)=>Value.int .i64 (b:Int))
def YM(F b:Nat)(fr)(v)(w)(c:w.heap[F]?=some (ϲ #[v] 24))(n:Ai w 3 1 v (b::fr).length (ints (b::fr)))(C:fr.length<=100000):Ω 175 #[ϖ F] w λe a=>e=ϱ (ϊ b)/\∃v',a.heap[F]?=some (ϲ #[v'] 24)/\Ai a 3 1 v' fr.length (ints fr)/\Kp [F] w a:=by rcases n.val with⟨h0,_⟩|⟨g,off,cap,cur,f',rfl,h1,h2,h3,h4⟩;simp at h0;have p:=ϻ c 0;have A:=ω c 0;have B:=U c;(have z:w.cell? (ϰ g off)=some (ϊ (b:Int)):=by rw[Y h3];exact h4 0 _ (by simp[ints]));(have s:g≠F:=by intro e;subst e;rw[c]at h3;simp at h3);obtain⟨m,d⟩:=eX<|(b::fr).length;rw[<-d]at h2 p;have D:(0:Int)<(m:Int):=oM;have E:¬(m:Int)<1:=oM;have G:(1:Int)<=(m:Int):=oM;(have f:Hid (m=fr.length+1):=by show _=_;rw[d];simp);(have i:Hid (Ϙ w F<|ϲ #[ϑ g off m cap] 24):=by rw[d];exact c);have k:=zh<|n2 h3 h4;(have t:g∉[F]:=by simpa using s);(have l:Hid (∀o:Nat,(o=off+1\/fr=[])->∀a,Kp [F] w a->Ai a 3 1 (ϑ g o (m-1)<|cap-1) fr.length (ints fr)):=by intro o ho a hK;(have q:m-1=fr.length:=by have:=f.out;omega);rw[q];refine⟨by simp[ints],?_⟩;cases fr with|nil=>exact Or.inl ⟨rfl,_,_,rfl,sM⟩|cons x fr=>rcases ho with rfl|h;refine Or.inr ⟨g,off+1,cap-1,cur,f',rfl,sM,by have:=f.out;simp at this |-;omega,hK.heap k.1 t,λj u y=>?_⟩;have h:=k.out.2 (j+1) u (by simpa [ints] using y);rw[show off+1+j=off+(j+1) from by omega];exact h;cases h);clear c n d h3 h4;go_enter func175,ntmps175;go_wp2;(.go_ret;have hK:Kp [F] w (w.setCell (ϰ F 0)<|ϑ g off (m-1) 0):=kF.sc _;(have r:cap=1:=by first | assumption | omega);have h:=l.out off (Or.inr<|List.eq_nil_of_length_eq_zero<|oW f.out) _ hK;rw[r]at h;exact⟨rfl,_,η i 0 _,h,hK⟩);go_ret;have hK:Kp [F] w (w.setCell (ϰ F 0)<|ϑ g (off+1) (m-1)<|cap-1):=kF.sc _;exact⟨rfl,_,η i 0 _,l (off+1) (Or.inl rfl) _ hK,hK⟩
variable {κ:Nat}
def Hu(w)(a b c):∃d,d=((w.alloc a).alloc b).alloc c/\d.heap[w.heap.size]?=some a/\d.heap[w.heap.size+1]?=some b/\d.heap[w.heap.size+1+1]?=some c/\Kp [] w d/\d.heap.size=w.heap.size+3:=
 ⟨_,rfl,ψ _ (ψ _ (φ _ _)),ψ _ (sU (φ (w.alloc a) b)),sU (φ ((w.alloc a).alloc b) c),((kF.alloc _).alloc _).alloc _,sM⟩
def Ob(args)(W):Sem.run prog (callFunc 175 args) W=.ok (.enter 175 args) W:=by
 simp[go_sem,func175]
def Ai.wx{d:Nat}{S}{w w'}{T}{c:Nat}{v}{n:Nat}{a:Ϩ}(h:Ai w T c v n a)(q:Wx d S w w')(p:T≠117)(o:χ w S [T]):Ai w' T c v n a:=by
 refine⟨h.len,?_⟩;rcases h.val with h|⟨g,s,e,f,i,j,k,l,b,m⟩
 .exact .inl h
 .exact .inr ⟨g,s,e,f,i,j,k,l,q.oth _ _ _ _ b p (λr=>o g r _ _ _ b sM),m⟩
def RN.wx{O:BN}{f:Nat}{S}{w w'}(c:Wx f S w w')(b:χ w S BU):∀(n:Nat)(q:Nat)(t),RN O n w q t->RN O n w' q t
 | 0,q,t,h=>by
  let⟨k,a,d⟩:=h;exact⟨k,c.oth _ _ _ _ a dC (λe=>b q e _ _ _ a dC),d.wx c dC (b.sub dC)⟩
 | n+1,q,t,h=>by
  let⟨j,a,i,d,g⟩:=h;exact⟨j,c.oth _ _ _ _ a dC (λe=>b q e _ _ _ a dC),i,d.wx c dC (b.sub dC),g.mono λx y hr=>hr.mono (λq hq=>RN.wx c b n q _ hq) (λ_ _ h=>h)⟩
variable {κ:Nat}
def LK(V:Nat)(r h)(nf)(w)(c:h.p=none):Ω 174 #[υ V r,AY h,nf] w λe g=>e=ϱ (AY h)/\Kp [] w g:=by
 have d:h.ptr=none:=by simp[HL.ptr,c]
 rw[υ,AY,d];go_enter func174,ntmps174;go_wp2;let⟨i,f,_,_,b,a,_⟩:=Hu w (ϲ (ϟ V r) 89) (ϲ #[ϕ h.key,ϊ h.b,.int .u64 h.s,ϗ none] 87) (ϲ #[ϕ h.key,ϊ h.b,.int .u64 h.s,ϗ none] 87);rw[<-f];exact bodyPost_ret (results_cell_row results174 _ _ (w.heap.size+1+1) 87 #[ϕ h.key,ϊ h.b,.int .u64 h.s,ϗ none] (0,0) _ rfl b underlying87 rfl kR) rfl ⟨rfl,a⟩
variable {κ:Nat}
def Ej:(n:Nat)→θ (Tn n)→Prop
 | 0,l=>l.key.size≤8∧(l.ref=none→(∀p∈ζ l.sub,A2 p)∧2+qK3 μ (ζ l.sub)≤128∧(ζ l.sub).length≤126)
 | n+1,l=>l.key.size≤8∧(l.ref=none→n+1<256∧(∀m∈J l.sub,Ej n m)∧2+qK3 Af (J l.sub)≤128∧(J l.sub).length≤126)
def FI(F:Nat):Value:=.func (.func 175) #[] #[.pointer (some ⟨F,0,none⟩)]
def Ma{X:Type}{N:Nat->X->Prop}{O:Nat->Int->X->Prop}{h}{l:θ X}(g:Dc N O h l)(f:l.ref.isSome):h.p=none/\h=AU l:=by
 let⟨d,e⟩:=g
 cases hx:l.ref with
 | none=>rw[hx]at f;cases f
 | some x=>
  rw[hx]at e;let⟨b,c,a,_⟩:=e;refine⟨a,?_⟩;cases h;simp only at d b c a;subst d b c a;simp[AU,hx]
def LZ{X:Type}{N:Nat->X->Prop}{O:Nat->Int->X->Prop}{h}{l:θ X}(f:Dc N O h l)(e:l.ref=none):h.key=l.key/\∃q,h.p=some q/\N q l.sub:=by
 let⟨d,a⟩:=f;rw[e]at a;let⟨_,_,q,b,c⟩:=a;exact⟨d,q,b,c⟩
def Zj{i b:Nat}{S}{w w'}{e}{d:Nat}{v}{n:Nat}{f:Ϩ}(h:w.ownsRow b e d v n f)(p:Wx i S w w')(q:e≠117)(o:χ w S [e]):w'.ownsRow b e d v n f:=by refine⟨h.1,?_⟩;rcases h.2 with a|⟨g,j,k,a,l,c,m⟩;exact Or.inl a;exact Or.inr ⟨g,j,k,a,l,p.oth _ _ _ _ c q λr=>o g r _ _ _ c sM,m⟩
def Zh{w}{f:Nat}{e}{k:Nat}{v}{n:Nat}{l:Ϩ}{b:List Ϯ}(h:w.ownsRow f e k v n l)(j:e∉b):χ w v.ownBlock.toList b:=λq a c t p d=>by
 rcases h.2 with⟨rfl,_⟩|⟨g,m,o,rfl,_,i,_⟩
 .simp[Value.ownBlock]at a
 .simp[Value.ownBlock,Option.toList_some,aC]at a;rw[a,i]at d;cases d;exact j
def Mh{w:Ϣ}{a:Nat}{e:Ϯ}{c:Nat}{v:Value}{n:Nat}{d:Ϩ}(h:w.ownsRow a e c v n d):∀k,v.ownBlock=some k->a<=k/\k<w.heap.size:=λk hk=>by
 refine⟨qL8 h k hk,?_⟩;rcases h.2 with⟨rfl,_⟩|⟨g,f,i,rfl,_,b,_⟩
 .simp[Value.ownBlock]at hk
 .simp[Value.ownBlock,aP]at hk;rw[<-hk];exact U b
def JI{X:Type}(f:θ X->Ϥ->θ X×ϥ×Ϥ)(g:θ X->Nat):∀(b:List (θ X)) (a:Ϥ),(∀l∈b,∀a,(f l a).2.1.length=g l)->(AA f b a).2.1.length=qK3 g b
 |[],a,_=>by simp[AA,Bf]|l::b,a,h=>by simp[AA,lA];rw[JI f g b _ λx c=>h x (by simp[c]),h l sM,AV]
def GX:∀(n:Nat) (l:θ (Tn n)) (a:Ϥ),(Ac n l a).2.1.length=news n l
 |0,l,a=>by simp[Ac,news];split<;>simp|n+1,l,a=>by simp[Ac,news];split;simp;simp[lA,lC,aJ];rw[JI (Ac n) (news n) _ a λl _ a=>GX n l a];exact iK _ _
def Pz:∀(n:Nat) (l:θ (Tn n)) (a:Ϥ),(Ac n l a).1.key=l.key
 |0,l,a=>by simp[Ac];split<;>rfl|n+1,l,a=>by simp[Ac];split<;>rfl
def LE{X:Type}(f:θ X->Ϥ->θ X×ϥ×Ϥ):∀(a:List (θ X)) (b:Ϥ),(AA f a b).1.length=a.length
 |[],b=>rfl|l::a,b=>by simp[AA,lC,LE f a]
def JJ(n:Nat):∀(a:List (θ (Tn n))) (b:Ϥ),qK3 Ab ((AA (Ac n) a b).1.map AU)=qK3 Af a
 |[],b=>rfl|l::a,b=>by simp[AA,bE,AV,JJ n a];simp[Ab,Af,AU,Pz]
def X0(N n:Nat)(o:N<=1000)(l)(a)(c:l.key.size<=8)(j:∀x,l.ref=some x->x.1<=1000000/\0<=x.2)(f:∀b∈a,b<N):(AU (Ac n l a).1).key.size<=8/\0<=(AU (Ac n l a).1).b/\(AU (Ac n l a).1).b<=1000000/\0<=(AU (Ac n l a).1).s:=by (have e:∀g:List Nat,(∀b∈g,b<N)->g.headD 0<=1000000:=λg d=>by cases g with|nil=>simp|cons b g=>have:=d b sM;simp;omega);(have i:∀(m:θ (Tn n)),m.key.size<=8->(∀x,m.ref=some x->x.1<=1000000/\0<=x.2)->(AU m).key.size<=8/\0<=(AU m).b/\(AU m).b<=1000000/\0<=(AU m).s:=λm h1 h2=>by refine⟨h1,?_⟩;simp only[AU];cases hm:m.ref with|none=>simp|some x=>have:=h2 x hm;simp only[eO];omega);have h:∀(k:ByteArray)(t:Tn n)(b:Nat)(s:Int),k.size<=8->b<=1000000->0<=s->(AU (⟨k,some (b,s),t⟩:θ (Tn n))).key.size<=8/\0<=(AU (⟨k,some (b,s),t⟩:θ (Tn n))).b/\(AU (⟨k,some (b,s),t⟩:θ (Tn n))).b<=1000000/\0<=(AU (⟨k,some (b,s),t⟩:θ (Tn n))).s:=λk t b s h1 h2 h3=>⟨h1,by simp only[AU,eO];omega⟩;cases n with|zero=>simp only[Ac];split;exact i l c j;exact h _ _ _ _ c (e a f) (FF _)|succ n=>simp only[Ac];split;exact i l c j;(have d:∀b∈(AA (Ac n) (J l.sub) a).2.2,b<N:=λb hb=>by rw[ES (Ac n) (news n) _ a λl _ a=>D5 n l a]at hb;exact f b<|mD hb);exact h _ _ _ _ c (e _ d)<|FF _
def PQ(N n:Nat)(e:N<=1000):∀(d:List (θ (Tn n))) (a:Ϥ),(∀l∈d,l.key.size<=8/\∀x,l.ref=some x->x.1<=1000000/\0<=x.2)->(∀b∈a,b<N)->∀p∈(AA (Ac n) d a).1.map AU,p.key.size<=8/\0<=p.b/\p.b<=1000000/\0<=p.s
 |[],a,_,_=>by simp[AA]|l::d,a,h,hf=>by intro p c;simp only[AA,bE,mC]at c;rcases c with rfl|c;exact X0 N n e l a (h l sM).1 (h l sM).2 hf;exact PQ N n e d _ (λx f=>h x (by simp[f])) (λb hb=>by rw[D5]at hb;exact hf b<|mD hb) p c
def CJ:(n:Nat)→Nat→Tn n→List Nat
 | 0,b,_=>[b]
 | n+1,b,t=>b::(J t).flatMap (fun m=>match m.ref with | some x=>CJ n x.1 m.sub | none=>[])
def Av.move{N:Nat}{l l'}:∀(n b:Nat)(s:Int)(t),Av N l n b s t->(∀k∈CJ n b t,ρ l' k=ρ l k)->Av N l' n b s t
 |0,b,s,t,h,hk=>by let⟨d,e,f,c,g⟩:=h;exact⟨d,e,f,(hk b (by simp[CJ])).trans c,g⟩|n+1,b,s,t,h,hk=>by let⟨d,e,f,r,c,g,p,q⟩:=h;refine⟨d,e,f,r,⟨c.1,λi o j=>?_⟩,g,(hk b (by simp[CJ])).trans p,q⟩;have m:=c.2 i o j;refine⟨m.1,?_⟩;have a:=m.2;cases hx:(J t)[i].ref with|none=>rwa[hx]at a|some x=>rw[hx]at a;refine⟨a.1,a.2.1,a.2.2.1,Av.move n x.1 x.2 _ a.2.2.2 λk u=>hk k ?_⟩;simp[CJ,mC,aS];exact Or.inr ⟨(J t)[i],gM j,by rwa[hx]⟩
def Eo(l b)(i k n:Nat)(c:b.length=128)(g:n*128<=l.length)(d:i<n)(f:k≠i):ρ (AO l i b) k=ρ l k:=by refine List.ext_getElem? λj=>?_;simp only[ρ,AO,aX,bU];split;rename_i e;rw[aA,gZ];split;rename_i a;rw[aX];simp only[lK]at a;rw[aR oM];rename_i a;simp only[lK]at a |-;rw[gZ,aO oM,bU];congr 1;omega;rfl
def DM(l b)(i n:Nat)(a:b.length=128)(d:n*128<=l.length)(c:i<n):ρ (AO l i b) i=b:=by exact T5 l i b a oM
def NS(n k:Nat)(ws):∀(l),n*128<=l.length->(∀x∈ws,x.1<n/\x.2.length=128)->k∉ws.map Prod.fst->ρ (laidAll l ws) k=ρ l k:=by induction ws with|nil=>intro l _ _ _;rfl|cons a ws ih=>intro l d e c;simp only[bE,mC,bY]at c;have b:=e a sM;refine(ih (AO l a.1 a.2) (FO l a.2 a.1 n b.2 d b.1) (λx f=>e x (by simp[f])) c.2).trans ?_;exact Eo l a.2 a.1 k n b.2 d b.1 c.1
def T3(n:Nat)(ws)(x:Nat×ϣ):∀(l),n*128<=l.length->(∀x∈ws,x.1<n/\x.2.length=128)->(ws.map Prod.fst).Nodup->x∈ws->ρ (laidAll l ws) x.1=x.2:=by induction ws with|nil=>intro l _ _ _ h;cases h|cons a ws ih=>intro l g d c e;simp only[bE,List.nodup_cons]at c;have b:=d a sM;have i:=FO l a.2 a.1 n b.2 g b.1;rcases List.mem_cons.1 e with rfl|e;exact(NS n x.1 ws (AO l x.1 x.2) i (λy f=>d y (by simp[f])) c.1).trans<|DM l x.2 x.1 n b.2 g b.1;exact ih (AO l a.1 a.2) i (λy f=>d y (by simp[f])) c.2 e
def C9(N:Nat)(l:List UInt8):(n:Nat)→θ (Tn n)→Prop
 | 0,L=>∀x,L.ref=some x→Av N l 0 x.1 x.2 L.sub
 | n+1,L=>(∀x,L.ref=some x→Av N l (n+1) x.1 x.2 L.sub)∧(L.ref=none→∀m∈J L.sub,C9 N l n m)
def CA:(n:Nat)→θ (Tn n)→List Nat
 | 0,L=>match L.ref with | some x=>CJ 0 x.1 L.sub | none=>[]
 | n+1,L=>match L.ref with | some x=>CJ (n+1) x.1 L.sub | none=>(J L.sub).flatMap (CA n)
def Nd(N:Nat)(l a:ϣ)(n:Nat):Prop:=∀(L:θ (Tn n)) (fr:Ϥ),C9 N l n L->Ej n L->n<6->(∀b∈fr,2<=b/\b<N)->news n L<=fr.length->(∀x∈(Ac n L fr).2.1,ρ a x.1=x.2)->(∀k∈CA n L,ρ a k=ρ l k)->
 ∃x,(Ac n L fr).1.ref=some x/\Av N a n x.1 x.2 (Ac n L fr).1.sub
def Pp(N:Nat)(l l')(n:Nat)(j:Nd N l l' n)(o:n<6):∀(f)(c),(∀m∈f,C9 N l n m/\Ej n m)->(∀b∈c,2<=b/\b<N)->qK3 (news n) f<=c.length->(∀x∈(AA (Ac n) f c).2.1,ρ l' x.1=x.2)->(∀k∈f.flatMap (CA n),ρ l' k=ρ l k)->∀m∈(AA (Ac n) f c).1,∃x,m.ref=some x/\Av N l' n x.1 x.2 m.sub
 |[],_,_,_,_,_,_=>by intro m g;cases g|a::f,c,h,hf,g,hx,hk=>by rw[AV]at g;intro m i;simp only[AA,mC]at i;simp only[AA,aH]at hx;rcases i with rfl|i;exact j a c (h a sM).1 (h a sM).2 o hf oM (λx d=>hx x<|Or.inl d) λk d=>hk k (by simp only[fC,aH];exact Or.inl d);have e:=D5 n a c;exact Pp N l l' n j o f _ (λm g=>h m (by simp[g])) (λb hb=>by rw[e]at hb;exact hf b<|mD hb) (by rw[e,lD];omega) (λx d=>hx x<|Or.inr d) (λk d=>hk k (by simp only[fC,aH];exact Or.inr d)) m i
def YV{n:Nat}{m}(h:Ej n m):m.key.size<=8:=by cases n with|zero=>exact h.1|succ n=>exact h.1
def Pw(n:Nat):∀(c:List (θ (Tn n))) (d:Ϥ),(∀m∈c,m.key.size<=8)->∀m∈(AA (Ac n) c d).1,m.key.size<=8
 |[],_,_=>by intro m b;cases b|a::c,d,h=>by intro m b;simp[AA,mC]at b;rcases b with rfl|b;rw[Pz];exact h a sM;exact Pw n c _ (λm b=>h m (by simp[b])) m b
def Av.leaf{N b:Nat}{l}{t}(a:2<=b/\b<N)(c:ρ l b=ι (Az 0 (ζ t) []))(d:(∀p∈ζ t,A2 p)/\2+qK3 μ (ζ t)<=128/\(ζ t).length<=126):Av N l 0 b (A9 (Az 0 (ζ t) [])) t:=⟨a.1,a.2,Eq.refl _,c,d⟩
def Av.branch{N b n:Nat}{l}{t}(hs)(a:2<=b/\b<N)(c:n+1<6)(d:AF (Dc (λ_ _=>False) (Av N l n)) hs (J t))(e:ρ l b=ι (Az ((n+1:Nat):Int) [] hs))(f:(∀h∈hs,h.key.size<=8)/\2+qK3 Ab hs<=128/\hs.length<=126):Av N l (n+1) b (A9 (Az ((n+1:Nat):Int) [] hs)) t:=⟨a.1,a.2,c,hs,d,Eq.refl _,e,f⟩
def X1{X:Type}(m:θ X)(x:Nat×Int)(h:m.ref=some x):(AU m).b=(x.1:Int)/\(AU m).s=x.2:=by simp[AU,h,eO,and_self]
def Pq(N:Nat)(l l'):∀n,Nd N l l' n
 |0=>(by intro L a r w _ o v f q;cases c:L.ref with|some x=>(have y:L.ref.isSome:=by rw[c];rfl);(have e:Ac 0 L a=(L,[],a):=by simp only[Ac,aR y]);rw[e];refine⟨x,c,Av.move 0 x.1 x.2 L.sub (r x c) λk d=>q k ?_⟩;simp only[CA,c];exact d|none=>(have j:¬L.ref.isSome=true:=by rw[c];simp);(have O:news 0 L=1:=by simp only[news,aO j]);cases a with|nil=>rw[O]at v;simp at v|cons b a=>(have e:Ac 0 L (b::a)=(⟨L.key,some (b,A9<|Az 0 (ζ L.sub) []),L.sub⟩,[(b,ι<|Az 0 (ζ L.sub) [])],a):=by simp only[Ac,aO j,jL,jT]);rw[e]at f |-;let⟨G,t,H⟩:=w.2 c;have h:=f (b,ι<|Az 0 (ζ L.sub) [])<|aC.2 rfl;have g:=Av.leaf (o b sM) h ⟨G,t,H⟩;generalize A9 (Az 0 (ζ L.sub) [])=s at g |-;exact⟨(b,s),rfl,g⟩)|n+1=>by intro L a r w Q o v f q;cases c:L.ref with|some x=>(have y:L.ref.isSome:=by rw[c];rfl);(have e:Ac (n+1) L a=(L,[],a):=by simp only[Ac,aR y]);rw[e];refine⟨x,c,Av.move (n+1) x.1 x.2 L.sub (r.1 x c) λk d=>q k ?_⟩;simp only[CA,c];exact d|none=>(have j:¬L.ref.isSome=true:=by rw[c];simp);(have:news (n+1) L=1+qK3 (news n) (J L.sub):=by simp only[news,aO j]);have u:=ES (Ac n) (news n) (J L.sub) a λl _ a=>D5 n l a;let⟨G,t,H,V⟩:=w.2 c;cases hfr:(AA (Ac n) (J L.sub) a).2.2 with|nil=>have B:=congrArg List.length u;rw[hfr,lD]at B;simp at B;omega|cons b fr'=>(have e:Ac (n+1) L a=(⟨L.key,some (b,A9<|Az ((n+1:Nat):Int) []<|(AA (Ac n) (J L.sub) a).1.map AU),(AA (Ac n) (J L.sub) a).1⟩,(AA (Ac n) (J L.sub) a).2.1++[(b,ι<|Az ((n+1:Nat):Int) []<|(AA (Ac n) (J L.sub) a).1.map AU)],fr'):=by simp only[Ac,aO j,hfr,jL,jT]);rw[e]at f |-;(have P:b∈a:=by rw[hfr]at u;exact mD<|u ▸ cX);have C:=Pp N l l' n (Pq N l l' n) oM (J L.sub) a (λm d=>⟨r.2 c m d,t m d⟩) o oM (λx hh=>f x<|aI _ hh) λk hh=>q k (by simp only[CA,c];exact hh);have D:=Pw n (J L.sub) a λm d=>YV<|t m d;have F:=JJ n (J L.sub) a;have E:=LE (Ac n) (J L.sub) a;have h:=f (b,ι<|Az ((n+1:Nat):Int) []<|(AA (Ac n) (J L.sub) a).1.map AU)<|aK _<|aC.2 rfl;generalize AA (Ac n) (J L.sub) a=R at C D F E h |-;(have g:Av N l' (n+1) b (A9<|Az ((n+1:Nat):Int) []<|R.1.map AU) R.1:=by refine Av.branch (R.1.map AU) (o b P) Q ⟨by rw[bV];rfl,λi T M=>?_⟩ h ⟨?_,by rwa[F],by rwa[bV,E]⟩;rw[fK];let⟨x,z,I⟩:=C _<|gM M;refine⟨rfl,?_⟩;have K:=z;rw[K];have A:=X1 _ x z;exact⟨A.1,A.2,rfl,I⟩;intro p S;obtain⟨m,d,rfl⟩:=aQ.1 S;exact D m d);clear f h;generalize A9 (Az ((n+1:Nat):Int) []<|R.1.map AU)=s at g |-;exact⟨(b,s),rfl,g⟩
def LD{X:Type}(f:θ X->Ϥ->θ X×ϥ×Ϥ)(g:θ X->Nat):∀(b:List (θ X)) (a),(∀l∈b,∀a:Ϥ,g l<=a.length->(f l a).2.1.map Prod.fst=a.take (g l)/\(f l a).2.2=a.drop (g l))->qK3 g b<=a.length->(AA f b a).2.1.map Prod.fst=a.take (qK3 g b)
 |[],a,_,_=>by simp[AA,Bf]|l::b,a,h,hm=>by rw[AV]at hm |-;let⟨d,c⟩:=h l sM a oM;simp[AA,cI];rw[LD f g b _ (λx e=>h x (by simp[e])) (by rw[c,lD];omega),d,c,List.take_add]
def Ip:∀(n:Nat)(l)(a),news n l<=a.length->(Ac n l a).2.1.map Prod.fst=a.take (news n l)
 |0,l,a,h=>(by by_cases c:l.ref.isSome=true;simp only[Ac,news,aR c,cV,iP];simp only[Ac,news,aO c]at h |-;cases a with|nil=>simp at h|cons b a=>simp)|n+1,l,a,h=>by by_cases c:l.ref.isSome=true;simp only[Ac,news,aR c,cV,iP];simp only[Ac,news,aO c]at h |-;have d:=LD (Ac n) (news n) (J l.sub) a (λl _ a f=>⟨Ip n l a f,D5 n l a⟩) (by have:qK3 (λm=>news n m) (J l.sub)=qK3 (news n) (J l.sub):=rfl;omega);rw[cI,d,ES (Ac n) (news n) (J l.sub) a λl _ a=>D5 n l a];simp only[bE,cV];have e:qK3 (λm=>news n m) (J l.sub)=qK3 (news n) (J l.sub):=rfl;rw[e]at h |-;generalize qK3 (news n) (J l.sub)=k at h |-;rw[iK 1 k,tA oM,dG oM];rfl
def LH:∀(n:Nat)(l)(c),Ej n l->∀x∈(Ac n l c).2.1,x.2.length=128
 |0,l,c,h,x,b=>by by_cases d:l.ref.isSome=true;simp[Ac,aR d]at b;simp[Ac,aO d,aC]at b;let⟨k,f,o⟩:=h.2<|sU d;rw[b];simp[DJ];exact EZ 0 _ [] (by simpa [Bf] using f)|n+1,l,c,h,x,b=>by by_cases d:l.ref.isSome=true;simp[Ac,aR d]at b;simp[Ac,aO d,aH,aC]at b;let⟨k,f,o,p⟩:=h.2<|sU d;rcases b with b|b;(have i:∀(e:List (θ<|Tn n)) (c:List Nat),(∀m∈e,Ej n m)->∀x∈(AA (Ac n) e c).2.1,x.2.length=128:=by intro e;induction e with|nil=>intro c _ x b;simp[AA]at b|cons a e ih=>intro c g x b;simp[AA,aH]at b;rcases b with b|b;exact LH n a c (g a sM) x b;exact ih _ (λm j=>g m (by simp[j])) x b);exact i _ c f x b;rw[b];simp[DJ];exact EZ _ [] _ (by rw[JJ,Bf];omega)
def LG:∀(n:Nat)(l)(b),cont n (Ac n l b).1.sub=cont n l.sub
 |0,l,b=>by by_cases c:l.ref.isSome=true;simp[Ac,aR c];simp[Ac,aO c]|n+1,l,b=>by by_cases c:l.ref.isSome=true;simp[Ac,aR c];simp[Ac,aO c];(have e:∀(d)(b),(AA (Ac n) d b).1.flatMap (λm=>cont n m.sub)=d.flatMap (λm=>cont n m.sub):=by intro d;induction d with|nil=>intro b;rfl|cons a d ih=>intro b;simp[AA,fC,ih,LG n a b]);exact e _ b
open Go.Maps (Keyed)
open Go.ChangeMaps
def Ge(k:Nat):Lit:=.int .i64 (k:Int)
def Pe{k:Nat}(h:k<=1000000):keyOf prog 3 (ϊ (k:Int))=some (Ge k):=
 Maps.keyOf_int_mk underlying3 (by simp[Lit.wf,IntKind.min,IntKind.max,IntKind.signed,IntKind.bits];omega)
def Lw:Keyed prog 3:=Maps.int_keyed underlying3
def Xu(k:Nat):WideAt.IsKeyLit (Ge k):=by simp[WideAt.IsKeyLit,Ge]
def Xv{a b:Nat}(h:a≠b):Ge a≠Ge b:=by
 intro e;simp[Ge,Lit.int.injEq,true_and]at e;omega
def BS(w:Ϣ)(M c:Nat)(a:Ϥ):Prop:=∃n D,w.ownsMap prog 3 (unitElem (H:=Unit)) M n D/\n<=c/\Maps.size D=a.length/\∀k:Nat,Maps.has D (Ge k)=decide (k∈a)
def BS.made(w:Ϣ):BS (w.alloc (.map #[] 0)) w.heap.size 0 []:=⟨0,.map [],World.ownsMap_made w _ _ _,lR,rfl,λk=>by simp[Maps.has]⟩
def BS.kp{S}{w w'}{M c:Nat}{ks}(h:BS w M c ks)(hK:Kp S w w')(a:M∉S):BS w' M c ks:=by
 let⟨n,D,⟨es,cl,hb,hf⟩,h2⟩:=h;exact⟨n,D,⟨es,cl,hK.heap hb a,hf⟩,h2⟩
def BS.len{w}{M c:Nat}{a}(h:BS w M c a)(ty):(Builtin.len_ #[249] ty #[.map (some M)]).run prog w=.ok (ϊ (a.length:Int)) w:=by
 let⟨n,D,b,e,d,f⟩:=h;rw[<-d];exact World.ownsMap.len b underlying249 ty
def BS.store{w}{M c b:Nat}{a}(h:BS w M c a)(p:b<=1000000)(r:c<=1000000):∃e,(Instr.mapUpdate 249 (.map (some M)) (ϊ (b:Int)) (.agg #[])).run prog w=.ok () e/\BS e M (c+1) (if b∈a then a else b::a)/\Kp [M] w e:=by
 let⟨n,D,f,q,o,i⟩:=h;let⟨e,j,l,m⟩:=World.ownsMap.store f Lw underlying249 (by simp[maxLen];omega) (Pe p) (unitElem_mk (H:=Unit));refine⟨e,j,⟨n+1,_,l,oM,?_,λk=>?_⟩,Kp.qS0 m⟩
 .rw[Maps.size_put (f.tidy Lw),i b,o];by_cases d:b∈a<;>simp[d]
 .by_cases g:k=b
  .rw[g,Maps.has_put_same f.isMap (Xu b)];by_cases d:b∈a<;>simp[d]
  .rw[Maps.has_put_other (Xv g),i k];by_cases d:b∈a<;>simp[d,g]
def BS.look{w}{M c k:Nat}{ks}(h:BS w M c ks)(f:k<=1000000):(Instr.lookup 249 (.map (some M)) (ϊ (k:Int)) true).run prog w=.ok (.tuple #[.agg #[],ϐ (decide (k∈ks))]) w:=by
 let⟨n,D,d,g,i,e⟩:=h;let⟨v,j,a,b⟩:=World.ownsMap.look_ok d Lw underlying249 (z:=.agg #[]) kR (unitElem_mk (H:=Unit)) (Pe f);obtain⟨rfl,_⟩:=unitElem_inv b;rw[a,e]
def JD(ks:List Nat)(b:Nat):List Nat:=if b∈ks then ks else b::ks
def Ui(M c b:Nat)(ks)(h)(w)(v:BS w M c ks)(B:h.p=none)(x:h.b=(b:Int))(y:b<=1000000)(z:c<=1000000)(m:ks.length<=1000000):Ω 235 #[.map (some M),AY h] w λe q=>e=ϱ (ϐ (decide (b∉ks)))/\BS q M (c+1) (JD ks b)/\Kp [M] w q:=by
 have C:h.ptr=none:=by simp[HL.ptr,B]
 let⟨n,D,⟨es,cl,hmb,hf⟩,h2⟩:=v;have:=U hmb;have u:Hid (BS w M c ks):=⟨n,D,⟨es,cl,hmb,hf⟩,h2⟩;rw[AY,C,x];let⟨I,p,f,d,F⟩:=BH w (ϲ #[ϕ h.key,ϊ (b:Int),.int .u64 h.s,ϗ none] 87);have g:=u.out.kp d sM;have o:=g.len 3;let⟨r,E,i,l⟩:=g.store y z;have A:=i.len 3;go_enter func235,ntmps235;go_wp2_with fail;rw[<-p,o];have:=U f;have:=ϻ f 1;have:=zh m;let⟨G,j⟩:=eX ks.length;let⟨H,k⟩:=eX ((if b∈ks then ks else b::ks).length);rw[<-j];rw[<-k]at A;have t:=zh (n2 j k);have s:Hid (BS r M (c+1) (JD ks b)/\Kp [M] w r):=⟨i,(d.mono sM).tr l⟩;clear i l d f o g m j k p;go_wp2;go_ret;refine⟨?_,s⟩;have h:=t.out;by_cases a:b∈ks
 .simp[a,if_true]at h;simp[a,h.1,h.2]
 .simp[a,if_false,lC]at h;simp[a,not_false_eq_true,decide_true];rw[h.1,h.2];simp
def BS.mono{w}{M c a:Nat}{ks}(h:BS w M c ks)(f:c<=a):BS w M a ks:=by
 let⟨n,D,b,e,d⟩:=h;exact⟨n,D,b,oM,d⟩
def BS.qX5{w}{M c:Nat}{ks}(h:BS w M c ks):ks.length<=c:=by
 let⟨n,D,a,b,d,_⟩:=h;have:=a.size_le;omega
def BS.at{w}{M c:Nat}{ks}(h:BS w M c ks):∃b a,w.heap[M]?=some (.map b a):=by
 let⟨n,D,⟨b,a,hb,hf⟩,h2⟩:=h;exact⟨b,a,hb⟩
def B3{X:Type}(f:X→List Nat→List Nat)(ks:List Nat)(m:θ X):List Nat:=match m.ref with
 | none=>f m.sub ks
 | some x=>if x.1∈ks then ks else f m.sub (x.1::ks)
def BV:(n:Nat)→Tn n→List Nat→List Nat
 | 0,_,ks=>ks
 | n+1,t,ks=>(J t).foldl (B3 (BV n)) ks
def Uh(M:Nat)(h)(q:Nat)(w)(a:h.p=some q):Ω 235 #[.map (some M),AY h] w λe c=>e=ϱ (ϐ true)/\Kp [] w c:=by
 have b:h.ptr=some (ϰ q 0):=by simp[HL.ptr,a]
 rw[AY,b];go_enter func235,ntmps235;go_wp2;go_ret;exact⟨rfl,kF.alloc _⟩
def NX{E:AI}(r:∀(n b:Nat)(s:Int)(t:Tn n),E.O n b s t->b<=1000000)(n M c:Nat)(a:Ϥ)(h:HL)(m:θ (Tn n))(w:Ϣ)(i:BS w M c a)(k:RL E.O n w h m)(u:c<=1000000):Ω 235 #[.map (some M),AY h] w λe d=>∃go ks1,e=ϱ (ϐ go)/\BS d M (c+1) ks1/\Kp [M] w d/\(∀f:Tn n->Ϥ->Ϥ,B3 f a m=if go then f m.sub ks1 else ks1):=by
 cases hx:m.ref with
 | none=>
  let⟨y,q,j,z⟩:=LZ k hx;refine mR (Uh M h q w j) ?_;rintro d hK;exact⟨true,a,rfl,(i.kp hK sM).mono oM,hK.mono sM,λf=>by simp[B3,hx]⟩
 | some x=>
  let⟨j,v⟩:=Ma k (by rw[hx];rfl);have g:=k.2;rw[hx]at g;apply mR (Ui M c x.1 a h w i j g.1 (r _ _ _ _ g.2.2.2) u (oW i.qX5));rintro d ⟨o,p⟩;refine⟨_,_,rfl,o,p,λf=>?_⟩;by_cases l:x.1∈a
  .simp[B3,hx,JD,l]
  .simp[B3,hx,JD,l]
def T2(E:AI)(t:Tn 0)(q M c:Nat)(b:Ϥ)(r:HL)(w:Ϣ)(g:E.Dev w)(a:RN E.O 0 w q t)(f:BS w M c b):Ω 236 #[.map (some M),υ E.V r,ϖ q] w λe d=>e=ϱ (.tuple #[])/\Kp [] w d:=by
 let⟨i,a,h⟩:=a;have:=U a;have:=ϻ a 2;rw[υ];go_enter func236,ntmps236;go_wp2_with fail;refine wp_loop_rounds 1 ?_;rw[rounds_succ];go_wp2
 go_end0
 exact⟨rfl,kF.alloc _⟩
def Env.ZM(E:Env)(M:Nat)(w:Ϣ)(e:Ending)(a:Ϣ):Prop:=(∃p,e=.panicked (CH p))/\E.qO2 a/\Kp (M::E.S) w a
abbrev Env.CM(E:Env)(M:Nat)(f:FuncId)(a:Array Value)(w:World)(Q:Ending→World→Prop):Prop:=Calls prog f a w fun e w'=>E.ZM M w e w'∨Q e w'
def Env.C.m{E:Env}{M:Nat}{f:FuncId}{a:ϧ}{w:Ϣ}{Q:Ending->ϯ}(h:E.C f a w Q):E.CM M f a w Q:=h.mono λ_ _ h=>h.imp (λh=>⟨h.1,h.2.1,h.2.2.mono sC⟩) id
def Env.qO7{E:Env}{M:Nat}{w d:Ϣ}{f:FuncId}{a:ϧ}{Q K:Ending->ϯ}(h:E.CM M f a d Q)(g:Kp (M::E.S) w d)(k:∀e b,Q e b->K e b) (c:∀p b,E.ZM M w (.panicked (CH p)) b->K (.panicked (CH p)) b:=by intro p b c;go_wp2;exact⟨rfl,.inl c⟩):Calls prog f a d K:=
 h.mono λe b h=>by
  rcases h with h|h
  .obtain⟨p,rfl⟩:=h.1;exact c p b ⟨h.1,h.2.1,g.trans h.2.2 (λi j _=>j)⟩
  .exact k e b h
def IW(E:AI)(n:Nat):Prop:=∀(t:Tn n)(q M c:Nat)(ks:Ϥ)(r:HL)(w:Ϣ),E.Dev w->RN E.O n w q t->BS w M c ks->c+AM n t<=1000000->
 E.toEnv.CM M 236 #[.map (some M),υ E.V r,ϖ q] w λe a=>e=ϱ (.tuple #[])/\BS a M (c+(AM n t-1)) (BV n t ks)/\E.Dev a/\Kp (M::E.S) w a
def TZ(E):IW E 0:=λt q M c e r w b d a f=>by
 refine mR (T2 E t q M c e r w b d a) ?_;rintro g hK;exact .inr ⟨rfl,(a.kp hK sM).mono oM,(Env.To.of0 b hK).dev,hK.mono sM⟩
def Fj(E:AI){w:Ϣ}{M d:Nat}{j:Ϥ}(g:E.Dev w)(f:BS w M d j){k:Nat}{c:ϧ}{t:Ϯ}{e:Nat×Nat}(h:w.heap[k]?=some (ϲ c t e))(i:t∉DF):k∉M::E.S:=λa=>by
 rcases List.mem_cons.1 a with rfl|a
 .let⟨m,l,b⟩:=f.at;rw[h]at b;cases b
 .exact E.nin g h i a
def Jd(E:AI){w:Ϣ}{M a:Nat}{h:Ϥ}(d:E.Dev w)(b:BS w M a h):χ w (M::E.S) BU:=λk f c t i e g=>Fj E d b e ((by decide:∀t∈BU,t∉DF) t g) f
def TY(E)(hO:∀(n b:Nat)(s:Int)(t),E.O n b s t->b<=1000000)(n:Nat)(IH:IW E n):IW E (n+1):=by intro t q M c ks r w hd g hM hc;let⟨vl,g,a,ay,L⟩:=g;obtain⟨lb,lc,rfl⟩:=DU ay;let⟨p,X⟩:=eX a.length;obtain⟨y,ag⟩:∃y:Int,y=((n+1:Nat):Int):=⟨_,rfl⟩;rw[<-X,<-ag]at g;have F:=zh<|n2 X ag;have:=U g;have:=ϻ g 2;have a9:=Df (λl:θ (Tn n)=>AM n l.sub) (J t) (λx _=>by cases n<;>simp[AM]);have aw:AM (n+1) t=1+qK3 (λl:θ (Tn n)=>AM n l.sub) (J t):=rfl;(have:p<=1000000:=by rw[X,L.1];omega);clear X ag a9;rw[υ];go_enter func236,ntmps236;go_wp2_with fail;have Z:Kp [] w (w.alloc<|ϲ (ϟ E.V r) 89):=kF.alloc _;go_loopw [13] (λi wr=>∃j:Nat,j<=p/\i=.int .i64 j/\w.heap.size<wr.heap.size/\Hid (BS wr M (c+qK3 (λl:θ (Tn n)=>AM n l.sub) ((J t).take j))<|((J t).take j).foldl (B3<|BV n) ks)/\Hid (E.Dev wr)/\Hid (Kp (M::E.S) w wr)/\Hid (Ϙ wr w.heap.size<|ϲ (ϟ E.V r) 89)) λi _=>p-(intOf i).toNat;(case atStart=>exact⟨0,zL _,rfl,sM,by show BS _ _ _ _;simpa [Bf] using hM.kp Z sM,(Env.To.of0 hd Z).dev,Z.mono sM,φ w<|ϲ (ϟ E.V r) 89⟩);case round=>obtain⟨j,hj,rfl,bi,an,al,D,ao⟩:=hrel;have au:=Jd E hd hM;have:=D.out.heap g<|Fj E hd hM g dC;by_cases bg:j<p;(. (have af:j<a.length:=by have:=F.out;omega);(have O:j<(J t).length:=by rwa[<-L.1]);let⟨gb,B,be,bf,fq,hv,a7,aj,av⟩:=ay.link oM;let⟨c0,c1,c2,c3⟩:=av j af;simp[vJ,bN]at hv;obtain⟨rfl,rfl⟩:=hv;have I:=D.out.heap aj<|Fj E hd hM aj dC;have a0:=Y I<|B+j*4;have a1:=Y I<|B+j*4+1;have a2:=Y I<|B+j*4+2;have a3:=Y I<|B+j*4+3;rw[c0]at a0;rw[c1]at a1;rw[c2]at a2;rw[c3]at a3;have:=U I;have:(j:Int)<(p:Int):=oM;have ah:=EI (λl:θ (Tn n)=>AM n l.sub) (J t) j O;have:=IA (λl:θ (Tn n)=>AM n l.sub) (J t) j O;(have:1<=AM n (J t)[j].sub:=by cases n<;>simp[AM]);(have ae:((J t).take<|j+1).foldl (B3<|BV n) ks=B3 (BV n) (((J t).take j).foldl (B3<|BV n) ks) (J t)[j]:=by rw[tA O,cK];rfl);clear av a7 aj c0 c1 c2 c3;go_wp2_with fail;let⟨w1,bd,ap,z,bh⟩:=BH wr<|ϲ #[ϕ a[j].key,ϊ a[j].b,.int .u64 a[j].s,ϗ a[j].ptr] 87;rw[<-bd];have aa:=an.out.kp z sM;apply(show Calls _ _ _ _ _ from NX hO n M _ _ a[j] (J t)[j] w1 aa (RL.qK4 (zh<|RL.qK4 (L.2 j af O) D au) z<|χ.nil _ _) oM).mono;rintro e C ⟨go,az,rfl,T,H,ak⟩;(have bb:AH w1 [M]:=λk hk c t G e=>by let⟨es,cl,m⟩:=aa.at;rw[mS hk,m]at e;cases e);have Q:=E.qL3 _ _ _ ((Env.To.of0 al z).dev) H bb;have u:=(D.tr z).tr H;have ab:=u.heap g<|Fj E hd hM g dC;have:=U ab;have:=ϻ ab 0;(have ax:∀k c t G,Ϙ w1 k (ϲ c t G)->k∉[M]:=λk c t G e hm=>by let⟨es,cl,m⟩:=aa.at;rw[<-mS hm,e]at m;cases m);have ad:=H.heap (z.hp ao)<|ax _ _ _ _<|z.hp ao;have:=H.size;have a4:=zh<|RL.qK4 (L.2 j af O) u au;cases go with|false=>go_wp2;exact⟨⟨j+1,oM,by go_num,oM,by show BS _ _ _ _;rw[ae,ak,ah];exact T.mono oM,Q,u,ad⟩,by simp[intOf];omega⟩|true=>by_cases ba:n=0;(. (have:¬(1:Int)<y:=by have:=F.out;omega);go_wp2;refine⟨⟨j+1,oM,by go_num,oM,?_,Q,u,ad⟩,by simp[intOf];omega⟩;show BS _ _ _ _;rw[ae,ak,ah];subst ba;exact T.mono oM);(have:(1:Int)<y:=by have:=F.out;omega);go_wp2_with fail;have d:Ϙ C.drew w.heap.size (ϲ (ϟ E.V r) 89)/\Ϙ C.drew wr.heap.size (ϲ #[ϕ a[j].key,ϊ a[j].b,.int .u64 a[j].s,ϗ a[j].ptr] 87)/\Ϙ C.drew q (Aq y (ϒ none 0 0)<|ϑ gb B p lc):=⟨ad,H.heap ap<|ax _ _ _ _ ap,ab⟩;refine aB (S:=λW=>Ϙ W w.heap.size (ϲ (ϟ E.V r) 89)/\Ϙ W wr.heap.size (ϲ #[ϕ a[j].key,ϊ a[j].b,.int .u64 a[j].s,ϗ a[j].ptr] 87)/\Ϙ W q (Aq y (ϒ none 0 0)<|ϑ gb B p lc)) kR d λ_=>?_;apply zN 0 d;apply zV 1 _ rfl (λW f=>by have:=Y f.1;go_simp;rfl) d;apply zV 2 _ rfl (λW f=>by have:=Y f.1;go_simp;rfl) d;refine zV 3 _ rfl (λW f=>by have:=Y f.2.1;go_simp;rfl) d ?_;apply zN 4 d;refine zV 5 _ rfl (λW f=>by have c:=U f.2.2;go_simp;rfl) d ?_;apply zN 6 d;apply zV 7 _ rfl (λW f=>by have:=ϻ f.2.2 0;go_simp;rfl) d;refine zq 8 λK hK=>?_;go_simp;have A:Kp [] C C.drew:=kF.drew;have V:=Env.To.of0 Q A;apply Env.qO7 (C0 E.toEnv n a[j] r (J t)[j] y C.drew V.dev (RL.qK4 a4 A<|χ.nil _ _)<|oW F.out).m<|u.tr A;rintro e w3 ⟨q3,rfl,bc,o⟩;have aq:BS w3 M _ az:=(T.kp A sM).kp o.kp (by let⟨es,cl,m⟩:=T.at;exact E.qY5 Q m);have v:=n2 (E.stay V.dev o d.1 dC)<|n2 (E.stay V.dev o d.2.1 dC)<|E.stay V.dev o d.2.2 dC;refine zk hK v ?_;refine zq 9 λK hK=>?_;go_simp;apply Env.qO7 (IH (J t)[j].sub q3 M _ az r w3 o.dev bc aq oM)<|(u.tr A).trans o.kp λi N _=>mM _ N;rintro e w4 ⟨rfl,a6,a5,R⟩;have ai:∀{k:Nat} {c:Array Value} {tt:TypeId} {G:Nat×Nat},Ϙ w3 k (ϲ c tt G)->tt∉DF->k∉M::E.S:=λh1 m=>Fj E o.dev aq h1 m;have ac:=n2 (R.heap v.1<|ai v.1 dC)<|n2 (R.heap v.2.1<|ai v.2.1 dC)<|R.heap v.2.2<|ai v.2.2 dC;refine hK.out _ _ ac λ_=>?_;refine zd ?_;(try simp[zZ]);have P:=zh<|n4 a6 a5 (((u.tr A).trans o.kp λi N _=>mM _ N).trans R λi N _=>N)<|U ac.1;go_wp2;refine⟨⟨j+1,oM,by go_num,P.2.2.2,?_,P.2.1,P.2.2.1,zh ac.1⟩,by simp[intOf];omega⟩;show BS _ _ _ _;rw[ae,ak,ah];exact P.1.mono oM);have:¬(j:Int)<(p:Int):=oM;have a8:(J t).take j=J t:=tL (by rw[<-L.1];have:=F.out;omega);have ar:=an.out;rw[a8]at ar;have am:Hid (BS wr M (c+(AM (n+1) t-1))<|BV (n+1) t ks):=ar.mono (by rw[aw];omega);go_wp2;go_end0;exact .inr ⟨rfl,by first | exact am | (have h:=am.out;rwa[aw,Nat.add_sub_cancel_left]at h),al,D⟩
def NQ(E:AI)(a:∀(n b:Nat)(s:Int)(t:Tn n),E.O n b s t->b<=1000000):∀n,IW E n
 |0=>TZ E|n+1=>TY E a n<|NQ E a n
def AQ(N:Nat)(ks:List Nat):List Nat:=(List.range' 2 (N-2)).filter (fun k=>decide (k∉ks))
def Ws(ks)(i:Nat):AQ (2+(i+1)) ks=AQ (2+i) ks++(if 2+i∈ks then [] else [2+i]):=by unfold AQ;rw[show 2+(i+1)-2=i+1 from by omega,show 2+i-2=i from by omega,List.range'_concat,dV];congr 1;by_cases h:2+i∈ks<;>simp[h]
def Wt(ks)(k:Nat)(h:2<=k):AQ (k+1) ks=AQ k ks++(if k∈ks then [] else [k]):=by have e:=Ws ks<|k-2;rwa[show 2+(k-2+1)=k+1 from by omega,show 2+(k-2)=k from by omega]at e
def OQ(N:Nat)(ks):(AQ N ks).length<=N:=by unfold AQ;refine lT (dI _ _) ?_;simp
def W8(a)(b:Nat):ints (a++[b])=ints a++[ϊ (b:Int)]:=by simp[ints]
def WU:(prog.info? 3).map (λi=>(i.zero,i.size,i.bytes))=some (some (ϊ 0),1,8):=kR
def Za(M c V A N:Nat)(ks)(w)(p:BS w M c ks)(t:w.heap[V]?=some (DK A N))(r:2<=N)(F:N<=1000):Ω 171 #[.map (some M),ϖ V] w λe l=>∃v,e=ϱ v/\Ai l 3 1 v (AQ N ks).length (ints (AQ N ks))/\Kp [] w l:=by let⟨i0,hi,hz0,hz1,hz2⟩:=bF WU;go_enter func171,ntmps171;go_wp2_with fail;go_loopw [5,6] (λs i wr=>∃(k:Nat),2<=k/\k<=N/\i=.int .i64 (k:Int)/\Hid (wr.ownsRow w.heap.size 3 1 s (AQ k ks).length<|ints<|AQ k ks)/\Hid (Kp [] w wr)) λ_ i _=>N-(intOf i).toNat;(case atStart=>exact⟨2,aM _,r,rfl,World.ownsRow_nil _ _ _ _,kE _ _⟩);case round=>obtain⟨k,y,G,rfl,b,a⟩:=hrel;go_wp2_with fail;refine mR (Ko V A N wr<|a.hp t) ?_;rintro l C;rw[C];by_cases H:k<N;(.have hlk:=(p.kp a sM).look (k:=k) oM;have:(k:Int)<(N:Int):=oM;have m:=zh<|Wt ks k y;have:=OQ k ks;by_cases d:k∈ks;(. (have f:decide (k∈ks)=true:=by simp[d]);rw[f]at hlk;have h:=b.out;rw[show AQ k ks=AQ (k+1) ks from by rw[m.out,aR d,List.append_nil]]at h;go_wp2;refine⟨⟨k+1,oM,oM,by go_num,(Hid.mk' h).alloc _,a.alloc _⟩,iO⟩);(have f:decide (k∈ks)=false:=by simp[d]);rw[f]at hlk;(have n:Hid (AQ (k+1) ks=AQ k ks++[k]):=by show _=_;rw[m.out,aO d]);go_wp2_with (at_builtin;refine bK _ rfl _ _ 24 rfl w.heap.size 3 i0 (ϊ 0) 1 8 underlying24 hi hz0 hz1 hz2 rfl dC _ _ _ rfl ((b.alloc _).alloc _) (ϰ (wr.heap.size+1) 0) 1 1 [ϊ (k:Int)] rfl rfl ?_ (by simp[Value.oneCell']) (by unfold maxLen;omega) oM (by have:=a.out.size;simp;omega) ?_);intro j u g;(cases j with|zero=>simp[zH,aP]at g;subst g;simp[Addr.add]|succ j=>simp at g);intro D E I x _;(have o:Hid (E.ownsRow w.heap.size 3 1 D (AQ (k+1) ks).length<|ints<|AQ (k+1) ks):=by show World.ownsRow _ _ _ _ _ _ _;rwa[n.out,W8,List.length_append]);go_wp2;exact⟨⟨k+1,oM,oM,by go_num,o,zh<|((a.alloc _).alloc _).grown x λq B=>Or.inr<|qL8 b q B⟩,iO⟩);have:¬(k:Int)<(N:Int):=oM;have z:k=N:=oM;have h:=b.out;rw[z]at h;go_wp2;go_ret;exact⟨_,rfl,DV<|Hid.mk' h,a⟩
def GB(V:Nat)(h:HL):List Value:=[.pointer (some ⟨V,0,none⟩),.string h.key,.int .i64 h.b,.int .u64 h.s,.pointer h.ptr]
def Ea(V:Nat)(hs:List HL):List Value:=hs.flatMap (GB V)
def qD8(V:Nat)(hs)(i k:Nat)(b:i<hs.length)(c:k<5):(Ea V hs)[i*5+k]?=(GB V hs[i])[k]?:=by have h:=Lj (GB V) 5 hs (λx _=>rfl) i b;have a:=congrArg (λz=>z[k]?) h;simp[aX,aR c,bU]at a;exact a
def Ai.tree{V:Nat}{w}{v}{hs}(h:Ai w 89 5 v hs.length (Ea V hs))(j:1<=hs.length):∃g b e a f,v=.slice (some (ϰ g b)) hs.length e/\hs.length<=e/\w.heap[g]?=some (ϲ a 89 f)/\∀i (h:i<hs.length),a[b+i*5]?=some (ϖ V)/\a[b+i*5+1]?=some (ϕ hs[i].key)/\a[b+i*5+2]?=some (ϊ hs[i].b)/\a[b+i*5+3]?=some (.int .u64 hs[i].s)/\a[b+i*5+4]?=some (ϗ hs[i].ptr):=by rcases h.val with⟨h0,_⟩|⟨g,b,e,a,f,h1,h2,h3,h4,h5⟩;omega;(have d:∀i (c:i<hs.length) k (hk:k<5) u,(GB V hs[i])[k]?=some u->a[b+i*5+k]?=some u:=λi c k hk u hu=>by rw[gX];exact h5 _ _<|(qD8 V hs i k c hk).trans hu);exact⟨g,b,e,a,f,h1,h3,h4,λi c=>⟨d i c 0 oM _ rfl,d i c 1 oM _ rfl,d i c 2 oM _ rfl,d i c 3 oM _ rfl,d i c 4 oM _ rfl⟩⟩
def Ag(ks:List Nat):Ah→List Nat
 | .none=>ks
 | .at n l=>B3 (BV n) ks l
def Bg:Ah→Nat
 | .none=>0
 | .at n l=>AM n l.sub
def NM(E:AI)(hO:∀(n b:Nat)(s:Int)(t:Tn n),E.O n b s t->b<=1000000)(M c:Nat)(B:Ϥ)(v:Value)(a:List HL)(d:List Ah)(w:Ϣ)(hd:E.Dev w)(A:Ai w 89 5 v a.length (Ea E.V a))(hl:a.length=d.length)(hr:∀i (h1:i<a.length) (u:i<d.length),RR E.toEnv w a[i] d[i]/\(∀n l,d[i]=.at n l->l.key=⟨#[]⟩))(Z:BS w M c B)(hc:c+qK3 Bg d<1000000)(hn:a.length<=1000):E.toEnv.CM M 170 #[.map (some M),v] w λe D=>e=ϱ (.tuple #[])/\BS D M (c+qK3 Bg d) (d.foldl Ag B)/\E.Dev D/\Kp (M::E.S) w D:=by obtain⟨bs,cp,rfl⟩:=DU A;let⟨r,ae⟩:=eX a.length;rw[<-ae];have Q:=zh<|n2 ae hl;have:r<=1000:=oM;clear ae hl hn;go_enter func170,ntmps170;go_wp2_with fail;go_loopw [8] (λi wr=>∃j:Nat,j<=r/\i=.int .i64 j/\Hid (BS wr M (c+qK3 Bg (d.take j))<|(d.take j).foldl Ag B)/\Hid (E.Dev wr)/\Hid (Kp (M::E.S) w wr)) λi _=>r-(intOf i).toNat;(case atStart=>exact⟨0,zL _,rfl,by show BS _ _ _ _;simpa [Bf] using Z,hd,kE _ _⟩);case round=>obtain⟨j,hj,rfl,ah,ag,P⟩:=hrel;by_cases bf:j<r;(. (have ar:j<a.length:=by have:=Q.out;omega);(have F:j<d.length:=by have:=Q.out;omega);let⟨gb,C,bd,be,fq,A,a6,af,aq⟩:=A.tree oM;let⟨c0,c1,c2,c3,c4⟩:=aq j ar;simp[vJ,bN]at A;obtain⟨rfl,rfl⟩:=A;have o:=P.out.heap af<|Fj E hd Z af dC;have a0:=Y o<|C+j*5;have a1:=Y o<|C+j*5+1;have a2:=Y o<|C+j*5+2;have a3:=Y o<|C+j*5+3;have a4:=Y o<|C+j*5+4;rw[c0]at a0;rw[c1]at a1;rw[c2]at a2;rw[c3]at a3;rw[c4]at a4;have:=U o;have:(j:Int)<(r:Int):=oM;have G:=EI Bg d j F;have a9:=IA Bg d j F;(have O:Hid ((d.take<|j+1).foldl Ag B=Ag ((d.take j).foldl Ag B) d[j]):=by show _=_;rw[tA F,cK];rfl);clear aq a6 af c0 c1 c2 c3 c4;go_wp2_with fail;let⟨H,bc,ai,T,bg⟩:=BH wr<|ϲ #[ϖ E.V,ϕ a[j].key,ϊ a[j].b,.int .u64 a[j].s,ϗ a[j].ptr] 89;rw[<-bc];have am:=ah.out.kp T sM;have aj:=(Env.To.of0 ag T).dev;have X:=P.out.tr T;have ad:=Jd E hd Z;let⟨p,a8⟩:=hr j ar F;cases hrj:d[j] with|none=>rw[hrj]at p;have hz:a[j]=⟨⟨#[]⟩,0,0,none⟩:=p;refine mR (show Calls _ _ _ _ _ from(by have h:=Jq E.V H;rw[<-hz]at h;exact h:Ω 92 #[υ E.V a[j]] H λe D=>e=ϱ (.bool true)/\Kp [] H D)) ?_;rintro w2 f;have L:=zh<|n3 (am.kp f sM) ((Env.To.of0 aj f).dev)<|X.tr f;have g:=f.hp ai;have:=U g;go_wp2;refine⟨⟨j+1,oM,by go_num,?_,L.2.1,L.2.2⟩,by simp[intOf];omega⟩;show BS _ _ _ _;rw[O.out,hrj,G,hrj];exact L.1.mono (by simp[Bg])|«at» n l=>rw[hrj]at p;apply mR<|show Calls _ _ _ _ _ from H7 E.toEnv n a[j] l H (RL.qK4 p X ad)<|a8 n l hrj;rintro w2 f;have aa:=am.kp f sM;have al:=X.tr f;have g:=f.hp ai;have:=U g;have:=Y g;rw[hrj]at a9 G;(have:1<=Bg (.at n l):=by simp[Bg];cases n<;>simp[AM]);go_wp2_with fail;refine(show Calls _ _ _ _ _ from NX hO n M _ _ a[j] l w2 aa (RL.qK4 p al ad) oM).mono ?_;rintro e I ⟨go,aw,rfl,ab,V,av⟩;(have au:∀{S:List Nat} {W:World} {cc:Nat} {kk:List Nat} {k:Nat} {c:Array Value} {t:TypeId} {fr:Nat×Nat},BS W M cc kk->Ϙ W k (ϲ c t fr)->k∉[M]:=λhB e hm=>by let⟨es,cl,u⟩:=hB.at;rw[<-mS hm,e]at u;cases u);have ba:AH w2 [M]:=λk hk c t fr e=>absurd hk<|au (S:=[]) aa e;have R:=E.qL3 _ _ _ ((Env.To.of0 aj f).dev) V ba;have x:=al.tr V;have ay:=V.heap g<|au (S:=[]) aa g;have ax:=zh<|RL.qK4 p x ad;cases go with|false=>go_wp2;refine⟨⟨j+1,oM,by go_num,?_,R,x⟩,by simp[intOf];omega⟩;show BS _ _ _ _;rw[O.out,hrj,G,Ag,av];exact ab.mono oM|true=>go_wp2_with fail;have y:Ϙ I.drew (ϳ wr) (ϲ #[ϖ E.V,ϕ a[j].key,ϊ a[j].b,.int .u64 a[j].s,ϗ a[j].ptr] 89):=ay;refine aB (S:=λW=>Ϙ W (ϳ wr)<|ϲ #[ϖ E.V,ϕ a[j].key,ϊ a[j].b,.int .u64 a[j].s,ϗ a[j].ptr] 89) kR y λ_=>?_;refine zN 0 y ?_;refine zV 1 _ rfl (λW hS=>by have:=Y hS;go_simp;rfl) y ?_;apply zV 2 _ rfl (λW hS=>by have:=Y hS;go_simp;rfl) y;refine zq 3 λK hK=>?_;go_simp;have m:Kp [] I I.drew:=kF.drew;have ap:=Env.To.of0 R m;refine Env.qO7 (Hk E.toEnv n a[j] l I.drew ap.dev<|RL.qK4 ax m<|χ.nil _ _).m (x.tr m) ?_;rintro e w4 ⟨q4,rfl,bb,q⟩;have an:BS w4 M _ aw:=(ab.kp m sM).kp q.kp (by let⟨es,cl,u⟩:=ab.at;exact E.qY5 R u);have ac:=E.stay ap.dev q y dC;refine zk hK ac ?_;refine zq 4 λK hK=>?_;go_simp;have:Bg (.at n l)=AM n l.sub:=rfl;apply Env.qO7 (NQ E hO n l.sub q4 M _ aw a[j] w4 q.dev bb an oM)<|(x.tr m).trans q.kp λi z _=>mM _ z;rintro e w5 ⟨rfl,a5,az,ak⟩;refine hK.out _ _ (ak.heap ac<|Fj E q.dev an ac dC) λ_=>?_;refine zd ?_;(try simp[zZ]);have N:=zh<|n3 a5 az<|((x.tr m).trans q.kp λi z _=>mM _ z).trans ak λi z _=>z;go_wp2;refine⟨⟨j+1,oM,by go_num,?_,N.2.1,N.2.2⟩,by simp[intOf];omega⟩;show BS _ _ _ _;rw[O.out,hrj,G,Ag,av];exact N.1.mono oM);have:¬(j:Int)<(r:Int):=oM;have a7:d.take j=d:=tL<|oW Q.out;have ao:=ah.out;rw[a7]at ao;go_wp2;go_end0;exact .inr ⟨rfl,ao,ag,P⟩
def RR.kp{E}{w w'}{h}{r}{S}(a:RR E w h r)(hK:Kp S w w')(b:χ w S BU):RR E w' h r:=by
 cases r with
 | none=>exact a
 | «at» n l=>exact RL.qK4 a hK b
variable {κ:Nat}
def τ(N:Int):Int:=(N+1) % 18446744073709551616
def Dh(N:Int):0<=τ N/\τ N<18446744073709551616:=by unfold τ;omega
def Hl(N:Int):τ N % 2=(N+1) % 2:=by unfold τ;omega
def JT(N c d a b:Int)(w):Ω 141 #[.agg #[.int .u64 N,ϊ c,.int .u64 d],.agg #[ϊ a,.int .u64 b]] w λe f=>e=ϱ (.agg #[.int .u64 (τ N),ϊ a,.int .u64 b])/\Below w.heap.size w f:=by
 have:IntKind.u64.wrap (N+1)=τ N:=by rw[IntKind.wrap_u64];rfl
 go_enter func141,ntmps141;go_wp2;refine bodyPost_ret (results_cell_row results141 _ _ (w.heap.size+1+1) 166 #[.int .u64 (τ N),ϊ a,.int .u64 b] (0,0) _ rfl ?_ underlying166 rfl kR) rfl ⟨rfl,(((Below.refl _ _).alloc lR _).alloc sM _).alloc sO _⟩;simpa using φ ((w.alloc (ϲ #[.int .u64 N,ϊ c,.int .u64 d] 166)).alloc (ϲ #[ϊ a,.int .u64 b] 84)) (ϲ #[.int .u64 (τ N),ϊ a,.int .u64 b] 166)
def Ak(N rb rs:Int):List UInt8:=ι (B0 N rb rs)++List.replicate 96 0
def Cq(N a b:Int):(Ak N a b).length=128:=by simp[Ak,EL,Mu]
def Au.led(s:Au)(qb qs:Int):Au:={ s with N:=τ s.N,rb:=qb,rs:=qs }
namespace Gw
structure TK where
 over:Bool
 wrt:Bool
 nr:Int
def cnt(wr:Bool)(ks:List TK):Nat:=ks.countP fun k=>!k.over && (k.wrt == wr)
structure B8(s:Au)(D:Ϫ)(c:List TK):Prop where
 size:Maps.size D=cnt false c
 keys:∀m,Maps.has D (Ad m)=true↔∃(j:Nat)(k:TK),c[j]?=some k/\k.over=false/\k.wrt=false/\k.nr=m
 wrs:∀(j:Nat)(k:TK),c[j]?=some k->k.over=false->k.wrt=true->k.nr=s.wr
 wr1:s.wr≠0->∃(j:Nat)(k:TK),c[j]?=some k/\k.over=false/\k.wrt=true/\k.nr=s.wr
 nrs:∀(j:Nat)(k:TK),c[j]?=some k->1<=k.nr/\k.nr<=s.bg
 four:Maps.size D<=4
 qP2:∀(a b:Nat)(d e:TK),c[a]?=some d->c[b]?=some e->d.nr=e.nr->a=b
def JE{a b:Int}(h:Ad a=Ad b):a=b:=by simp[Ad]at h;cases h;rfl
def Pf(a:Int):WideAt.IsKeyLit (Ad a):=by simp[Ad,WideAt.IsKeyLit]
def B8.none{s}{D}(c:Maps.size D=0)(d:∀m,Maps.has D (Ad m)=false)(e:s.wr=0):B8 s D []:=
 ⟨by rw[c];rfl,λm=>by simp[d m],λj k h=>by simp at h,λh=>absurd e h,λj k h=>by simp at h,oM,λa b ka kb h=>by simp at h⟩
def E2{a:List TK}{x k:TK}{j:Nat}(h:(a++[x])[j]?=some k):a[j]?=some k\/(j=a.length/\k=x):=by rcases iL j a.length with b|b;rw[jB b]at h;exact .inl h;rw[List.getElem?_append_right b]at h;(have:j-a.length=0:=by rcases iW (j-a.length) with c|c;exact c;rw[gN sO]at h;cases h);rw[this]at h;simp at h;exact .inr ⟨oM,h.symm⟩
def KW{a:List TK}{x k:TK}{j:Nat}(h:a[j]?=some k):(a++[x])[j]?=some k:=by (have:j<a.length:=by rcases iL j a.length with b|b;exact b;rw[gN b]at h;cases h);rwa[jB this]
def NL{b:List TK}{k:TK}{j:Nat}(h:b[j]?=some k):j<b.length:=by rcases iL j b.length with a|a;exact a;rw[gN a]at h;cases h
def B8.nw{s}{D}{b:List TK}(h:B8 s D b)(d:s.wr=0){j:Nat}{k:TK}(a:b[j]?=some k)(c:k.over=false):k.wrt=false:=by cases hw:k.wrt with|false=>rfl|true=>have:=h.wrs j k a c hw;have:=(h.nrs j k a).1;omega
def B8.qR5{s}{D}{i:List TK}(h:B8 s D i)(o:s.wr=0)(t:0<=s.bg):B8 s.wrote D (i++[⟨false,true,s.bg+1⟩]):=by refine⟨?_,λm=>?_,λj k c ho hw=>?_,λ_=>?_,λj k c=>?_,h.four,λa b ka kb f hb' e=>?_⟩;rw[h.size,cnt,cnt,List.countP_append];simp[List.countP_cons];rw[h.keys m];constructor;rintro⟨j,k,d,g⟩;exact⟨j,k,KW d,g⟩;rintro⟨j,k,d,g,l,p⟩;rcases E2 d with d|⟨_,rfl⟩;exact⟨j,k,d,g,l,p⟩;cases l;rcases E2 c with c|⟨_,rfl⟩;have:=h.nw o c ho;rw[hw]at this;cases this;rfl;exact⟨i.length,⟨false,true,s.bg+1⟩,sM,rfl,rfl,rfl⟩;rcases E2 c with c|⟨_,rfl⟩;have:=h.nrs j k c;exact⟨this.1,by show k.nr<=s.bg+1;omega⟩;exact⟨by show 1<=s.bg+1;omega,iR _⟩;rcases E2 f with f|⟨q,rfl⟩<;>rcases E2 hb' with n|⟨r,rfl⟩;exact h.qP2 a b ka kb f n e;have:=(h.nrs a ka f).2;simp only at e;omega;have:=(h.nrs b kb n).2;simp only at e;omega;omega
def B8.qS8{s}{D d}{o:List TK}(h:B8 s D o)(n:Maps.Tidy D)(y:0<=s.bg)(i:Maps.size D<4):B8 s.read (D.put (Ad (s.bg+1)) d) (o++[⟨false,false,s.bg+1⟩]):=by (have q:Maps.has D (Ad<|s.bg+1)=false:=by cases hh:Maps.has D (Ad<|s.bg+1) with|false=>rfl|true=>let⟨j,k,c,_,_,i⟩:=(h.keys _).1 hh;have:=(h.nrs j k c).2;omega);refine⟨?_,λm=>?_,λj k f ho hw=>?_,λhw=>?_,λj k f=>?_,by rw[Maps.size_put n,q,aO sM];omega,λa b r t l v e=>?_⟩;rw[Maps.size_put n,q,aO sM,h.size,cnt,cnt,List.countP_append];simp[List.countP_cons];by_cases e:m=s.bg+1;subst e;rw[Maps.has_put_same n.isMap<|Pf _];simp[true_iff];exact⟨o.length,⟨false,false,s.bg+1⟩,sM,rfl,rfl,rfl⟩;rw[iU λh=>e<|JE h,h.keys m];constructor;rintro⟨j,k,c,g⟩;exact⟨j,k,KW c,g⟩;rintro⟨j,k,c,g,u,i⟩;rcases E2 c with c|⟨_,rfl⟩;exact⟨j,k,c,g,u,i⟩;exact absurd i.symm e;rcases E2 f with f|⟨_,rfl⟩;exact h.wrs j k f ho hw;cases hw;let⟨j,k,c,g⟩:=h.wr1 hw;exact⟨j,k,KW c,g⟩;rcases E2 f with f|⟨_,rfl⟩;have:=h.nrs j k f;exact⟨this.1,by show k.nr<=s.bg+1;omega⟩;exact⟨by show 1<=s.bg+1;omega,iR _⟩;rcases E2 l with l|⟨w,rfl⟩<;>rcases E2 v with p|⟨x,rfl⟩;exact h.qP2 a b r t l p e;have:=(h.nrs a r l).2;simp only at e;omega;have:=(h.nrs b t p).2;simp only at e;omega;omega
def B8.left{s}{D}{l:List TK}(h:B8 s D l)(G:Maps.Tidy D){i:Nat}{k:TK}(f:l[i]?=some k)(F:k.over=false):B8 (s.left k.nr) (D.del (Ad k.nr)) (l.set i ⟨true,k.wrt,k.nr⟩):=by have v:=NL f;(have L:l[i]=k:=by rw[gQ v]at f;exact cG f);(have q:∀j x,(l.set i ⟨true,k.wrt,k.nr⟩)[j]?=some x->(j≠i/\l[j]?=some x)\/(j=i/\x=⟨true,k.wrt,k.nr⟩):=λj x d=>by rw[List.getElem?_set]at d;split at d;rename_i e;subst e;simp[v]at d;exact .inr ⟨rfl,d.symm⟩;rename_i e;exact .inl ⟨λh=>e h.symm,d⟩);(have E:∀j x,j≠i->l[j]?=some x->(l.set i ⟨true,k.wrt,k.nr⟩)[j]?=some x:=λj x r d=>by rwa[List.getElem?_set_ne λe=>r e.symm]);refine⟨?_,λm=>?_,λj x d ho' hw=>?_,λhw=>?_,λj x d=>?_,by have p:=Maps.size_del (k:=Ad k.nr) G;have:=h.four;omega,λa b w y H I e=>?_⟩;have p:=Maps.size_del (k:=Ad k.nr) G;rw[h.size]at p;(have K:cnt false (l.set i ⟨true,k.wrt,k.nr⟩)=cnt false l-(if k.wrt=false then 1 else 0):=by rw[cnt,List.countP_set v,L,cnt];cases hw:k.wrt<;>simp[F,hw]);rw[K];(cases hw:k.wrt with|false=>have:Maps.has D (Ad k.nr)=true:=(h.keys _).2 ⟨i,k,f,F,hw,rfl⟩;rw[this]at p;simp at p |-;omega|true=>(have:Maps.has D (Ad k.nr)=false:=by cases hh:Maps.has D (Ad k.nr) with|false=>rfl|true=>let⟨j,x,c,_,o,g⟩:=(h.keys _).1 hh;have:=h.qP2 j i x k c f g;subst this;rw[f]at c;cases c;rw[hw]at o;cases o);rw[this]at p;simp at p |-;omega);by_cases e:m=k.nr;subst e;rw[gK];simp only[cE,false_iff];rintro⟨j,x,c,n,o,g⟩;rcases q j x c with⟨r,c⟩|⟨_,rfl⟩;exact r<|h.qP2 j i x k c f g;cases n;rw[eQ λh=>e<|JE h,h.keys m];constructor;rintro⟨j,x,c,n,o,g⟩;refine⟨j,x,E j x (λu=>?_) c,n,o,g⟩;subst u;rw[f]at c;cases c;exact e g.symm;rintro⟨j,x,c,n,o,g⟩;rcases q j x c with⟨_,c⟩|⟨_,rfl⟩;exact⟨j,x,c,n,o,g⟩;cases n;rcases q j x d with⟨r,d⟩|⟨_,rfl⟩;have:=h.wrs j x d ho' hw;show x.nr=(s.left k.nr).wr;have t:k.nr≠s.wr:=λe=>r<|h.qP2 j i x k d f (by rw[this,e]);rw[Au.left];simp only[aO t];exact this;cases ho';(have t:k.nr≠s.wr:=λe=>by apply hw;simp[Au.left,e]);(have M:s.wr≠0:=λe=>by apply hw;simp[Au.left,t,e]);let⟨j,x,c,n,o,g⟩:=h.wr1 M;refine⟨j,x,E j x (λu=>?_) c,n,o,?_⟩;subst u;rw[f]at c;cases c;exact t g;simp only[Au.left,aO t];exact g;rcases q j x d with⟨_,d⟩|⟨_,rfl⟩;exact h.nrs j x d;exact h.nrs i k f;rcases q a w H with⟨c,B⟩|⟨z,rfl⟩<;>rcases q b y I with⟨n,C⟩|⟨A,rfl⟩;exact h.qP2 a b w y B C e;subst A;exact h.qP2 a b w k B f e;subst z;exact h.qP2 a b k y f C e;rw[z,A]
def B8.qV5{s}{D}{c:List TK}(h:B8 s D c):s.wr=0↔cnt true c=0:=by rw[cnt,List.countP_eq_zero];constructor;intro a k l;obtain⟨j,i,rfl⟩:=gO l;have:=λb=>h.nw a (gQ i) b;cases b:c[j].over<;>simp[b]at this |-;simp[this];intro g;rcases Decidable.em (s.wr=0) with a|a;exact a;let⟨j,k,d,e,f,m⟩:=h.wr1 a;have:=g k<|mO d;simp[e,f]at this
end Gw
section
attribute [local go_sem] Oper.semAt_some
structure FX(D:Ϫ)(left:Lit->Bool)(a:List Int):Prop where
 sub:∀kl,left kl=true->Maps.has D kl=true
 has:∀x∈a,Maps.has D (Ad x)=true/\keyOf prog 78 (.int .u64 x)=some (Ad x)
 all:∀kl,Maps.has D kl=true->left kl=true\/∃x∈a,kl=Ad x
def FX.start(D):FX D (Maps.has D) []:=⟨λ_ h=>h,λx hx=>(by cases hx),λ_ h=>Or.inl h⟩
def FX.step{D}{left:Lit->Bool}{d:List Int}(h:FX D left d){x:Int}(g:left (Ad x)=true)(b:keyOf prog 78 (.int .u64 x)=some (Ad x)):FX D (λz=>left z && !z.sameKey (Ad x)) (d++[x]):=by
 refine⟨λkl b=>h.sub kl (by simp at b;exact b.1),λy a=>?_,λkl b=>?_⟩
 .rcases mA a with a|a
  .exact h.has y a
  .rw[mS a];exact⟨h.sub _ g,b⟩
 .rcases h.all kl b with f|⟨y,a,e⟩
  .by_cases c:kl.sameKey (Ad x)=true
   .exact Or.inr ⟨x,sM,WideAt.sameKey_eq c⟩
   .exact Or.inl (by simp[f,c])
  .exact Or.inr ⟨y,by simp[a],e⟩
def Fx(D:Ϫ)(a:List Int):Prop:=(∀x∈a,Maps.has D (Ad x)=true/\keyOf prog 78 (.int .u64 x)=some (Ad x))/\(∀kl,Maps.has D kl=true->∃x∈a,kl=Ad x)/\a.length<=Maps.size D
def Xw(n:Nat)(hn:1<=n)(l j M V d:Nat)(D)(Jj:List Int->ϯ) (B:∀i x W,Jj i W->i.length<Maps.size D->YieldAt Fence.wide (n-1) prog l #[.int .u64 x] W λe b=>e=ϱ (ϐ true)/\Jj (i++[x]) b/\KeepsWalks W b) (W) (k:AbidesFrom W.heap.size Jj) (hm:W.cell? (ϰ j 0)=some (.map (some M))) (K:RM W V M d D) (u:Jj [] W):CallsIn Fence.wide n prog 239 #[.func (.yield l) #[] #[],ϖ j] W λe b=>(∃v,e=ϱ v)/\∃a:List Int,Fx D a/\Jj a b:=by
 refine callsIn_of_wp func239 rfl trivial ?_ rfl;simp[ntmps239,List.size_toArray,lC,List.length_nil,Nat.reduceAdd,Nat.reduceSub,Array.replicate_succ,Array.replicate_zero,List.push_toArray,aT,nA,cA]
 gi_wp2_with (first
  | (gi_at_range;apply wpListIn_range_own _ rfl _ 167 rfl 78 89 D3 Iz _ M d _ rfl K;intro P L C ac)
  | gi_in)
 go_frame
 gi_loopw [3] (λ_ wr=>∃(left:Lit->Bool)(cnt:Nat)(a:List Int),wr.ranges prog 78 (GC V) M (ϳ W) d D left cnt/\a.length+cnt<=Maps.size D/\FX D left a/\Jj a wr)
  (λ_ wr=>wr.rangeLeft M (ϳ W))
 case atStart=>
  exact⟨_,_,[],L,sM,FX.start D,k [] W P none u C (λr e=>by cases e)⟩
 case round=>
  let⟨left,cnt,a,h,aa,f,m⟩:=hrel
  gi_wp2_with (first
   | (gi_at_next;refine wpListIn_next_ranges _ rfl _ rfl 78 D3 (GC V) (.int .u64) (λv:Value=>v) (λkey kl g=>by let⟨x,hx,_⟩:=Maps.keyOf_int_inv underlying78 g;exact⟨x,hx⟩) (λv y O=>⟨v,rfl⟩) M (ϳ W) d _ _ _ rfl h ?_ ?_)
   | gi_in)
  .intro Z G
   gi_wp2
   go_end0
   exact⟨⟨_,rfl⟩,a,⟨f.has,λkl g=>(f.all kl g).resolve_left (by simp[G]),oM⟩,m⟩
  .intro x c kl yd yp q s o H O X N I E ad ab;obtain⟨x',t,rfl,_⟩:=Maps.keyOf_int_inv underlying78 o;cases t;have w:=k a wr q (some (ϳ W)) m E (λr e=>by cases e;exact⟨lR,h.iter_walk⟩);let⟨T,ae,R,S,hy,A⟩:=B a x q w oM
   gi_wp2
   apply A.mono;rintro e Q ⟨rfl,z,F⟩
   gi_wp2
   have p:=N.of_walks F
   go_roundw
   case rel=>exact⟨_,s,a++[x],p,sO,f.step H o,z⟩
   case measure=>rw[p.left_eq,h.left_eq];exact I
end
def Jv(s x:Int)(a:0<=s)(b:s<18446744073709551616)(c:0<=x)(d:x<256):CY s x=(((s.toNat ^^^ x.toNat:Nat):Int)*1099511628211) % 18446744073709551616:=by unfold CY;rw[cJ,cJ,show x % 18446744073709551616=x by omega,u64_xor s x a b c oM]
def P4(a:Nat)(b:a<18446744073709551616):((a:Int)*1099511628211) % 18446744073709551616*14886173955864302971 % 18446744073709551616=(a:Int):=by rw[Int.mul_emod,Int.emod_emod,<-Int.mul_emod,Int.mul_assoc,show(1099511628211:Int)*14886173955864302971=1+18446744073709551616*887285111055 from by decide,Int.mul_add,Int.mul_one,Int.mul_left_comm,Int.add_mul_emod_self_left];exact Int.emod_eq_of_lt oM oM
def P5(a b:Nat)(d:a<18446744073709551616)(e:b<18446744073709551616)(h:((a:Int)*1099511628211) % 18446744073709551616=((b:Int)*1099511628211) % 18446744073709551616):a=b:=by have c:=P4 a d;rw[h,P4 b e]at c;exact(Int.ofNat_inj.1 c).symm
def Kt(a b:Nat)(c:a<18446744073709551616)(d:b<18446744073709551616):a ^^^ b<18446744073709551616:=by have:=Nat.xor_lt_two_pow (n:=64) (x:=a) (y:=b) (sU c) (sU d);simpa using this
def Rz{a b c:Nat}(h:a ^^^ b=a ^^^ c):b=c:=by have:=congrArg (a ^^^ ·) h;simpa [<-Nat.xor_assoc] using this
def qJ6{a b c:Nat}(h:b ^^^ a=c ^^^ a):b=c:=Rz (a:=a) (by rwa[Nat.xor_comm a b,Nat.xor_comm a c])
def Wg{s a x:Int}(f:0<=s)(g:s<18446744073709551616)(d:0<=a)(e:a<18446744073709551616)(b:0<=x)(c:x<256)(h:CY s x=CY a x):s=a:=by rw[Jv s x f g b c,Jv a x d e b c]at h;have:=qJ6<|P5 _ _ (Kt _ _ oM oM) (Kt _ _ oM oM) h;omega
def Wh{s x y:Int}(a:0<=s)(b:s<18446744073709551616)(e:0<=x)(f:x<256)(c:0<=y)(d:y<256)(h:CY s x=CY s y):x=y:=by rw[Jv s x a b e f,Jv s y a b c d]at h;have:=Rz<|P5 _ _ (Kt _ _ oM oM) (Kt _ _ oM oM) h;omega
def Jw(s x:Int):0<=CY s x:=by unfold CY;rw[cJ];omega
def OP:∀(b:List Int) {s a:Int},0<=s->s<18446744073709551616->0<=a->a<18446744073709551616->(∀x∈b,0<=x/\x<256)->b.foldl CY s=b.foldl CY a->s=a
 |[],s,a,_,_,_,_,_,h=>h|x::b,s,a,h0,h1,g0,g1,hx,h=>by have c:=hx x sM;exact Wg h0 h1 g0 g1 c.1 c.2<|OP b (Jw _ _) (Ib _ _) (Jw _ _) (Ib _ _) (λy d=>hx y (by simp[d])) h
def Wi(a b:List Int)(x y:Int)(i:x≠y)(j:∀z∈a,0<=z/\z<256)(g:∀z∈b,0<=z/\z<256)(c:0<=x/\x<256)(d:0<=y/\y<256):A9 (a++x::b)≠A9 (a++y::b):=by intro h;unfold A9 at h;rw[cK,cK,cW,cW]at h;have e:0<=a.foldl CY 14695981039346656037:=FF a;have f:a.foldl CY 14695981039346656037<18446744073709551616:=Ic a;exact i<|Wh e f c.1 c.2 d.1 d.2<|OP b (Jw _ _) (Ib _ _) (Jw _ _) (Ib _ _) g h
def CW(p q:ϣ):Prop:=p=q\/∃a x y b,x≠y/\p=a++x::b/\q=a++y::b
def CW.sum{p q}(h:CW p q)(e:A9 (Bq p)=A9 (Bq q)):p=q:=by rcases h with h|⟨a,x,y,b,d,rfl,rfl⟩;exact h;refine absurd e ?_;have:=x.toNat_lt;have:=y.toNat_lt;(have c:∀z:UInt8,Bq (a++z::b)=Bq a++((z.toNat:Nat):Int)::Bq b:=λz=>by simp[Bq]);rw[c,c];exact Wi _ _ _ _ (λh=>d<|jM.1 oM) (Ji a) (Ji b) oM oM
def CW.take{p q}(h:CW p q)(k:Nat):CW (p.take k) (q.take k):=by rcases h with rfl|⟨a,x,y,b,d,rfl,rfl⟩;exact .inl rfl;by_cases c:k<=a.length;exact .inl (by rw[aW c,aW c]);obtain⟨j,rfl⟩:∃j,k=a.length+(j+1):=⟨k-a.length-1,oM⟩;exact .inr ⟨a,x,y,b.take j,d,by rw[List.take_length_add_append,iE],by rw[List.take_length_add_append,iE]⟩
def CW.drop{p q}(h:CW p q)(k:Nat):CW (p.drop k) (q.drop k):=by rcases h with rfl|⟨a,x,y,b,d,rfl,rfl⟩;exact .inl rfl;by_cases c:k<=a.length;exact .inr ⟨a.drop k,x,y,b,d,by rw[dK c],by rw[dK c]⟩;obtain⟨j,rfl⟩:∃j,k=a.length+(j+1):=⟨k-a.length-1,oM⟩;exact .inl (by rw[gU,gU];simp[show a.length+(j+1)-a.length=j+1 by omega])
def CW.cut{p q}(h:CW p q)(k:Nat):p.take k=q.take k\/p.drop k=q.drop k:=by rcases h with rfl|⟨a,x,y,b,d,rfl,rfl⟩;exact .inl rfl;by_cases c:k<=a.length;exact .inl (by rw[aW c,aW c]);obtain⟨j,rfl⟩:∃j,k=a.length+(j+1):=⟨k-a.length-1,oM⟩;exact .inr (by rw[gU,gU];simp[show a.length+(j+1)-a.length=j+1 by omega])
