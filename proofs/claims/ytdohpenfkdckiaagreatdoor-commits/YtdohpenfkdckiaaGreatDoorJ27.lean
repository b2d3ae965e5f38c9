import Derived.Test.YtdohpenfkdckiaaGreatDoorJ21
import Derived.Test.YtdohpenfkdckiaaGreatDoorJ25
import Derived.Test.YtdohpenfkdckiaaGreatDoorJ26
import Derived.LaidEqlPtr
import Derived.Maps.AppendAt
set_option linter.all false
set_option maxRecDepth 100000
set_option maxHeartbeats 20000000
namespace Go.Proofs.YtdohpenfkdckiaaGreatDoor
open Go.Proofs.Tryz
open Go.RowKit
def qF6(pk:Option Addr)(nk ck:Nat)(pd:Option Addr)(nd cd:Nat):Obj:=.cells #[.slice pk nk ck,.slice pd nd cd] 70
theorem qM7{S}{w w'}{base sz:Nat}{e}{v}{n:Nat}{xs:List Value}(h:w.ownsRow base e sz v n xs)(hK:Kp S w w')(k:Apart w S e):w'.ownsRow base e sz v n xs:=by
 refine⟨h.1,?_⟩;rcases h.2 with c|⟨g,cap,cur,d,f,a,i⟩
 .exact .inl c
 .refine .inr ⟨g,cap,cur,d,f,hK.heap a (λl=>?_),i⟩;obtain⟨m,u,o,b,j⟩:=k g l;rw[a] at b;cases b;exact j rfl
theorem Apart.nil(w)(t):Apart w [] t:=λ_ h=>by cases h
theorem zE6{w w'}{base:Nat}{S}(h:w.cell? ⟨0,0,none⟩=some qE9)(hK:Kp S w w')(d:0<base)(e:base<=w.heap.size)(b:∀ k,k∈S->base<=k):w'.cell? ⟨0,0,none⟩=some qE9:=
 (hK.cell (a:=⟨0,0,none⟩) sO (λc=>by have:=b _ c;simp at this;omega)).trans h
theorem kH2{α:Type}(R:α->α->Prop):∀ l:List α,l.length<=1->l.Pairwise R
 | [],_=>List.Pairwise.nil
 | [_],_=>List.pairwise_singleton _ _
 | _::_::_,h=>by simp at h
theorem xL0{w:World}{base sz:Nat}{e:TypeId}{p:Option Addr}{n c:Nat}{xs:List Value}(h:w.ownsRow base e sz (.slice p n c) n xs)(m:1<=n):∃ g cur,p=some ⟨g,0,none⟩/\base<=g/\w.heap[g]?=some (.cells cur e (0,0))/\cur.toList.take (n*sz)=xs:=by
 rcases h.2 with⟨i,a⟩|⟨g,cap,cur,a,b,d,j,k,l,f⟩
 .omega
 .cases a;exact⟨g,cur,rfl,b,d,f⟩
theorem kG0(c:Nat)(k x y a b:Int)(s t)(w)(f:k<5):
  Calls prog 124 #[.pointer (some ⟨c,0,none⟩),.agg #[.int .i64 k,.int .i64 x,.int .i64 y,.int .i64 a,.int .i64 b,.string s,.string t]] w λe d=>e=.returned (.bool false)/\Kp [] w d:=by
 go_enter func124,ntmps124;go_wp2;go_ret;exact⟨rfl,kF.alloc _⟩
theorem kF9(c:Nat)(k x y a b:Int)(s t)(w)(f:9<k):
  Calls prog 124 #[.pointer (some ⟨c,0,none⟩),.agg #[.int .i64 k,.int .i64 x,.int .i64 y,.int .i64 a,.int .i64 b,.string s,.string t]] w λe d=>e=.returned (.bool false)/\Kp [] w d:=by
 go_enter func124,ntmps124;go_wp2;go_ret;exact⟨rfl,kF.alloc _⟩
theorem kG8(c:Nat)(k x y a b:Int)(s t)(w)(l:k<1):
  Calls prog 78 #[.pointer (some ⟨c,0,none⟩),.agg #[.int .i64 k,.int .i64 x,.int .i64 y,.int .i64 a,.int .i64 b,.string s,.string t]] w λe f=>e=.returned (.bool false)/\Kp [] w f:=by
 have g:¬k=1:=oM
 have h:¬k=2:=oM
 have i:¬k=3:=oM
 have j:¬k=4:=oM
 go_enter func78,ntmps78;go_wp2_with fail;refine (kG0 c k x y a b s t _ oM).mono ?_;rintro e w1 ⟨rfl,d⟩;go_wp2;go_ret;exact⟨rfl,(kF.alloc _).tr d⟩
theorem xL2(c:Nat)(k x y a b:Int)(s t)(w)(f:9<k):
  Calls prog 78 #[.pointer (some ⟨c,0,none⟩),.agg #[.int .i64 k,.int .i64 x,.int .i64 y,.int .i64 a,.int .i64 b,.string s,.string t]] w λe g=>e=.returned (.bool false)/\Kp [] w g:=by
 have h:¬k=1:=oM
 have i:¬k=2:=oM
 have j:¬k=3:=oM
 have l:¬k=4:=oM
 go_enter func78,ntmps78;go_wp2_with fail;refine (kF9 c k x y a b s t _ f).mono ?_;rintro e w1 ⟨rfl,d⟩;go_wp2;go_ret;exact⟨rfl,(kF.alloc _).tr d⟩
theorem zF0:(prog.info? 3).map (λi=>(i.zero,i.size,i.bytes))=some (some (.int .i64 0),1,8):=kR
theorem qV4:(prog.info? 119).map (λi=>(i.zero,i.size,i.bytes))=some (some (.pointer none),1,8):=kR
theorem zS3(w)(base g:Nat)(v)(n:Nat)(xs:List Value)(u)(t e ty)(z)(l:prog.underlying t=some (.slice e))(c:(prog.info? e).map (λi=>(i.zero,i.size,i.bytes))=some (some z,1,8))(o:z.cells.size=1)
  (h:w.ownsRow base e 1 v n xs) (A:n<=1000000) (f:w.heap[g]?=some (.cells #[u] e)) (m:u.oneCell'=true) (d:base<=w.heap.size):
  ∃ b a,Sem.run prog (Builtin.append_ #[t,t] ty #[v,.slice (some ⟨g,0,none⟩) 1 1]) w=.ok b a/\a.ownsRow base e 1 b (n+1) (xs++[u])/\w.grownBy a v.ownBlock:=by
 obtain⟨s,c,p,q,r⟩:=info_parts c;obtain⟨b,a,k,x,y,B⟩:=run_append_own (P:=prog) w base t ty e s _ 1 8 l c p q r o dC v n _ h ⟨g,0,none⟩ 1 1 [u] sM (λj v hv=>by
  rw[qG4,ξ f];simpa using hv) (by simpa using m) (by unfold maxLen;omega) oM d
 exact⟨b,a,k,x,y⟩
theorem xR8(Z)(n:Nat)(h:Z.size=n)(a:∀ v∈Z.toList,v=.int .u8 0):Z=enc (List.replicate n 0):=by
 apply Array.ext';have e:=List.eq_replicate_iff.2 ⟨by simpa using h,a⟩;rw[e];simp[enc,qD2]
theorem jJ5(a:Int):∃ m:Nat,m<1000/\(∀ w,Calls prog 122 #[.int .i64 a] w λe b=>e=.returned (.int .i64 m)/\b=w)/\
  (∀ w,Calls prog 41 #[.int .i64 a] w λe b=>e=.returned (.pointer (some ⟨w.heap.size+1,0,none⟩))/\b=(w.alloc (.cells (enc (List.replicate (m*128) 0)) 115)).alloc (qG6 m w.heap.size (.slice none 0 0) 0 0)):=by
 by_cases f:a<0
 .refine⟨0,oM,λw=>xY2 a w f,λw=>(kC5 w a f).mono ?_⟩;rintro e b ⟨rfl,Z,c,d,rfl⟩;exact⟨rfl,by rw[xR8 Z _ c d]⟩
 .have g:=Int.emod_nonneg a (show (1000:Int)≠0 by decide);have h:=Int.emod_lt_of_pos a (show (0:Int)<1000 by decide);refine⟨(a % 1000).toNat,oM,λw=>(xY1 a w f).mono ?_,λw=>(xJ3 (a % 1000).toNat w oM a oM oM).mono ?_⟩
  .rintro e b ⟨rfl,rfl⟩;exact⟨by rw[Int.toNat_of_nonneg g],rfl⟩
  .rintro e b ⟨rfl,Z,c,d,rfl⟩;exact⟨rfl,by rw[xR8 Z _ c d]⟩
theorem qH2{w:World}{base sz:Nat}{e:TypeId}{v:Value}{n:Nat}{xs:List Value}(h:w.ownsRow base e sz v n xs):∀ k,k∈v.ownBlock.toList->base<=k/\∃ c,w.heap[k]?=some (.cells c e):=by
 intro k a;rcases h.2 with⟨rfl,_⟩|⟨g,cap,cur,rfl,b,d,f⟩
 .simp[Value.ownBlock] at a
 .simp[Value.ownBlock] at a;subst a;exact⟨b,_,d⟩
theorem xA9{P:Program}{a:Act}{w w'}{o:Oper}{s x:Operand}{t}{vs vx v'}(b:o.op=.call { callee:=.builtin .append,args:=#[s,x],argTypes:=#[t,t] })(d:a.eval s=vs)(e:a.eval x=vx)(c:Sem.run P (Builtin.append_ #[t,t] o.type #[vs,vx]) w=.ok v' w'):Sem.run P (execOp a.eval o) w=.ok (.value v') w':=by
 unfold execOp;simp only[b,resolve,invoke,builtin,Sem.run_bind,Sem.run_pure,Result.andThen_ok,List.map_toArray,List.map_cons,List.map_nil,d,e,c]
theorem xJ2(c:Int)(w)(a:-9223372036854775808<=c)(b:c<=9223372036854775807):
  Calls prog 183 #[.int .i64 c] w λe d=>∃ j:Nat,e=.returned (.int .i64 j)/\d=w:=by
 go_enter func183,ntmps183;go_wp2_with fail;refine (qW4 c 600 w a b oM oM).mono ?_;rintro e w1 ⟨j,rfl,f,rfl⟩;go_wp2;go_ret;exact⟨j,rfl,rfl⟩
theorem zL8{P:Program}{a:Act}{w}{o:Oper}{t}{x:Operand}(b:o.op=.box t x)(vs)(d:a.eval x=.agg vs):Sem.run P (execOp a.eval o) w=.ok (.value (.pointer (some ⟨w.heap.size,0,none⟩))) (w.alloc (.cells vs t)):=by
 have c:Sem.run P (Instr.box t (.agg vs)) w=.ok (ϖ w.heap.size) (w.alloc (.cells vs t)):=by
  simp[Instr.box,newVar,newRow,Value.cells]
 unfold execOp;simp only[b,Sem.run_bind,Sem.run_pure,Result.andThen_ok,d,c]
end Go.Proofs.YtdohpenfkdckiaaGreatDoor
namespace Go.Proofs.YtdohpenfkdckiaaGreatDoor.Gw
open Go.Proofs.Tryz
open Go.RowKit
theorem qR0{L:List Nat}{w w':World}{base n sz:Nat}{T:TypeId}{v:Value}{xs:List Value}(h:w.ownsRow base T sz v n xs)(hK:Kp L w w')(hL:∀ i,v.ownBlock=some i→i ∉ L):w'.ownsRow base T sz v n xs:=by
 refine⟨h.1,?_⟩;rcases h.2 with h0|⟨g,cap,cur,h1,h2,h3,h4⟩
 ·exact .inl h0
 ·exact .inr ⟨g,cap,cur,h1,h2,hK.heap h3 (hL g (by rw[h1];simp[Value.ownBlock])),h4⟩
theorem Held.kp{w w':World}{base:Nat}{k:KF}{hs:List HEnt}{L:List Nat}(h:Held w base k hs)(hK:Kp L w w')(h1:∀ i,k.li.ownBlock=some i→i ∉ L)(h2:∀ i,k.wa.ownBlock=some i→i ∉ L)(hS:Apt w L [42]):Held w' base k hs:=
 ⟨qR0 h.li hK h1,qR0 h.wa hK h2,h.two,fun x hx=>⟨(h.eq x hx).1.keep hK hS,(h.eq x hx).2.keep hK hS⟩⟩
theorem Held.cast{w:World}{base:Nat}{k k':KF}{hs:List HEnt}(h:Held w base k hs)(e1:k'.li=k.li)(e2:k'.wa=k.wa):Held w base k' hs:=
 ⟨by rw[e1];exact h.li,by rw[e2];exact h.wa,by rw[e1,e2];exact h.two,h.eq⟩
def qP6:List TypeId:=[70,3,119]
def qQ3:List TypeId:=[130,114,115,117,169,99,80,197,132,29,282,203]
def Muts(base:Nat)(Ts:List TypeId)(w:World)(L:List Nat):Prop:=∀ k∈L,base≤k∧∃ o,w.heap[k]?=some o∧∀ c t fr,o=.cells c t fr→t∈Ts
def MutC(base:Nat)(Ts:List TypeId)(w:World)(L:List Nat):Prop:=∀ k∈L,base≤k∧∃ c t fr,w.heap[k]?=some (.cells c t fr)∧t∈Ts
theorem MutC.muts{base:Nat}{Ts:List TypeId}{w}{L}(h:MutC base Ts w L):Muts base Ts w L:=λk f=>by
 obtain⟨a,c,t,i,b,d⟩:=h k f;exact⟨a,_,b,λg t' j e=>by cases e;exact d⟩
theorem Muts.nil(base:Nat)(Ts:List TypeId)(w):Muts base Ts w []:=λ_ h=>by cases h
theorem Muts.mono{base:Nat}{Ts a:List TypeId}{w}{L L'}(h:Muts base Ts w L)(l:∀ t∈Ts,t∈a)(j:∀ i∈L',i∈L):Muts base a w L':=λk hk=>by
 obtain⟨d,o,f,g⟩:=h k (j k hk);exact⟨d,o,f,λc t b e=>l t (g c t b e)⟩
theorem Muts.apt{base:Nat}{Ts Us:List TypeId}{w}{L}(h:Muts base Ts w L)(d:∀ t∈Us,t ∉ Ts):Apt w L Us:=λk hk c t fr e hm=>by
 obtain⟨f,o,a,b⟩:=h k hk;rw[e] at a;cases a;exact d t hm (b _ _ _ rfl)
theorem Muts.not{base:Nat}{Ts:List TypeId}{w}{L}(h:Muts base Ts w L){k:Nat}{c}{t}{fr}(d:w.heap[k]?=some (.cells c t fr))(f:t ∉ Ts):k ∉ L:=λe=>by
 obtain⟨g,o,a,b⟩:=h k e;rw[d] at a;cases a;exact f (b _ _ _ rfl)
theorem Muts.lt{base:Nat}{Ts:List TypeId}{w}{L}(h:Muts base Ts w L){k:Nat}(b:k∈L):k<w.heap.size:=by
 obtain⟨_,o,a,_⟩:=h k b;exact ζ a
theorem Muts.row{base a n sz:Nat}{Ts:List TypeId}{T}{w w'}{L}{v}{xs:List Value}(h:Muts base Ts w L)(hK:Kp L w w')(g:T ∉ Ts)(j:w.ownsRow a T sz v n xs):w'.ownsRow a T sz v n xs:=
 qF1 j hK λk c t l e i d=>by
  obtain⟨m,o,b,f⟩:=h k i;rw[e] at b;cases b;subst d;exact g (f _ _ _ rfl)
structure DInv where
 G:Type
 kf:G→KF
 B:G→Nat
 tbs:G→List Nat
 tur:G→List Nat
 ok:Nat→Int→World→G→Prop
 kob_:∀ {base:Nat} {T:Int} {w:World} {g:G},ok base T w g→w.heap[B g]?=some (kob (kf g))
 row:∀ {base:Nat} {T:Int} {w:World} {g:G},ok base T w g→PRow w 132 (kf g).ts (tbs g)
 tlen:∀ {base:Nat} {T:Int} {w:World} {g:G},ok base T w g→((tbs g).length:Int)≤T
 inB:∀ g,B g∈tur g
 muts:∀ {base:Nat} {T:Int} {w:World} {g:G},ok base T w g→Muts base qQ3 w (tur g)
 keep:∀ {base:Nat} {T T':Int} {w w':World} {g:G} {L:List Nat},ok base T w g→Kp L w w'→Muts base (qP6++qQ3) w L→(∀ i∈L,i ∉ tur g)→T≤T'→ok base T' w' g
 fresh:∀ (base:Nat) (T:Int) (w:World) (b A C m:Nat),base≤b→base≤A→base≤C→0≤T→m<1000→w.heap[b]?=some (kob ⟨A,m,.slice none 0 0,false,.slice none 0 0,false,false,none,.slice none 0 0,0,false,.slice none 0 0,.slice none 0 0,.slice none 0 0⟩)→w.heap[A]?=some (qG6 m C (.slice none 0 0) 0 0)→w.heap[C]?=some (.cells (enc (List.replicate (m*128) 0)) 115)→∃ g,ok base T w g∧B g=b∧∀ i∈tur g,i=b∨i=A∨i=C
 copy:∀ {base:Nat} {T:Int} {w:World} {g:G},ok base T w g→∃ C l calls wr,(kf g).n<1000∧w.heap[(kf g).A]?=some (qG6 (kf g).n C (.slice none 0 0) calls wr)∧w.heap[C]?=some (.cells (enc l) 115)∧l.length=(kf g).n*128∧
  ∀ (T':Int) (w':World) (b A' C':Nat),T≤T'→0≤T'→Kp [] w w'→base≤b→base≤A'→base≤C'→w'.heap[b]?=some (kob ⟨A',(kf g).n,(kf g).may,(kf g).emp,(kf g).were,(kf g).wild,(kf g).bit,none,.slice none 0 0,0,false,.slice none 0 0,.slice none 0 0,.slice none 0 0⟩)→w'.heap[A']?=some (qG6 (kf g).n C' (.slice none 0 0) 0 0)→w'.heap[C']?=some (.cells (enc l) 115)→∃ g',ok base T' w' g'∧B g'=b∧∀ i∈tur g',i=b∨i=A'∨i=C'
def qK5(I:DInv)(ds:List I.G):List Value:=ds.map fun g=>.pointer (some ⟨I.B g,0,none⟩)
theorem xM0{I:DInv}{cur:Array Value}{a:List I.G}(h:cur.toList.take (a.length*1)=qK5 I a)(j:Nat)(b:j<a.length):cur[j]?=some (.pointer (some ⟨I.B a[j],0,none⟩)):=by
 have e:(qK5 I a)[j]?=some (ϖ (I.B a[j])):=by simp[qK5,b]
 rw[<-h,List.getElem?_take_of_lt oM] at e;simpa using e
structure WOk(I:DInv)(base:Nat)(T:Int)(w:World)(Wb:Nat)(ds:List I.G):Prop where
 hb:0<base
 hbs:base≤w.heap.size
 g0:w.cell? ⟨0,0,none⟩=some qE9
 bW:base≤Wb
 hW:∃ pk nk ck xs pd cd,w.heap[Wb]?=some (qF6 pk nk ck pd ds.length cd)∧w.ownsRow base 3 1 (.slice pk nk ck) nk xs∧(nk:Int)≤T∧w.ownsRow base 119 1 (.slice pd ds.length cd) ds.length (qK5 I ds)
 len:(ds.length:Int)≤T
 all:∀ g,g∈ds→I.ok base T w g
 sep:ds.Pairwise fun g h=>∀ i∈I.tur g,i ∉ I.tur h
theorem WOk.same{I:DInv}{base:Nat}{T a:Int}{w w'}{b:Nat}{c:List I.G}(h:WOk I base T w b c)(hK:Kp [] w w')(k:T<=a):WOk I base a w' b c:=by
 obtain⟨n,nk,e,xs,m,d,f,i,o,j⟩:=h.hW;exact⟨h.hb,lT h.hbs hK.size,zE6 h.g0 hK h.hb h.hbs sM,h.bW,⟨n,nk,e,xs,m,d,hK.hp f,qM7 i hK (Apart.nil _ _),oM,qM7 j hK (Apart.nil _ _)⟩,by have:=h.len;omega,λg l=>I.keep (h.all g l) hK (Muts.nil _ _ _) sM k,h.sep⟩
def DStep(I:DInv)(base:Nat)(T':Int)(w w':World)(g:I.G):Prop:=
 ∃ g' L,I.ok base T' w' g'∧I.B g'=I.B g∧(∀ i∈I.tur g',i∈I.tur g∨w.heap.size≤i)∧Kp L w w'∧∀ i∈L,i∈I.tur g
theorem DStep.after{I:DInv}{base:Nat}{a:Int}{w w1 w'}{g:I.G}(h:DStep I base a w w1 g)(hK:Kp [] w1 w'):DStep I base a w w' g:=by
 obtain⟨g',L,b,c,d,e,f⟩:=h;exact⟨g',L,I.keep b hK (Muts.nil _ _ _) sM (iR _),c,d,e.tr hK,f⟩
theorem DStep.from{I:DInv}{base:Nat}{b:Int}{w w1 w'}{g:I.G}(hK:Kp [] w w1)(h:DStep I base b w1 w' g)(k:Muts base qQ3 w (I.tur g)):DStep I base b w w' g:=by
 obtain⟨g',L,c,d,e,f,j⟩:=h;exact⟨g',L,c,d,λi a=>(e i a).imp id (λh=>by have:=hK.size;omega),(hK.mono sM).trans f (λi a _=>a),j⟩
theorem DStep.below{I:DInv}{base:Nat}{T a:Int}{w w'}{g:I.G}(h:DStep I base a w w' g)(e:I.ok base T w g)(d:base<=w.heap.size):Below base w w':=by
 obtain⟨g',L,i,j,l,b,c⟩:=h;exact b.below d (λk f=>(I.muts e k (c k f)).1)
theorem WOk.one{I:DInv}{base:Nat}{T u:Int}{w w'}{B:Nat}{d:List I.G}(h:WOk I base T w B d)(j:Nat)(x:j<d.length)(U:DStep I base u w w' d[j])(M:T<=u):∃ G,WOk I base u w' B G:=by
 obtain⟨g',L,P,H,D,hK,v⟩:=U;obtain⟨W,nk,F,xs,V,E,n,o,X,J⟩:=h.hW;have O:=h.all d[j] (gM x);have C:=I.muts O;have p:=C.mono (λt A=>A) v;have K:Muts base (qP6++qQ3) w L:=C.mono (λt A=>List.mem_append_right _ A) v;have S:qK5 I (d.set j g')=qK5 I d:=by
  simp only[qK5,List.map_set,H];exact List.ext_getElem sM (λi n o=>by
   rw[List.getElem_set];split
   .rename_i h;subst h;simp
   .rfl)
 have y:=pG h.sep;have s:∀ i (f:i<d.length),∀ k∈I.tur d[i],k<w.heap.size:=λi f k c=>(I.muts (h.all _ (gM f))).lt c;have z:∀ i (f:i<d.length),j≠i->∀ k∈I.tur d[j],k ∉ I.tur d[i]:=λi f m k c l=>by
  rcases Nat.lt_or_gt_of_ne m with s|R
  .exact y j i x f s k c l
  .exact y i j f x R k l c
 refine⟨d.set j g',h.hb,lT h.hbs hK.size,zE6 h.g0 hK h.hb h.hbs (λk c=>(p k c).1),h.bW,⟨W,nk,F,xs,V,E,?_,p.row hK dC o,oM,?_⟩,by have:=h.len;simp;omega,?_,?_⟩
 .simp only[List.length_set];exact hK.heap n (p.not n dC)
 .rw[S,List.length_set];exact p.row hK dC J
 .intro g Q;obtain⟨i,f,rfl⟩:=gO Q;rw[List.getElem_set];split
  .exact P
  .rename_i m;simp only[List.length_set] at f;exact I.keep (h.all d[i] (gM f)) hK K (λk c=>z i f m k (v k c)) M
 .rw[List.pairwise_iff_getElem];intro a b q r N;simp only[List.length_set] at q r;rw[List.getElem_set,List.getElem_set];split
  .rename_i n;subst n;split
   .omega
   .rename_i m;intro k c l;rcases D k c with c|c
    .exact z b r m k c l
    .have:=s b r k l;omega
  .split
   .rename_i m o;subst o;intro k c l;rcases D k l with l|l
    .exact z a q (λe=>m e) k l c
    .have:=s a q k c;omega
   .exact y a b q r N
theorem WOk.turn{I:DInv}{base:Nat}{T e:Int}{w w'}{j:Nat}{b:List I.G}{S}(h:WOk I base T w j b)(hK:Kp S w w')(l:MutC base qP6 w S)(z:T<=e)(a:List I.G)(r:∀ g,g∈a->I.ok base e w' g/\∀ i∈I.tur g,w.heap.size<=i)(E:a.length<=1)
  (A:∃ u nk n xs s m,w'.heap[j]?=some (qF6 u nk n s (b++a).length m)/\w'.ownsRow base 3 1 (.slice u nk n) nk xs/\(nk:Int)<=e/\w'.ownsRow base 119 1 (.slice s (b++a).length m) (b++a).length (qK5 I (b++a))) (G:((b++a).length:Int)<=e):WOk I base e w' j (b++a):=by
 refine⟨h.hb,lT h.hbs hK.size,zE6 h.g0 hK h.hb h.hbs (λk D=>(l k D).1),h.bW,A,G,?_,?_⟩
 .intro g d;rcases mA d with d|d
  .have q:=h.all g d;refine I.keep q hK (l.muts.mono (λt F=>List.mem_append_left _ F) (λi f=>f)) (λi f hm=>?_) z;obtain⟨_,c,t,H,o,v⟩:=l i f;obtain⟨_,K,p,x⟩:=I.muts q i hm;rw[o] at p;cases p;have y:=x _ _ _ rfl;have:∀ t∈qP6,t ∉ qQ3:=dC
   exact this t v y
  .exact (r g d).1
 .rw[List.pairwise_append];refine⟨h.sep,?_,?_⟩
  .exact kH2 _ _ E
  .intro g d g' B i f C;have J:=(I.muts (h.all g d)).lt f;have o:=(r g' B).2 i C;omega
theorem kG9(I:DInv)(base d:Nat)(T:Int)(g:List I.G)(x y a b:Int)(s t)(w)(h:WOk I base T w d g):
  Calls prog 78 #[.pointer (some ⟨d,0,none⟩),.agg #[.int .i64 2,.int .i64 x,.int .i64 y,.int .i64 a,.int .i64 b,.string s,.string t]] w λe l=>e=.returned (.bool true)/\(∃ ds',WOk I base (T+2) l d ds')/\Below base w l:=by
 have i:=h;obtain⟨C,nk,r,xs,q,n,c,v,z,o⟩:=h.hW;have m:=zh i;have A:=ζ c;have B:=ν (.cells #[ϊ 2,ϊ x,ϊ y,ϊ a,ϊ b,.string s,.string t] 66) c;have p:=ξ c 0;simp only[qF6,zG,zH,zI] at p;have u:=φ c 0;clear h i;go_enter func78,ntmps78;go_wp2;go_ret;have h:=m.out;have hK:Kp [d] w ((w.setCell ⟨d,0,none⟩ (.slice none 0 0)).alloc (.cells #[ϊ 2,ϊ x,ϊ y,ϊ a,ϊ b,.string s,.string t] 66)):=(kF.sc _).alloc _;have j:MutC base qP6 w [d]:=λk f=>by rw[mS f];exact⟨h.bW,_,_,_,c,dC⟩
 refine⟨rfl,⟨g++[],h.turn hK j oM [] sM sM ⟨none,0,0,[],q,n,?_,wN _ _ _ _,by have:=h.len;simp;omega,?_⟩ (by have:=h.len;simp;omega)⟩,hK.below h.hbs (λk f=>(j k f).1)⟩
 .rw[aN];exact ν _ (μ c 0 _)
 .rw[aN];exact qM7 o hK (λk f=>by rw[mS f];exact⟨_,_,_,c,dC⟩)
theorem WOk.more{I:DInv}{base:Nat}{T s:Int}{w w4 w5}{d:Nat}{b:List I.G}(h:WOk I base T w d b){pk}{nk u:Nat}{xs:List Value}{pd}{p:Nat}(j:w.heap[d]?=some (qF6 pk nk u pd b.length p))(v:w.ownsRow base 3 1 (.slice pk nk u) nk xs)(A:(nk:Int)<=T)(H:w.ownsRow base 119 1 (.slice pd b.length p) b.length (qK5 I b))
  (B:Kp [] w w4) (g:I.G) (N:I.ok base s w4 g) (F:∀ i∈I.tur g,w.heap.size<=i) (o) {m l:Nat} (Q:w5.ownsRow base 119 1 (.slice (some ⟨m,0,none⟩) (b.length+1) l) (b.length+1) (qK5 I b++[.pointer (some ⟨I.B g,0,none⟩)])) (G:(w4.alloc o).grownBy w5 (Value.slice pd b.length p).ownBlock) (Y:T+2<=s):
  WOk I base s (w5.setCell ⟨d,1,none⟩ (.slice (some ⟨m,0,none⟩) (b.length+1) l)) d (b++[g])/\Below base w (w5.setCell ⟨d,1,none⟩ (.slice (some ⟨m,0,none⟩) (b.length+1) l)):=by
 have y:=qH2 H;have aa:=ζ j;generalize X:(Value.slice pd b.length p).ownBlock=r at *;have M:d ∉ r.toList:=λn=>by
  obtain⟨_,c,f⟩:=y _ n;rw[j] at f;cases f
 have C:=((B.mono (S':=r.toList) sM).alloc o).grown G (λk a=>Or.inl (by simp[a]));have D:=C.heap j M;have hK:Kp (d::r.toList) w (w5.setCell ⟨d,1,none⟩ (.slice (some ⟨m,0,none⟩) (b.length+1) l)):=(C.mono (S':=d::r.toList) (λi z _=>mM _ z)).sc _;have q:MutC base qP6 w (d::r.toList):=λk a=>by
  rcases List.mem_cons.1 a with rfl|a
  .exact⟨h.bW,_,_,_,j,dC⟩
  .obtain⟨E,c,f⟩:=y _ a;exact⟨E,_,_,_,f,dC⟩
 have L:Kp (d::r.toList) w4 (w5.setCell ⟨d,1,none⟩ (.slice (some ⟨m,0,none⟩) (b.length+1) l)):=((kF.alloc o).grown G (λk a=>Or.inl (by simp[a]))).sc _;have P:∀ k,w.heap.size<=k->k ∉ d::r.toList:=λk a n=>by
  obtain⟨_,_,_,_,f,_⟩:=q k n;have:=ζ f;omega
 have K:∀ i∈d::r.toList,i ∉ I.tur g:=λi z n=>P _ (F i n) z;have J:Muts base (qP6++qQ3) w4 (d::r.toList):=λk a=>by
  obtain⟨j,c,t,V,v,A⟩:=q k a;exact⟨j,_,B.hp v,λU t' W e=>by cases e;exact List.mem_append_left _ A⟩
 have O:=I.keep N L J K (iR _);have Z:=h.len;refine⟨h.turn hK q oM [g] (λx R=>by rw[mS R];exact⟨O,F⟩) sM ⟨pk,nk,u,xs,some ⟨m,0,none⟩,l,?_,qM7 v hK (λk a=>?_),oM,?_⟩ sO,hK.below h.hbs (λk a=>(q k a).1)⟩
 .rw[lA];exact μ D 1 _
 .rcases List.mem_cons.1 a with rfl|a
  .exact⟨_,_,_,j,dC⟩
  .obtain⟨E,c,f⟩:=y _ a;exact⟨_,_,_,f,dC⟩
 .have e:qK5 I (b++[g])=qK5 I b++[ϖ (I.B g)]:=by simp[qK5]
  rw[e,lA];exact qM7 Q (S:=[d]) (kF.sc _) (λk a=>by rw[mS a];exact⟨_,_,_,D,dC⟩)
theorem kG6(I:DInv)(base p:Nat)(T:Int)(j:List I.G)(x y a b:Int)(s t)(w)(h:WOk I base T w p j)(hT:T<=50000):
  Calls prog 78 #[.pointer (some ⟨p,0,none⟩),.agg #[.int .i64 3,.int .i64 x,.int .i64 y,.int .i64 a,.int .i64 b,.string s,.string t]] w λe O=>e=.returned (.bool true)/\(∃ ds',WOk I base (T+2) O p ds')/\Below base w O:=by
 have Q:=h;obtain⟨pk,nk,P,xs,C,u,l,n,v,o⟩:=h.hW;have r:=zh Q;have aw:=ζ l;obtain⟨m,G,Z,aa⟩:=jJ5 a;have ag:=zh Z;have aj:=zh aa;clear h Q Z aa;go_enter func78,ntmps78
 go_wp2_with (go_at_call 122;refine (ag _).mono ?_;rintro e O ⟨rfl,rfl⟩)
 refine (aj _).mono ?_;rintro e f ⟨rfl,rfl⟩;have ad:((w.alloc (.cells #[ϊ 3,ϊ x,ϊ y,ϊ a,ϊ b,.string s,.string t] 66)).alloc (.cells #[.pointer none,ϊ m,.slice none 0 0,.bool false,.slice none 0 0,.bool false,.bool false,.pointer none,.slice none 0 0,ϊ 0,.bool false,.slice none 0 0,.slice none 0 0,.slice none 0 0] 130)).heap.size=w.heap.size+2:=sM
 rw[ad];obtain⟨f,ae,z,V,R,q,K⟩:∃ f,f=((((w.alloc (.cells #[ϊ 3,ϊ x,ϊ y,ϊ a,ϊ b,.string s,.string t] 66)).alloc (.cells #[.pointer none,ϊ m,.slice none 0 0,.bool false,.slice none 0 0,.bool false,.bool false,.pointer none,.slice none 0 0,ϊ 0,.bool false,.slice none 0 0,.slice none 0 0,.slice none 0 0] 130)).alloc (.cells (enc (List.replicate (m*128) 0)) 115)).alloc (qG6 m (w.heap.size+2) (.slice none 0 0) 0 0))/\f.heap[w.heap.size+1]?=some (.cells #[.pointer none,ϊ m,.slice none 0 0,.bool false,.slice none 0 0,.bool false,.bool false,.pointer none,.slice none 0 0,ϊ 0,.bool false,.slice none 0 0,.slice none 0 0,.slice none 0 0] 130)/\f.heap[w.heap.size+2]?=some (.cells (enc (List.replicate (m*128) 0)) 115)/\f.heap[w.heap.size+3]?=some (qG6 m (w.heap.size+2) (.slice none 0 0) 0 0)/\Kp [] w f/\f.heap.size=w.heap.size+4:=by
  generalize Obj.cells #[ϊ 3,ϊ x,ϊ y,ϊ a,ϊ b,.string s,.string t] 66=o1;generalize Obj.cells #[.pointer none,ϊ m,.slice none 0 0,.bool false,.slice none 0 0,.bool false,.bool false,.pointer none,.slice none 0 0,ϊ 0,.bool false,.slice none 0 0,.slice none 0 0,.slice none 0 0] 130=o2;generalize Obj.cells (enc (List.replicate (m*128) 0)) 115=o3;generalize qG6 m (w.heap.size+2) (.slice none 0 0) 0 0=o4;refine⟨_,rfl,ν _ (ν _ ?_),ν _ ?_,?_,(((kF.alloc _).alloc _).alloc _).alloc _,sM⟩
  .have e:=υ (w.alloc o1) o2;simpa using e
  .have e:=υ ((w.alloc o1).alloc o2) o3;simpa using e
  .have e:=υ (((w.alloc o1).alloc o2).alloc o3) o4;simpa using e
 rw[<-ae];clear ae ad;have Y:=q.hp l;have ak:=qM7 n q (Apart.nil _ _);have am:=qM7 o q (Apart.nil _ _);obtain⟨d,L,X,W,U,B,A,ac⟩:∃ d,d=f.setCell ⟨w.heap.size+1,0,none⟩ (ϖ (w.heap.size+3))/\d.heap[w.heap.size+1]?=some (kob ⟨w.heap.size+3,m,.slice none 0 0,false,.slice none 0 0,false,false,none,.slice none 0 0,0,false,.slice none 0 0,.slice none 0 0,.slice none 0 0⟩)/\d.heap[w.heap.size+2]?=some (.cells (enc (List.replicate (m*128) 0)) 115)/\d.heap[w.heap.size+3]?=some (qG6 m (w.heap.size+2) (.slice none 0 0) 0 0)/\Ϙ d p (qF6 pk nk P C j.length u)/\Kp [] w d/\d.heap.size=w.heap.size+4:=
  ⟨_,rfl,μ z 0 _,(qB1 oM _ _).trans V,(qB1 oM _ _).trans R,(qB1 oM _ _).trans Y,q.setCell (Or.inr sM) _,by simp[World.setCell,K]⟩
 have al:=qM7 n A (Apart.nil _ _);have D:=qM7 o A (Apart.nil _ _);have hl:=r.out.len;have ax:=r.out.hbs;obtain⟨v5,w5,H,J,F⟩:=zS3 (d.alloc (.cells #[ϖ (w.heap.size+1)] 119)) base d.heap.size (.slice C j.length u) j.length (qK5 I j) (ϖ (w.heap.size+1)) 68 119 68 (.pointer none) underlying68 qV4 rfl (D.alloc _) oM (υ _ _) rfl sO;obtain⟨g5,c5,rfl⟩:=qO0 J;have ao:=zh F;have ap:=zh J;have E:Ϙ w5 p (qF6 pk nk P C j.length u):=by
  have an:=qH2 D;refine Kp.heap (S:=(Value.slice C j.length u).ownBlock.toList) (((Kp.refl _ d).alloc _).grown F (λk hk=>Or.inl (by simp[hk]))) B (λG=>?_);obtain⟨_,c,hc⟩:=an _ G;rw[B] at hc;cases hc
 have ah:Hid (∃ g,I.ok base (T+2) d g/\I.B g=w.heap.size+1/\∀ i∈I.tur g,w.heap.size<=i):=by
  have av:=r.out.len;obtain⟨g,M,N,q3⟩:=I.fresh base (T+2) d (w.heap.size+1) (w.heap.size+3) (w.heap.size+2) m oM oM oM oM G X U W;exact⟨g,M,N,λi hi=>by rcases q3 i hi with h | h | h<;>omega⟩
 have ai:=zh A;have d0:=ϻ z 0;have ar:=φ z 0;have u1:=ξ B 1;simp only[qF6,zG,zH,zI] at u1;have v1:=ξ E 1;simp only[qF6,zG,zH,zI] at v1;have au:=φ E 1;have aq:=zh L;have af:d.heap.size=f.heap.size:=by rw[ac,K]
 rw[af] at H;rw[L] at H u1;clear af;have H1:=zh (n4 l n v o);clear J F L K ac q A z V R Y ak am X W U B al D l n v o E
 go_wp2_with (at_builtin;((with_reducible refine qX5 ?_ ?_ H ?_);rfl;rfl))
 go_ret;obtain⟨l,n,v,o⟩:=H1.out;obtain⟨gn,g1,g2,g3⟩:=ah.out;have ab:=ap.out;rw[<-g2] at ab;obtain⟨M,N⟩:=r.out.more l n v o ai gn g1 g3 _ ab ao.out (iR _);exact⟨rfl,⟨_,M⟩,N⟩
theorem WOk.grew{I:DInv}{base:Nat}{T p:Int}{w w4 w5}{b:Nat}{d:List I.G}(h:WOk I base T w b d){pk}{nk l:Nat}{xs v:List Value}{pd}{m:Nat}(j:w.heap[b]?=some (qF6 pk nk l pd d.length m))(x:w.ownsRow base 3 1 (.slice pk nk l) nk xs)(F:(nk:Int)<=T)(y:w.ownsRow base 119 1 (.slice pd d.length m) d.length (qK5 I d))
  (z:Kp [] w w4) (o) {g f:Nat} (E:w5.ownsRow base 3 1 (.slice (some ⟨g,0,none⟩) (nk+1) f) (nk+1) v) (B:(w4.alloc o).grownBy w5 (Value.slice pk nk l).ownBlock) (H:T+2<=p):
  WOk I base p (w5.setCell ⟨b,0,none⟩ (.slice (some ⟨g,0,none⟩) (nk+1) f)) b (d++[])/\Below base w (w5.setCell ⟨b,0,none⟩ (.slice (some ⟨g,0,none⟩) (nk+1) f)):=by
 have n:=qH2 x;have K:=ζ j;generalize G:(Value.slice pk nk l).ownBlock=r at *;have A:b ∉ r.toList:=λD=>by
  obtain⟨_,c,e⟩:=n _ D;rw[j] at e;cases e
 have s:=((z.mono (S':=r.toList) sM).alloc o).grown B (λk a=>Or.inl (by simp[a]));have t:=s.heap j A;have hK:Kp (b::r.toList) w (w5.setCell ⟨b,0,none⟩ (.slice (some ⟨g,0,none⟩) (nk+1) f)):=(s.mono (S':=b::r.toList) (λi C _=>mM _ C)).sc _;have q:MutC base qP6 w (b::r.toList):=λk a=>by
  rcases List.mem_cons.1 a with rfl|a
  .exact⟨h.bW,_,_,_,j,dC⟩
  .obtain⟨u,c,e⟩:=n _ a;exact⟨u,_,_,_,e,dC⟩
 have J:=h.len;refine⟨h.turn hK q oM [] sM sM ⟨some ⟨g,0,none⟩,nk+1,f,v,pd,m,?_,?_,oM,?_⟩ sO,hK.below h.hbs (λk a=>(q k a).1)⟩
 .rw[aN];exact μ t 0 _
 .exact qM7 E (S:=[b]) (kF.sc _) (λk a=>by rw[mS a];exact⟨_,_,_,t,dC⟩)
 .rw[aN];exact qM7 y hK (λk a=>by
   rcases List.mem_cons.1 a with rfl|a
   .exact⟨_,_,_,j,dC⟩
   .obtain⟨u,c,e⟩:=n _ a;exact⟨_,_,_,e,dC⟩)
theorem kG7(I:DInv)(base d:Nat)(T:Int)(q:List I.G)(x y a b:Int)(s t)(w)(h:WOk I base T w d q)(hT:T<=50000):
  Calls prog 78 #[.pointer (some ⟨d,0,none⟩),.agg #[.int .i64 1,.int .i64 x,.int .i64 y,.int .i64 a,.int .i64 b,.string s,.string t]] w λe G=>e=.returned (.bool true)/\(∃ ds',WOk I base (T+2) G d ds')/\Below base w G:=by
 have C:=h;obtain⟨p,nk,l,xs,F,B,g,i,m,n⟩:=h.hW;have L:=zh C;have ac:=ζ g;have ae:=h.hbs;have H:=zh (n4 g i m n);clear h C;go_enter func78,ntmps78;go_wp2_with fail;obtain⟨f,D,u,j,o⟩:∃ f,f=w.alloc (.cells #[ϊ 1,ϊ x,ϊ y,ϊ a,ϊ b,.string s,.string t] 66)/\Ϙ f w.heap.size (.cells #[ϊ 1,ϊ x,ϊ y,ϊ a,ϊ b,.string s,.string t] 66)/\Ϙ f d (qF6 p nk l F q.length B)/\Kp [] w f:=⟨_,rfl,υ _ _,ν _ g,kF.alloc _⟩;rw[<-D];clear D;have r:=qM7 i o.drew (Apart.nil _ _);have U:=o.size;obtain⟨v5,w5,Q,A,z⟩:=zS3 (f.drew.alloc (.cells #[ϊ a] 3)) base f.drew.heap.size (.slice p nk l) nk xs (ϊ a) 24 3 24 (ϊ 0) underlying24 zF0 rfl (r.alloc _) oM (υ _ _) rfl sO;obtain⟨g5,c5,rfl⟩:=qO0 A;have v:Ϙ w5 d (qF6 p nk l F q.length B):=by
  have O:=qH2 r;refine Kp.heap (S:=(Value.slice p nk l).ownBlock.toList) (((Kp.refl _ f.drew).alloc _).grown z (λk P=>Or.inl (by simp[P]))) j (λhm=>?_);obtain⟨_,c,E⟩:=O _ hm;rw[show f.drew.heap[d]?=f.heap[d]? from rfl,j] at E;cases E
 have J:=zh z;have N:=zh A;have M:=zh o;have V:=ξ j 0;simp only[qF6,zG,zH,zI] at V;have o3:=ϻ u 3;have Z:=ξ v 0;simp only[qF6,zG,zH,zI] at Z;have aa:=φ v 0;have ad:=ζ j;have ab:=ζ u;clear A z o v g i m n r U j u;refine shr (α:=Prop) (R:=λX=>X) ?_;apply Exists.intro;apply And.intro
 rotate_left
 .intro HREST;refine wp_region_any kR ?_;change wpAny _ _ _ _ _ _ _ (World.drew _);refine zu 0 (ϖ d) ?_;refine zu 1 (ϖ d) ?_;refine zu 2 (ϖ d) ?_;refine zu 3 (ϖ d) ?_;refine zu 5 (.pointer (some ⟨w.heap.size,3,none⟩)) ?_;refine wpAny_ready (rs:=[4,6]) kR sM ?_;refine AllReady.cons rfl (λK hK=>?_) (AllReady.cons rfl (λK hK=>?_) AllReady.nil)
  .skip
   go_simp;refine hK _ _ ?_
   try simp only[zZ]
   refine zQ 6 λK hK=>?_;go_simp;refine hK _ _ ?_
   try simp only[zZ]
   refine zQ 7 λK hK=>?_;refine qF3 rfl (qP2 rfl (ϊ a) _ _ _ underlying24 zF0 rfl rfl dC dC) ?_;refine hK _ _ ?_
   try simp only[zZ]
   exact HREST
  .skip
   go_simp;refine hK _ _ ?_
   try simp only[zZ]
   refine wpAny_ready (rs:=[4,7]) kR sM ?_;refine AllReady.cons rfl (λK hK=>?_) (AllReady.cons rfl (λK hK=>?_) AllReady.nil)
   .skip
    go_simp;refine hK _ _ ?_
    try simp only[zZ]
    refine zQ 7 λK hK=>?_;refine qF3 rfl (qP2 rfl (ϊ a) _ _ _ underlying24 zF0 rfl rfl dC dC) ?_;refine hK _ _ ?_
    try simp only[zZ]
    exact HREST
   .skip
    refine qF3 rfl (qP2 rfl (ϊ a) _ _ _ underlying24 zF0 rfl rfl dC dC) ?_;refine hK _ _ ?_
    try simp only[zZ]
    refine zQ 4 λK hK=>?_;go_simp;refine hK _ _ ?_
    try simp only[zZ]
    exact HREST
 refine zQ 8 λK hK=>?_;refine qF3 rfl (xA9 rfl rfl rfl Q) ?_;refine hK _ _ ?_
 try simp only[zZ]
 refine zu 9 (ϖ d) ?_;refine zu 10 (ϖ d) ?_;refine zQ 11 λK hK=>?_;go_simp;refine hK _ _ ?_;refine wpAny_done kR ?_ _;go_wp2;go_ret;obtain⟨g,i,m,n⟩:=H.out;obtain⟨W,Y⟩:=L.out.grew g i m n M.drew _ N J (iR _);exact⟨rfl,⟨_,W⟩,Y⟩
def zJ6(I:DInv)(ks:List Int):Prop:=∀ (base Wb:Nat) (T:Int) (ds:List I.G) (o:SOp) (w:World),WOk I base T w Wb ds→Fit ks o→0≤T→T≤40000→
 Calls prog 40 #[.pointer (some ⟨Wb,0,none⟩),.agg #[.int .i64 o.k,.int .i64 o.x,.int .i64 o.y,.int .i64 o.a,.int .i64 o.b,.string o.s,.string o.t]] w fun e w'=>e=.returned (.bool true)∧(∃ ds',WOk I base (T+2) w' Wb ds')∧Below base w w'
theorem kR0(I:DInv)(ks:List Int)(B:zJ6 I ks)(p)(n cap:Nat)(f:Nat->SOp)(w)(O:n<=16384)(k:0<w.heap.size)(s:w.cell? ⟨0,0,none⟩=some qE9)(o:Script w p n f)(r:∀ i,i<n->Fit ks (f i)):
  Calls prog 17 #[.slice p n cap] w λe K=>e=.returned (.int .i64 (-1))/\Kp [] w K:=by
 have x:=zh o;have v:=zh r;have l:Kp [] w (w.alloc (qF6 none 0 0 none 0 0)):=kF.alloc _;have y:Hid (WOk I w.heap.size 0 (w.alloc (qF6 none 0 0 none 0 0)) w.heap.size []):=by
  exact⟨k,sM,(l.cell (a:=⟨0,0,none⟩) k sM).trans s,lR,⟨none,0,0,[],none,0,υ _ _,wN _ _ _ _,sM,wN _ _ _ _⟩,sM,sM,List.Pairwise.nil⟩
 have t:=zh (l.below lR sM);clear o r k s l;go_enter func17,ntmps17;go_wp2
 go_loopw [4] (λi wr=>∃ (j:Nat) (g:List I.G),j<=n/\i=.int .i64 j/\WOk I w.heap.size (2*j) wr w.heap.size g/\Below w.heap.size w wr) (λi _=>n-(intOf i).toNat)
 case atStart=>exact⟨0,[],zL _,rfl,y,t⟩
 case round=>
  obtain⟨j,g,N,rfl,q,m⟩:=hrel;have z:=zh q;have d:=zh m;clear q m;by_cases c:j<n
  .obtain⟨L,P,rfl,M,b⟩:=(x.keep (Kp.of_below d lR)) oM;have c0:=b j c 0 dC;have C:=b j c 1 dC;have D:=b j c 2 dC;have E:=b j c 3 dC;have F:=b j c 4 dC;have G:=b j c 5 dC;have H:=b j c 6 dC;simp only[SOp.cells,zH,zI,Nat.add_zero] at c0 C D E F G H;have J:(j:Int)<(n:Int):=oM
   clear b;go_wp2_with fail;refine (B w.heap.size w.heap.size (2*j) g (f j) wr z (v j c) oM oM).mono ?_;rintro e Q ⟨rfl,⟨ds',hW2⟩,hB2⟩;have A:=zh hW2;have u:=zh hB2;clear hW2 hB2;go_wp2;exact⟨⟨j+1,ds',oM,by go_num,by have h:=A.out;rw[show ((2*j+2:Int))=2*((j+1:Nat):Int) by omega] at h;exact h,d.trans u⟩,by simp[intOf];omega⟩
  .have J:¬(j:Int)<(n:Int):=oM
   go_wp2;go_ret;exact⟨rfl,Kp.of_below d lR⟩
end Go.Proofs.YtdohpenfkdckiaaGreatDoor.Gw
namespace Go.Proofs.YtdohpenfkdckiaaGreatDoor
open Go.Proofs.Tryz
open Go.RowKit
def Sto.led(s:Sto)(qb qs:Int):Sto:={ s with N:=s.N+1,rb:=qb,rs:=qs }
theorem xG8(St A n C:Nat)(s)(b d:Int)(l)(wr:Int)(w)(P:w.heap[St]?=some (θ 1 s))(hd:Devl s.V A n C l wr w)(hn:n<=1000)(a2:2<=n)(hl:n*128<=l.length)(aj:C≠A)(ag:s.V≠A)(ah:s.V≠C)(aa:0<=s.N)(ab:s.N<=1000000000)(al:0<=b)(am:b<=1000)(an:0<=d)(i:Nat)(hi:(s.N+1) % 2=i):
  Calls prog 114 #[.pointer (some ⟨St,0,none⟩),.agg #[.int .i64 b,.int .u64 d]] w λe Q=>e=.returned (.tuple #[])/\Q.heap[St]?=some (θ 1 (s.led b d))/\Devl s.V A n C (qD0 l i (qB8 (s.N+1) b d)) (nx wr) Q/\Kp [St,A,C] w Q:=by
 have az:=ζ P;have D:=zh P;have r:=zh hd;have M:=zh hi;clear P hd hi;go_enter func114,ntmps114;go_wp2_with fail;rename_i E Z;obtain⟨w1,ai,ae,J,ao⟩:=qF7 w (.cells #[ϊ b,.int .u64 d] 84);rw[<-ai];clear ai;have p:w1.drew.heap[St]?=some (θ 1 s)/\w1.drew.heap[w.heap.size]?=some (.cells #[ϊ b,.int .u64 d] 84):=⟨J.hp D,ae⟩;refine zH6 (α:=Nat->Act) (R:=λA0=>∀ H W,W.heap[H]?=some (.cells #[.int .u64 (s.N+1),ϊ b,.int .u64 d] 166)->Kp [] w W->w.heap.size<=H->E (A0 H) W) ?_;apply Exists.intro;apply And.intro
 rotate_left
 .intro HREST;refine wp_region_held_drew (S:=λW=>W.heap[St]?=some (θ 1 s)/\W.heap[w.heap.size]?=some (.cells #[ϊ b,.int .u64 d] 84)) kR p (λ_=>?_);refine zP 0 St 0 p ?_;refine zV 1 (ϖ St) rfl (λW f=>by have c:=ζ f.1;clear f;go_simp) p ?_;refine zP 2 St 3 p ?_;refine zV 3 (.agg #[.int .u64 s.N,ϊ s.rb,.int .u64 s.rs]) rfl (λW f=>by have a3:=ξ f.1 3;have a4:=ξ f.1 4;have a5:=ξ f.1 5;simp only[θ,zG,zH,zI] at a3 a4 a5;clear f;go_simp) p ?_;refine zV 4 (.agg #[ϊ b,.int .u64 d]) rfl (λW f=>by have a:=ξ f.2;clear f;go_simp) p ?_;refine zr 5 6 (λK hK=>?_) λK hK=>?_
  .skip
   go_simp;refine (zG3 s.N s.rb s.rs b d w1.drew aa ab).mono ?_;rintro e v ⟨rfl,x⟩;have q:=Kp.of_below x lR;have k:=And.intro (q.hp p.1) (q.hp p.2);refine hK.out _ _ k (λ_=>?_);clear hK K x
   try simp only[zZ]
   refine zq 6 λK hK=>?_;go_simp;obtain⟨j,z,t,o,aq⟩:=qF7 v (.cells #[.int .u64 0,ϊ 0,.int .u64 0] 166);obtain⟨B,G⟩:=eX v.heap.size;rw[<-z,<-G];rw[<-G] at t;have ap:=q.size;have au:w.heap.size<B:=by rw[G];have:w1.heap.size<=v.heap.size:=ap;omega
   clear z G;have g:=And.intro (o.hp k.1) (o.hp k.2);refine zk hK g ?_
   refine zq 7 λK hK=>?_;have z0:=ξ t;have f0:=φ t;have Y:=ζ t;have L:=zh t;go_simp;have m:Kp [B] j (((j.setCell ⟨B,0,none⟩ (.int .u64 (s.N+1))).setCell ⟨B,1,none⟩ (ϊ b)).setCell ⟨B,2,none⟩ (.int .u64 d)):=((kF.sc _).sc _).sc _;have y:=μ (μ (μ L 0 (.int .u64 (s.N+1))) 1 (ϊ b)) 2 (.int .u64 d);generalize ((j.setCell ⟨B,0,none⟩ (.int .u64 (s.N+1))).setCell ⟨B,1,none⟩ (ϊ b)).setCell ⟨B,2,none⟩ (.int .u64 d)=w5 at m y |-;refine hK.out _ _ ⟨m.heap g.1 (by simp<;>omega),m.heap g.2 (by simp<;>omega)⟩ (λ_=>?_);refine zd ?_
   try simp only[zZ]
   show E _ w5;exact HREST B w5 y ((((J.drew).tr q).tr o).trans m (by simp<;>omega)) oM
  .go_simp;obtain⟨j,z,t,o,aq⟩:∃ j,j=(w1.alloc (.cells #[.int .u64 0,ϊ 0,.int .u64 0] 166)).drew/\j.heap[w.heap.size+1]?=some (.cells #[.int .u64 0,ϊ 0,.int .u64 0] 166)/\Kp [] w1 j/\j.heap.size=w1.heap.size+1:=⟨_,rfl,by rw[<-ao];exact υ w1 _,(kF.alloc _).drew,sM⟩;rw[<-z];clear z;have g:=And.intro (o.hp p.1) (o.hp p.2);refine zk hK g ?_
   refine zq 5 λK hK=>?_;go_simp;refine (zG3 s.N s.rb s.rs b d j aa ab).mono ?_;rintro e v ⟨rfl,x⟩;have q:=Kp.of_below x lR;have k:=And.intro (q.hp g.1) (q.hp g.2);refine hK.out _ _ k (λ_=>?_);clear hK K x
   try simp only[zZ]
   have I:=q.hp t;refine zq 7 λK hK=>?_;have z0:=ξ I;have f0:=φ I;have Y:=ζ I;have L:=zh I;go_simp;have m:Kp [(w.heap.size+1)] v (((v.setCell ⟨(w.heap.size+1),0,none⟩ (.int .u64 (s.N+1))).setCell ⟨(w.heap.size+1),1,none⟩ (ϊ b)).setCell ⟨(w.heap.size+1),2,none⟩ (.int .u64 d)):=((kF.sc _).sc _).sc _;have y:=μ (μ (μ L 0 (.int .u64 (s.N+1))) 1 (ϊ b)) 2 (.int .u64 d);generalize ((v.setCell ⟨(w.heap.size+1),0,none⟩ (.int .u64 (s.N+1))).setCell ⟨(w.heap.size+1),1,none⟩ (ϊ b)).setCell ⟨(w.heap.size+1),2,none⟩ (.int .u64 d)=w5 at m y |-;refine hK.out _ _ ⟨m.heap k.1 (by simp<;>omega),m.heap k.2 (by simp<;>omega)⟩ (λ_=>?_);refine zd ?_
   try simp only[zZ]
   show E _ w5;exact HREST (w.heap.size+1) w5 y (((J.tr o).tr q).tr m) oM
 intro H W O u ax;refine Z _ _ ?_;clear Z E p J ae;go_wp2_with fail;have Y:=ζ O;have a1:=ζ r.hV;have av:=ζ r.hC;have k:W.drew.heap[St]?=some (θ 1 s)/\W.drew.heap[H]?=some (.cells #[.int .u64 (s.N+1),ϊ b,.int .u64 d] 166):=⟨u.hp D,O⟩;obtain⟨T,F⟩:=r.out.hA;have ar:=ζ F;have ac:St≠A:=by intro e;subst e;rw[D.out] at F;simp[θ,qA8] at F
 have ad:St≠C:=by intro e;subst e;have h:=r.out.hC;rw[D.out] at h;simp[θ] at h
 refine wp_region_held_drew (S:=λW=>W.heap[St]?=some (θ 1 s)/\W.heap[H]?=some (.cells #[.int .u64 (s.N+1),ϊ b,.int .u64 d] 166)) kR k (λ_=>?_);refine zP 0 St 0 k ?_;refine zV 1 (ϖ St) rfl (λW f=>by have c:=ζ f.1;clear f;go_simp) k ?_;refine zP 2 St 2 k ?_;refine zV 3 (ϖ s.V) rfl (λW f=>by have a:=ξ f.1 2;simp only[θ,zG,zH,zI] at a;clear f;go_simp) k ?_;refine zV 4 (.agg #[.int .u64 (s.N+1),ϊ b,.int .u64 d]) rfl (λW f=>by have a:=ξ f.2;clear f;go_simp) k ?_;refine zq 5 λK hK=>?_;go_simp;refine (zN0 s.V A n C T wr i (s.N+1) b d l W.drew (u.hp r.hV) (u.hp F) (by have:=M.out;omega) hn (u.hp r.hC) hl aj ag ah M oM al am an).mono ?_;rintro e j ⟨rfl,V,X,o⟩;have g:=And.intro (o.heap k.1 (by simp[ac,ad])) (o.heap k.2 (by simp<;>omega));have af:=o.heap (u.hp r.hV) (by simp[ag,ah]);refine hK.out _ _ g (λ_=>?_);refine zd ?_
 try simp only[zZ]
 have a0:=ζ g.1;have ay:=ζ g.2;have y3:=ξ g.1 3;have y4:=ξ g.1 4;have y5:=ξ g.1 5;simp only[θ,zG,zH,zI] at y3 y4 y5;have g3:=φ g.1;have z0:=ξ g.2;have aw:H≠St:=oM
 have HE:Hid (j.heap[St]?=some (θ 1 s)/\j.heap[s.V]?=some (qE4 A n)/\j.heap[A]?=some (qA8 ((qD0 l i (qB8 (s.N+1) b d)).length / 128) n C (.slice none 0 0) (nx (nx T)) (nx wr))/\j.heap[C]?=some (.cells (enc (qD0 l i (qB8 (s.N+1) b d))) 115)/\Kp [A,C] w j):=⟨g.1,af,by rw[qW9 l _ i n (qJ1 _ _ _) hl (by have:=M.out;omega)];exact V,X,(Kp.mono (S':=[A,C]) u sM).trans (((Kp.refl [A,C] W).drew).tr o) sM⟩;clear k g V X af o O u;go_wp2
 go_end0
 obtain⟨U,N,e3,e4,e5⟩:=HE.out;have m:Kp [St] j (((j.setCell ⟨St,3,none⟩ (.int .u64 (s.N+1))).setCell ⟨St,4,none⟩ (ϊ b)).setCell ⟨St,5,none⟩ (.int .u64 d)):=((kF.sc _).sc _).sc _;have ak:s.V≠St:=by intro e;rw[e,U] at N;simp[θ,qE4] at N
 exact⟨rfl,μ (μ (μ U 3 _) 4 _) 5 _,⟨m.heap N (by simpa using ak),⟨_,m.heap e3 (by simpa using ac.symm)⟩,m.heap e4 (by simpa using ad.symm)⟩,(e5.mono (by simp +contextual)).tr m⟩
theorem zS9{a b}(h:qM8 a=qM8 b):a=b:=by
 have e:=congrArg toB h;rw[zB5,zB5] at e;cases a;cases b;simp only at e
 congr 1
 exact Array.toList_inj.1 e
theorem kH1{p p'}(j:qC6 p)(k:qC6 p'){r c:List Int}(h:qD9 p++r=qD9 p'++c):p=p'/\r=c:=by
 obtain⟨q,s,t⟩:=j;obtain⟨m,n,o⟩:=k;simp only[qD9,aA,cA,nA,List.cons.injEq] at h;obtain⟨l,d⟩:=h;have g:p.k.size=p'.k.size:=oM
 have i:p.v.size=p'.v.size:=oM
 obtain⟨a,e⟩:=List.append_inj d (by rw[qS0,qS0,g]);obtain⟨b,f⟩:=List.append_inj e (by rw[qS0,qS0,i]);refine⟨?_,f⟩;cases p;cases p';simp only at a b;rw[zS9 a,zS9 b]
theorem zG7:∀ (ps a:List KV) (r c:List Int),(∀ p∈ps,qC6 p)->(∀ p∈a,qC6 p)->ps.length=a.length->ps.flatMap qD9++r=a.flatMap qD9++c->ps=a
 | [],[],_,_,_,_,_,_=>rfl
 | [],_::_,_,_,_,_,h,_=>by cases h
 | _::_,[],_,_,_,_,h,_=>by cases h
 | p::ps,p'::a,r,c,h1,h2,hl,h=>by
  rw[fC,fC,aA,aA] at h;obtain⟨d,e⟩:=kH1 (h1 p sM) (h2 p' sM) h;rw[d,zG7 ps a r c (λq b=>h1 q (by simp[b])) (λq b=>h2 q (by simp[b])) (by simpa using hl) e]
theorem jZ0{h h'}(t:h.key.size<=8)(u:h'.key.size<=8)(g:h.p=none)(i:h'.p=none)(b:0<=h.b/\h.b<65536)(c:0<=h'.b/\h'.b<65536)(k:0<=h.s/\h.s<18446744073709551616)(l:0<=h'.s/\h'.s<18446744073709551616){r j:List Int}(e:qE3 h++r=qE3 h'++j):h=h'/\r=j:=by
 simp only[qE3,aA] at e;obtain⟨m,n⟩:=List.append_inj e (by rw[qI0,qI0]);obtain⟨o,d⟩:=List.append_inj n (by rw[qI0,qI0]);simp only[cA,nA,List.cons.injEq] at d;obtain⟨s,p⟩:=d;obtain⟨f,q⟩:=List.append_inj p (by rw[qS0,qS0];omega);have a:=congrArg qI1 m;rw[qQ7 2 _ oM b.1 (by simpa using b.2),qQ7 2 _ oM c.1 (by simpa using c.2)] at a;have n2:=congrArg qI1 o;rw[qQ7 8 _ oM k.1 (by simpa using k.2),qQ7 8 _ oM l.1 (by simpa using l.2)] at n2;refine⟨?_,q⟩;cases h;cases h';simp only at g i a n2 f;rw[zS9 f,a,n2,g,i]
def xK1(h:HL):Prop:=h.p=none∧h.key.size≤8∧0≤h.b∧h.b<65536∧0≤h.s∧h.s<18446744073709551616
theorem xI1:∀ (ps a:List HL) (r c:List Int),(∀ p∈ps,xK1 p)->(∀ p∈a,xK1 p)->ps.length=a.length->ps.flatMap qE3++r=a.flatMap qE3++c->ps=a
 | [],[],_,_,_,_,_,_=>rfl
 | [],_::_,_,_,_,_,h,_=>by cases h
 | _::_,[],_,_,_,_,h,_=>by cases h
 | p::ps,p'::a,r,c,h1,h2,hl,h=>by
  rw[fC,fC,aA,aA] at h;obtain⟨d,e,f,g,i,j⟩:=h1 p sM;obtain⟨k,l,m,n,o,s⟩:=h2 p' sM;obtain⟨t,u⟩:=jZ0 e l d k ⟨f,g⟩ ⟨m,n⟩ ⟨i,j⟩ ⟨o,s⟩ h;rw[t,xI1 ps a r c (λq b=>h1 q (by simp[b])) (λq b=>h2 q (by simp[b])) (by simpa using hl) u]
theorem zB4{xs a:List Int}(b:∀ x∈xs,0<=x/\x<256)(c:∀ x∈a,0<=x/\x<256)(h:toB xs=toB a):xs=a:=by
 rw[<-qU9 xs b,<-qU9 a c,h]
theorem zA4{a b:Int}{ps ps'}{hs hs'}(h:qA5 a ps hs=qA5 b ps' hs'):a=b/\ps.length+hs.length=ps'.length+hs'.length/\∃ r c,ps.flatMap qD9++(hs.flatMap qE3++r)=ps'.flatMap qD9++(hs'.flatMap qE3++c):=by
 simp only[qA5,qL7,aA,cA,nA,List.cons.injEq] at h;exact⟨h.1,by have:=h.2.1;omega,_,_,h.2.2⟩
theorem xF1{N:Nat}{l}(k:N<=1000):∀ {n b:Nat} {s:Int} {t},Laid N l n b s t->∃ ps a,qB3 l b=toB (qA5 (n:Int) ps a)/\∀ x∈qA5 (n:Int) ps a,0<=x/\x<256
 | 0,b,s,t,h=>by
  obtain⟨_,_,_,c,d,e,f⟩:=h;exact⟨prs t,[],c,qK3 0 _ [] oM oM sO d sM⟩
 | n+1,b,s,t,h=>by
  obtain⟨_,_,g,a,c,d,e,f,i,j⟩:=h;exact⟨[],a,e,qK3 _ [] a oM oM sO sM f⟩
theorem qZ3{N:Nat}{l}(d:N<=1000){n a b:Nat}{s j:Int}{t}{t':Tn a}(h:Laid N l n b s t)(i:Laid N l a b j t'):n=a:=by
 obtain⟨ps,k,e,f⟩:=xF1 d h;obtain⟨o,m,c,g⟩:=xF1 d i;rw[e] at c;have:=(zA4 (zB4 f g c)).1;omega
theorem zN9{N:Nat}{l}(D:N<=1000):∀ (n b:Nat) (s y:Int) (t t'),Laid N l n b s t->Laid N l n b y t'->s=y/\t=t'
 | 0,b,s,y,t,t',h,h'=>by
  obtain⟨_,_,a,B,j,C,S⟩:=h;obtain⟨_,_,c,g,d,A,R⟩:=h';rw[B] at g;have e:=zB4 (qK3 0 _ [] oM oM sO j sM) (qK3 0 _ [] oM oM sO d sM) g;refine⟨by rw[a,c,e],?_⟩;obtain⟨_,F,r,V,f⟩:=zA4 e;exact zG7 (prs t) (prs t') _ _ j d (by simpa using F) f
 | n+1,b,s,y,t,t',h,h'=>by
  obtain⟨_,_,h2,K,a,B,j,C,S,h8⟩:=h;obtain⟨_,_,g2,L,c,g,d,A,R,g8⟩:=h';rw[j] at d;have e:=zB4 (qK3 _ [] K oM oM sO sM C) (qK3 _ [] L oM oM sO sM A) d;refine⟨by rw[B,g,e],?_⟩;obtain⟨_,F,r,V,f⟩:=zA4 e;simp only[List.flatMap_nil,nA] at f;have P:=xI1 K L _ _ (λp G=>Laid.links a C D p G) (λp G=>Laid.links c A D p G) (by simpa using F) f;subst P;refine (List.ext_getElem (a.1.symm.trans c.1) λi z O=>?_:η t=η t');have W:=a.2 i (by rw[a.1];exact z) z;have X:=c.2 i (by rw[a.1];exact z) O;obtain⟨T,w⟩:=W;obtain⟨U,x⟩:=X
  cases x1:(η t)[i].ref with
  | none=>rw[x1] at w;obtain⟨_,_,q,_,E⟩:=w;exact E.elim
  | some y1=>
   cases x2:(η t')[i].ref with
   | none=>rw[x2] at x;obtain⟨_,_,q,_,E⟩:=x;exact E.elim
   | some y2=>
    rw[x1] at w;rw[x2] at x;obtain⟨Y,s1,_,M⟩:=w;obtain⟨Z,s2,_,H⟩:=x;have I:y1.1=y2.1:=oM
    rw[<-I] at H;have J:=zN9 D n y1.1 _ _ _ _ M H;have Q:=Prod.ext I J.1;have k:=T.symm.trans U;have o:(η t)[i].ref=(η t')[i].ref:=by rw[x1,x2,Q]
    have m:=J.2
    revert k o m
    generalize (η t)[i]=u;generalize (η t')[i]=v;intro k o m;cases u;cases v;simp only at k o m;rw[k,o,m]
def Cl(N:Nat)(l:List UInt8)(n:Nat)(ks:List Nat):Prop:=∀ (m b:Nat) (s:Int) (t:Tn m),m<n→Laid N l m b s t→b∈ks→∀ k∈Blk m b t,k∈ks
def xS2(N:Nat)(l:List UInt8)(n:Nat)(ks ks':List Nat):Prop:=∀ k∈ks',k∈ks∨∃ (m:Nat) (s:Int) (t:Tn m),m<n∧Laid N l m k s t
structure Bel(N:Nat)(l:List UInt8)(n:Nat)(ks ks':List Nat):Prop where
 sub:∀ k∈ks,k∈ks'
 new:xS2 N l n ks ks'
 cl:Cl N l n ks'
theorem Bel.refl{N n:Nat}{l}{ks}(h:Cl N l n ks):Bel N l n ks ks:=⟨λ_ h=>h,λ_ h=>Or.inl h,h⟩
theorem Bel.trans{N n:Nat}{l}{a b c}(h:Bel N l n a b)(k:Bel N l n b c):Bel N l n a c:=
 ⟨λx e=>k.sub x (h.sub x e),λx e=>by
  rcases k.new x e with d|d
  .exact h.new x d
  .exact Or.inr d,k.cl⟩
def zJ1(N:Nat)(l:List UInt8)(n:Nat):Prop:=∀ (t:Tn n) (ks:List Nat),Cl N l n ks→(∀ n' (e:n=n'+1),∀ m∈η (e ▸ t:Tn (n'+1)),qJ8 N l n' m)→
 Bel N l n ks (qG0 n t ks)∧∀ n' (e:n=n'+1),∀ m∈η (e ▸ t:Tn (n'+1)),∀ k∈qI4 n' m,k∈qG0 n t ks
theorem zG5{N:Nat}{l}:∀ {n:Nat} {m},qJ8 N l n m->∀ n' (e:n=n'+1),∀ u∈η (e ▸ m.sub:Tn (n'+1)),qJ8 N l n' u
 | 0,_,_,n',e=>by cases e
 | n+1,m,h,n',e=>by
  cases e;intro u f
  cases hx:m.ref with
  | none=>exact h.2 hx u f
  | some x=>
   obtain⟨_,_,_,k,c,_⟩:=h.1 x hx;obtain⟨i,d,rfl⟩:=gO f;have a:=(c.2 i (by rw[c.1];exact d) d).2;have key:∀ y,(η m.sub)[i].ref=some y->Laid N l n y.1 y.2 (η m.sub)[i].sub:=λy hy=>by rw[hy] at a;exact a.2.2.2
   have j:(η m.sub)[i].ref≠none:=λb=>by rw[b] at a;obtain⟨_,_,q,_,g⟩:=a;exact g
   cases n with
   | zero=>exact key
   | succ n=>exact⟨key,λb=>absurd b j⟩
theorem qP1{n:Nat}{m}{x:Nat × Int}(h:m.ref=some x):qI4 n m=Blk n x.1 m.sub:=by
 cases n<;>simp only[qI4,h]
theorem xK5{N:Nat}{l}{n:Nat}{m}(h:qJ8 N l n m){x:Nat × Int}(a:m.ref=some x):Laid N l n x.1 x.2 m.sub:=by
 cases n with
 | zero=>exact h x a
 | succ n=>exact h.1 x a
theorem xX9{n b:Nat}{t}{k:Nat}(h:k∈Blk n b t):k=b\/∃ c,∃ e:n=c+1,∃ u∈η (e ▸ t:Tn (c+1)),k∈qI4 c u:=by
 cases n with
 | zero=>exact Or.inl (by simpa [Blk] using h)
 | succ n=>
  simp only[Blk,mC,List.mem_flatMap] at h;rcases h with h|⟨u,d,a⟩
  .exact Or.inl h
  .refine Or.inr ⟨n,rfl,u,d,?_⟩
   cases hx:u.ref with
   | none=>rw[hx] at a;cases a
   | some x=>rw[hx] at a;rw[qP1 hx];exact a
theorem xP1{N:Nat}{l}(p:N<=1000)(n:Nat)(B:zJ1 N l n)(m)(y:qJ8 N l n m)(ks)(o:Cl N l (n+1) ks):
  Bel N l (n+1) ks (qG3 (qG0 n) ks m)/\∀ k∈qI4 n m,k∈qG3 (qG0 n) ks m:=by
 cases hx:m.ref with
 | none=>
  have e:qG3 (qG0 n) ks m=qG0 n m.sub ks:=by simp only[qG3,hx]
  rw[e];obtain⟨d,v⟩:=B m.sub ks (λf b s t h=>o f b s t oM) (zG5 y);refine⟨⟨d.sub,λk c=>?_,λf b s t q g hbk k c=>?_⟩,λk c=>?_⟩
  .rcases d.new k c with h|⟨a,s,t,r,i⟩
   .exact Or.inl h
   .exact Or.inr ⟨a,s,t,oM,i⟩
  .by_cases z:f<n
   .exact d.cl f b s t z g hbk k c
   .rcases d.new b hbk with h|⟨a,H,t',r,i⟩
    .exact d.sub k (o f b s t q g h k c)
    .have:=qZ3 p g i;omega
  .cases n with
   | zero=>simp[qI4,hx] at c
   | succ n=>
    simp only[qI4,hx,List.mem_flatMap] at c;obtain⟨u,A,c⟩:=c;exact v n rfl u A k c
 | some x=>
  have g:=xK5 y hx;by_cases w:x.1∈ks
  .have e:qG3 (qG0 n) ks m=ks:=by simp only[qG3,hx,if_pos w]
   rw[e];exact⟨Bel.refl o,λk c=>by rw[qP1 hx] at c;exact o n x.1 x.2 m.sub oM g w k c⟩
  .have e:qG3 (qG0 n) ks m=qG0 n m.sub (x.1::ks):=by simp only[qG3,hx,if_neg w]
   rw[e];have E:Cl N l n (x.1::ks):=λf b s t q j d k c=>by
    rcases List.mem_cons.1 d with rfl|d
    .have:=qZ3 p j g;omega
    .exact mM _ (o f b s t oM j d k c)
   obtain⟨d,v⟩:=B m.sub (x.1::ks) E (zG5 y);have C:∀ k∈Blk n x.1 m.sub,k∈qG0 n m.sub (x.1::ks):=λk c=>by
    rcases xX9 c with rfl|⟨G,D,u,A,c⟩
    .exact d.sub _ List.mem_cons_self
    .exact v G D u A k c
   refine⟨⟨λk c=>d.sub k (mM _ c),λk c=>?_,λf b s t q j hbk k c=>?_⟩,λk c=>by rw[qP1 hx] at c;exact C k c⟩
   .rcases d.new k c with h|⟨a,s,t,r,i⟩
    .rcases List.mem_cons.1 h with rfl|h
     .exact Or.inr ⟨n,x.2,m.sub,oM,g⟩
     .exact Or.inl h
    .exact Or.inr ⟨a,s,t,oM,i⟩
   .by_cases z:f<n
    .exact d.cl f b s t z j hbk k c
    .have F:f=n:=oM
     subst F;rcases d.new b hbk with h|⟨a,H,t',r,i⟩
     .rcases List.mem_cons.1 h with rfl|h
      .rw[(zN9 p _ _ _ _ _ _ j g).2] at c;exact C k c
      .exact d.sub k (mM _ (o _ b s t q j h k c))
     .have:=qZ3 p j i;omega
theorem xC2{N:Nat}{l:List UInt8}(f:N<=1000)(n:Nat)(c:zJ1 N l n):∀ (ls:List (Lnk (Tn n))) (ks:List Nat),(∀ m∈ls,qJ8 N l n m)->Cl N l (n+1) ks->
  Bel N l (n+1) ks (ls.foldl (qG3 (qG0 n)) ks)/\∀ m∈ls,∀ k∈qI4 n m,k∈ls.foldl (qG3 (qG0 n)) ks
 | [],ks,_,hc=>⟨Bel.refl hc,λm b=>by cases b⟩
 | a::ls,ks,h,hc=>by
  obtain⟨d,i⟩:=xP1 f n c a (h a sM) ks hc;obtain⟨e,j⟩:=xC2 f n c ls (qG3 (qG0 n) ks a) (λm b=>h m (by simp[b])) d.cl;refine⟨d.trans e,λm b k g=>?_⟩;rcases List.mem_cons.1 b with rfl|b
  .exact e.sub k (i k g)
  .exact j m b k g
theorem zW7{N:Nat}{l}(b:N<=1000):∀ n,zJ1 N l n
 | 0=>λt ks a _=>⟨Bel.refl a,λg e=>by cases e⟩
 | n+1=>λt ks a f=>by
  obtain⟨c,d⟩:=xC2 b n (zW7 b n) (η t) ks (f n rfl) a;exact⟨c,λg e=>by cases e;exact d⟩
def ClA(N:Nat)(l:List UInt8)(ks:List Nat):Prop:=∀ n,Cl N l n ks
def qO2:Root→List Nat
 | .none=>[]
 | .at n l=>qI4 n l
def qL3(N:Nat)(l:List UInt8):Root→Prop
 | .none=>True
 | .at n m=>qJ8 N l n m
theorem ClA.nil(N:Nat)(l):ClA N l []:=λn m b s t _ _ h=>by cases h
theorem zJ8{N:Nat}{l}(f:N<=1000)(rt)(ks)(u:qL3 N l rt)(g:ClA N l ks):(∀ k∈ks,k∈qA4 ks rt)/\ClA N l (qA4 ks rt)/\∀ k∈qO2 rt,k∈qA4 ks rt:=by
 cases rt with
 | none=>exact⟨λ_ h=>h,g,λk d=>by cases d⟩
 | «at» n m=>
  obtain⟨c,q⟩:=xP1 f n (zW7 f n) m u ks (g (n+1));refine⟨c.sub,λp j b s t r e i k d=>?_,q⟩;rcases c.new b i with h|⟨a,w,t',v,o⟩
  .exact c.sub k (g p j b s t r e h k d)
  .exact c.cl j b s t (by have:=qZ3 f e o;omega) e i k d
theorem zJ9{N:Nat}{l:List UInt8}(e:N<=1000):∀ (rs:List Root) (ks:List Nat),(∀ r∈rs,qL3 N l r)->ClA N l ks->(∀ k∈ks,k∈rs.foldl qA4 ks)/\ClA N l (rs.foldl qA4 ks)/\∀ r∈rs,∀ k∈qO2 r,k∈rs.foldl qA4 ks
 | [],ks,_,hc=>⟨λ_ h=>h,hc,λr b=>by cases b⟩
 | a::rs,ks,h,hc=>by
  obtain⟨i,j,m⟩:=zJ8 e a ks (h a sM) hc;obtain⟨d,f,g⟩:=zJ9 e rs (qA4 ks a) (λr b=>h r (by simp[b])) j;refine⟨λk c=>d k (i k c),f,λr b k c=>?_⟩;rcases List.mem_cons.1 b with rfl|b
  .exact d k (m k c)
  .exact g r b k c
theorem zE5{N:Nat}{ks}:∀ b∈qB9 N ks,2<=b/\b<N/\b ∉ ks:=by
 intro b a;simp only[qB9,List.mem_filter,List.mem_range'_1,decide_eq_true_eq] at a;exact⟨a.1.1,oM,a.2⟩
theorem xC4(N:Nat)(ks):(qB9 N ks).Nodup:=List.Pairwise.filter _ List.nodup_range'
theorem jH2{N:Nat}{l:List UInt8}(m:N<=1000)(s:N*128<=l.length)(n:Nat)(L:Lnk (Tn n))(rs:List Root)(t:qJ8 N l n L)(u:OkL n L)(A:n<6)(D:∀ r∈rs,qL3 N l r)
  (p:news n L<=(qB9 N (rs.foldl qA4 (qA4 [] (.at n L)))).length) (a:List (Nat × List UInt8)) (j:a=(ψ n L (qB9 N (rs.foldl qA4 (qA4 [] (.at n L))))).2.1):
  (∀ x∈a,x.1<N/\x.2.length=128)/\(∃ x,(ψ n L (qB9 N (rs.foldl qA4 (qA4 [] (.at n L))))).1.ref=some x/\Laid N (laidAll l a) n x.1 x.2 (ψ n L (qB9 N (rs.foldl qA4 (qA4 [] (.at n L))))).1.sub)/\
  (∀ r∈rs,∀ k∈qO2 r,qB3 (laidAll l a) k=qB3 l k)/\(∀ k,k<2->qB3 (laidAll l a) k=qB3 l k):=by
 obtain⟨E,v,w⟩:=zJ8 m (.at n L) [] t (ClA.nil N l);obtain⟨y,F,z⟩:=zJ9 m rs _ D v;have e:=zE5 (N:=N) (ks:=rs.foldl qA4 (qA4 [] (.at n L)));have B:=xC4 N (rs.foldl qA4 (qA4 [] (.at n L)));generalize rs.foldl qA4 (qA4 [] (.at n L))=ks at *;have f:=zO5 n L (qB9 N ks) p;rw[<-j] at f;have q:∀ x∈a,x.1∈qB9 N ks:=λx d=>by
  have h:x.1∈a.map Prod.fst:=List.mem_map_of_mem d;rw[f] at h;exact mT h
 have i:∀ x∈a,x.1<N/\x.2.length=128:=λx d=>⟨(e x.1 (q x d)).2.1,zO6 n L _ u x (by rw[<-j];exact d)⟩;have g:∀ k,(k∈ks\/k<2)->qB3 (laidAll l a) k=qB3 l k:=λk c=>zX0 N k a l s i (λhm=>by
  obtain⟨x,d,rfl⟩:=List.mem_map.1 hm;have h:=e _ (q x d);rcases c with c|c
  .exact h.2.2 c
  .omega)
 refine⟨i,?_,λr C k c=>g k (Or.inl (z r C k c)),λk c=>g k (Or.inr c)⟩;refine xF4 N l (laidAll l a) n L (qB9 N ks) t u A (λb o=>⟨(e b o).1,(e b o).2.1⟩) p (λx d=>?_) (λk c=>g k (Or.inl (y k (w k c))));rw[<-j] at d;refine xX8 N a x l s i ?_ d;rw[f];exact B.sublist (List.take_sublist _ _)
theorem jS6:(prog.info? 263).map (·.size)=some 2:=kR
theorem xA8(d:Nat)(a)(W):Sem.run prog (Op.equalIn (d+1) 82 (.pointer (some a)) (.pointer (some a))) W=.ok true W:=by
 obtain⟨i,b,c⟩:=Option.map_eq_some_iff.1 jS6;simp[Op.equalIn,run_underlying underlying82,run_sizeOf W b,c,run_sameAddr_same]
theorem xQ1(V:Nat)(h)(rb rs:Int)(d:h.p=none)(c:h.key=⟨#[]⟩)(W):
  Sem.run prog (Op.equalIn 10000 89 (τ V h) (τ V ⟨⟨#[]⟩,rb,rs,none⟩)) W=.ok (decide (h.b=rb/\h.s=rs)) W:=by
 have f:∀ W:World,Sem.run prog (Op.equalIn 9998 85 (.pointer none) (.pointer none)) W=.ok true W:=λW=>zD9 9997 W;have g:∀ W:World,Sem.run prog (Op.equalIn 9997 85 (.pointer none) (.pointer none)) W=.ok true W:=λW=>zD9 9996 W;have i:=xA8 9998 ⟨V,0,none⟩;have e:h.ptr=none:=by simp[HL.ptr,d]
 rw[τ,τ,e,c,show HL.ptr ⟨⟨#[]⟩,rb,rs,none⟩=none from rfl];go_simp;by_cases a:h.b=rb<;>by_cases b:h.s=rs<;>simp[a,b]
theorem kQ3(V q:Nat)(h)(rb rs:Int)(b:h.p=some q)(a:h.key=⟨#[]⟩)(W):
  Sem.run prog (Op.equalIn 10000 89 (τ V h) (τ V ⟨⟨#[]⟩,rb,rs,none⟩)) W=.ok false W:=by
 have d:∀ W:World,Sem.run prog (Op.equalIn 9998 85 (ϖ q) (.pointer none)) W=.ok false W:=λW=>xA7 9997 _ W;have e:=xA8 9998 ⟨V,0,none⟩;have c:h.ptr=some ⟨q,0,none⟩:=by simp[HL.ptr,b]
 rw[τ,τ,c,a,show HL.ptr ⟨⟨#[]⟩,rb,rs,none⟩=none from rfl];go_simp
open Go.Maps (Keyed)
section
attribute [local go_sem] Oper.semAt_some
theorem jS5:(prog.info? 78).map (λi=>(i.zero,i.size,i.bytes))=some (some (.int .u64 0),1,8):=kR
def qQ1(ks:List Int):List Value:=ks.map (.int .u64)
theorem kE4(w:World)(a:Value)(t:TypeId):∀ j u,[a][j]?=some u->(w.alloc (.cells #[a] t)).cell? ((⟨w.heap.size,0,none⟩:Addr).add j)=some u:=λj u hj=>by
 rw[qG4,ξ (υ _ _)];simpa using hj
theorem jB5(args)(W):Sem.run prog (callFunc 239 args) W=.ok (.enter 239 args) W:=by
 simp[go_sem,func239]
theorem jV3(n:Nat)(r:1<=n)(a M V b:Nat)(D)(w)(d:w.heap[a]?=some (.cells #[.map (some M)] 167))(e:RM w V M b D):
  SeqGives Fence.wide n prog 239 #[.pointer (some ⟨a,0,none⟩)] (.int .u64) (KeysU D) (Maps.size D) w:=λl J W c j m i=>by
 have k:RM W V M b D:=by
  have p:=e.lt;obtain⟨h,g,o,f⟩:=e;exact⟨h,g,(c.block M p).trans o,f⟩
 have q:=(c.block a (ζ d)).trans d;exact jV2 n r l a M V b D J m W j (by have:=ξ q 0;simpa using this) k i
theorem zR3{w w'}{S}{base:Nat}{e}{sz:Nat}{v}{n:Nat}{xs:List Value}(h:w.ownsRow base e sz v n xs)(hK:Kp S w w')(i:∀ k∈S,∀ c fr,w.heap[k]?≠some (.cells c e fr)):w'.ownsRow base e sz v n xs:=by
 refine⟨h.1,?_⟩;rcases h.2 with a|⟨g,cap,cur,a,d,b,f⟩
 .exact Or.inl a
 .exact Or.inr ⟨g,cap,cur,a,d,hK.heap b (λj=>i g j _ _ b),f⟩
theorem xL1{w:World}{base:Nat}{e:TypeId}{sz:Nat}{v:Value}{n:Nat}{xs:List Value}(h:w.ownsRow base e sz v n xs):∃ b c,v=.slice b n c:=by
 rcases h.2 with⟨a,d⟩|⟨g,cap,cur,a,_⟩
 .exact⟨none,0,by rw[a,d]⟩
 .exact⟨_,cap,a⟩
def xS0(B:Nat)(w0:World)(ks:List Int)(W:World):Prop:=∃ v,W.heap[B]?=some (.cells #[v] 252)∧W.ownsRow (B+1) 78 1 v ks.length (qQ1 ks)∧Kp [B] w0 W
theorem xW4(g:Nat)(lb)(eg:∀ (args) (W),Sem.run prog (callFunc g args) W=.ok (.enter g args) W)(S:List Int->Prop)(N:Nat)(hN:N<=1000)(w)(M:∀ W,Kp [] w W->SeqGives Fence.wide 8 prog g lb (.int .u64) S N W):
  Calls prog 268 #[.slice none 0 0,.func (.func g) #[] lb] w λe Q=>∃ v ks,e=.returned v/\S ks/\Q.ownsRow w.heap.size 78 1 v ks.length (qQ1 ks)/\Kp [] w Q:=by
 obtain⟨i0,ad,ag,ah,ai⟩:=info_parts jS5;have U:=zh M;clear M;refine (callsIn_wide (n:=9)).1 ?_;refine callsIn_of_wp_marks func268 rfl trivial ?_ rfl;simp only[ntmps268,List.size_toArray,List.length_cons,List.length_nil,Nat.reduceAdd,Nat.reduceSub,Array.replicate_succ,Array.replicate_zero,List.push_toArray,List.append_toArray,List.nil_append,List.cons_append]
 gi_wp2_with fail
 obtain⟨m,O,aa,G,am⟩:=alB w (.cells #[.slice none 0 0] 252);rw[<-O];clear O;refine kS7 g lb S N dC rfl eg rfl (U m G) (xS0 w.heap.size m) ?JK ?J0 (λx=>{ tmps:=#[.slice none 0 0,.func (.func g) #[] lb,ϖ w.heap.size,undef,.slice none 0 0,.int .u64 x,.func (.func g) #[] lb,.int .u64 x,undef,undef,undef,undef,undef],defers:=[] }) ?assign ?body ?done
 case JK=>
  rintro s W W' T ⟨v,F,h2,h3⟩ hK C;exact⟨v,hK.heap F (λhm=>(C _ hm).2 _ _ _ F),zR3 h2 hK (λk a c B=>(C k a).2 c _ B),h3.trans hK (λi D J=>absurd (C i D).1 oM)⟩
 case J0=>
  intro W hK;exact⟨_,hK.hp aa,World.ownsRow_nil _ _ _ _,hK.mono sM⟩
 case assign=>
  intro l x W K hK
  gi_wp2
  exact hK
 case body=>
  rintro l j x W ⟨v,d,b,h⟩ al ap;obtain⟨r,t,rfl⟩:=xL1 b;have ab:=ζ d;have P:=ϻ d 0;have aj:=φ d 0;have f:=zh (n3 d b h);have R:Hid ((Value.slice r j.length t).ownBlock≠some w.heap.size):=λe=>by
   have:=qI6 b _ e;omega
  have ac:∀ {X:Obj} {p:World},(W.alloc X).grownBy p (Value.slice r j.length t).ownBlock->Ϙ p w.heap.size (.cells #[.slice r j.length t] 252):=λ{X p} hg=>(hg.block _ sO (λe=>R e.symm)).trans (ν _ f.1);clear d b h
  gi_wp2_with (gi_at_builtin;refine wpListIn_append_own _ rfl _ _ 252 rfl (w.heap.size+1) 78 i0 (.int .u64 0) 1 8 underlying252 ad ag ah ai rfl dC _ _ _ rfl (World.ownsRow.alloc f.2.1 _) ⟨W.heap.size,0,none⟩ 1 1 [.int .u64 x] rfl rfl (kE4 _ _ _) (by simp[Value.oneCell']) (by unfold maxLen;omega) oM sO ?_;intro v5 p I z _;obtain⟨g5,V,rfl⟩:=qO0 I;have u:=ac z;have o5:=ξ u 0;have ak:=φ u 0;simp only[zG,zH] at o5)
  have an:=z.size;have ao:(W.alloc (.cells #[.int .u64 x] 78)).heap.size=W.heap.size+1:=sM
  have y:Kp [w.heap.size] p (p.setCell ⟨w.heap.size,0,none⟩ (.slice (some ⟨g5,0,none⟩) (j.length+1) V)):=(Kp.refl _ _).sc _;have af:=λk a=>qI6 f.2.1 k a;refine⟨⟨_,μ u 0 _,?_,?_⟩,?_,?_⟩
  .have e:qQ1 (j++[x])=qQ1 j++[.int .u64 x]:=by simp[qQ1]
   rw[e,List.length_append];exact zR3 I y (λk a c B e=>by rw[List.mem_singleton.1 a,u] at e;cases e)
  .exact (((f.2.2.alloc _).grown z (λk a=>Or.inr (by have:=af k a;omega))).tr y)
  .have:=y.size;omega
  .intro k o a L;have J:=ζ a;have ae:k≠w.heap.size:=λe=>by
    rw[e,f.out.1] at a;cases a;exact L _ _ _ _ rfl
   refine y.heap ((z.block k sO (λe=>?_)).trans (ν _ a)) (by simpa using ae);rcases f.2.1.2 with⟨h0,_⟩|⟨gb,cap,cur,Y,e2,Z,_⟩
   .rw[h0] at e;cases e
   .rw[Y] at e;cases e;rw[Z] at a;cases a;exact L _ _ _ _ rfl
 case done=>
  rintro W A hS ⟨v,d,b,h⟩ q;obtain⟨r,t,rfl⟩:=xL1 b;have ab:=ζ d;have P:=ϻ d 0;obtain⟨sl,E⟩:=eX A.length;rw[<-E] at P;have f:Hid (W.ownsRow (w.heap.size+1) 78 1 (.slice r sl t) A.length (qQ1 A)/\Kp [w.heap.size] m W/\Ϙ W m.heap.size (.deferred (some []))):=⟨by rw[E];exact b,h,q⟩;clear d b h q E
  gi_wp2
  obtain⟨b,h,q⟩:=f.out;refine⟨sM,.inl ⟨_,_,rfl,run_takeDeferred q,?_⟩⟩;have H:Kp [m.heap.size] W (W.putObj m.heap.size (.deferred none)):=(Kp.refl _ _).putO sM _;exact⟨_,results_tmp rfl _ _ _,_,A,rfl,hS,qK4 (zR3 b H (λk a c B e=>by rw[List.mem_singleton.1 a,q] at e;cases e)) oM,G.trans (h.tr H) (λi D J=>by simp at D;omega)⟩
theorem jV4(M:Nat)(w):Calls prog 173 #[.map (some M)] w λe a=>e=.returned (.func (.func 239) #[] #[.pointer (some ⟨w.heap.size,0,none⟩)])/\a=w.alloc (.cells #[.map (some M)] 167):=by
 have b:=zM;go_enter func173,ntmps173;go_wp2;go_ret;exact⟨rfl,rfl⟩
theorem jG7(a M V h:Nat)(D)(l:Maps.size D<=4)(w)(f:w.heap[a]?=some (.cells #[.map (some M)] 167))(g:RM w V M h D):
  Calls prog 237 #[.func (.func 239) #[] #[.pointer (some ⟨a,0,none⟩)]] w λe i=>∃ v ks,e=.returned v/\KeysU D ks/\i.ownsRow w.heap.size 78 1 v ks.length (qQ1 ks)/\Kp [] w i:=by
 have j:=zh (xW4 _ _ jB5 (KeysU D) (Maps.size D) oM w (λW hK=>jV3 8 dC a M V h D W (hK.hp f) (g.kp hK sM)))
 clear f g;go_enter func237,ntmps237;go_wp2_with fail;refine (show Calls _ _ _ _ _ from j).mono ?_;rintro e w1 ⟨v,ks,rfl,b,c,d⟩;have k:=zh (n3 b c d);clear b c d;go_wp2;go_ret;exact⟨v,ks,rfl,k⟩
end
theorem xD9:(prog.info? 89).map (λi=>(i.zero,i.size,i.bytes))=some (some (.agg #[.pointer none,.string ⟨#[]⟩,.int .i64 0,.int .u64 0,.pointer none]),5,48):=kR
theorem kQ2{V:Nat}{v}{y:DataW Unit × List MemPlace}(h:qU8 V v=some y):∃ b:HL,b.p=none/\v=τ V b/\y.1=qG8 b:=by
 unfold qU8 at h;split at h
 .rename_i c;split at h
  .rename_i a k x z f;split at h
   .rename_i d;cases h;refine⟨⟨k,x,z,none⟩,rfl,?_,rfl⟩;have g:c=#[.pointer (some a),.string k,ϊ x,.int .u64 z,.pointer none]:=by rw[<-Array.toArray_toList (xs:=c),f]
    have e:a=⟨V,0,none⟩:=by cases a;simp at d |-;exact d
    rw[g,e];rfl
   .cases h
  .cases h
 .cases h
theorem RM.look{w}{V M n:Nat}{D}(h:RM w V M n D){x:Int}(q:Maps.has D (χ x)=true)(e:keyOf prog 78 (.int .u64 x)=some (χ x)):
  ∃ a:HL,a.p=none/\(Instr.lookup 167 (.map (some M)) (.int .u64 x) false).run prog w=.ok (τ V a) w/\∀ zd,D.atKey (χ x) zd=qG8 a:=by
 obtain⟨A,v,o,F,B,rfl⟩:=h;rcases Maps.fit_look false qM4 zA1 (z:=.agg #[.pointer none,.string ⟨#[]⟩,ϊ 0,.int .u64 0,.pointer none]) (w:=w) kR o F e with⟨_,r,_⟩|⟨b,y,_,_,u,l,m,_⟩
 .obtain⟨p,s,t⟩:=List.any_eq_true.1 q;obtain⟨b,d,rfl⟩:=List.mem_map.1 (Go.mem_sorted.1 s);obtain⟨y,f⟩:=F.reads b d;have g:=WideElems.rd_key f;have c:=WideAt.sameKey_eq t;rw[WideElems.rg_of f] at c;rw[c] at g;exact absurd (qM4.inj g e) (r b d)
 .obtain⟨a,i,j,k⟩:=kQ2 l;exact⟨a,i,by rw[u,j];rfl,λzd=>by rw[m zd,k]⟩
theorem RowU.of{w}{base g cap:Nat}{cur}{ks:List Int}(b:w.heap[g]?=some (.cells cur 78))(e:cur.size=cap*1)(d:cur.toList.take (ks.length*1)=qQ1 ks):RowU w g ks cap:=by
 refine⟨cur,b,oM,λi c=>?_⟩;have a:(qQ1 ks)[i]?=some (.int .u64 ks[i]):=by simp[qQ1,c]
 rw[<-d,List.getElem?_take_of_lt oM,Array.getElem?_toList] at a;exact a
def xS6(B:Nat)(D:DataW Unit)(v:Value)(ks:List Int)(w:World):Prop:=KeysU D ks∧((v=.slice none 0 0∧ks=[])∨∃ g cap,v=.slice (some ⟨g,0,none⟩) ks.length cap∧B≤g∧ks.length≤cap∧RowU w g ks cap)
theorem KeysU.perm{D}{ks c:List Int}(h:KeysU D ks)(a:c.Perm ks):KeysU D c:=
 ⟨λx b=>h.1 x (a.mem_iff.1 b),λkl hk=>by obtain⟨x,b,e⟩:=h.2.1 kl hk;exact⟨x,a.mem_iff.2 b,e⟩,by rw[a.length_eq];exact h.2.2⟩
theorem kN2(h M V x:Nat)(D)(A:Maps.size D<=4)(w)(r:w.heap[h]?=some (.cells #[.map (some M)] 167))(s:RM w V M x D):
  Calls prog 172 #[.func (.func 239) #[] #[.pointer (some ⟨h,0,none⟩)]] w λe y=>∃ v ks,e=.returned v/\xS6 w.heap.size D v ks y/\Kp [] w y:=by
 have m:=zh (jG7 h M V x D A w r s);clear r s;go_enter func172,ntmps172;go_wp2_with fail;refine (show Calls _ _ _ _ _ from m).mono ?_;rintro e w1 ⟨v,ks,rfl,c,i,j⟩;have b:=zh (n2 c j);rcases i.2 with⟨rfl,p⟩|⟨g,cap,cur,rfl,B,q,l,E,t,u⟩
 .have C:=List.eq_nil_of_length_eq_zero p;clear c i j p;go_wp2_with fail;refine (kN0 w1).mono ?_;rintro e H ⟨rfl,rfl⟩;go_wp2;go_ret;exact⟨_,ks,rfl,⟨b.1,.inl ⟨rfl,C⟩⟩,b.2⟩
 .have o:=zh (kN1 g cap ks w1 (RowU.of (base:=0) q t u) l (by have:=c.2.2;omega));obtain⟨G,k⟩:=eX ks.length;rw[<-k] at o |-;have n:=zh (n2 k l);clear c i j q l E t u k m;go_wp2_with fail;refine (show Calls _ _ _ _ _ from o).mono ?_;rintro e H ⟨rfl,F,a,f,d⟩;have z:=zh (n3 a f d);clear a f d;go_wp2;go_ret;obtain⟨a,f,d⟩:=z.out;exact⟨.slice (some ⟨g,0,none⟩) G cap,F,rfl,⟨b.1.perm a,.inr ⟨g,cap,by rw[a.length_eq,<-n.out.1],B,by rw[a.length_eq];exact n.2,f⟩⟩,b.2.trans d sO⟩
structure ReadH(D:DataW Unit)(hs:List HL):Prop where
 len:hs.length≤Maps.size D
 are:∀ h∈hs,h.p=none∧∃ x,Maps.has D (χ x)=true∧∀ zd,D.atKey (χ x) zd=qG8 h
 all:∀ kl,Maps.has D kl=true→∃ h∈hs,h.p=none∧∀ zd,D.atKey kl zd=qG8 h
theorem xP5(V:Nat)(hs)(h):qM9 V (hs++[h])=qM9 V hs++tcs V h:=by simp[qM9]
theorem kN6(St T:Nat)(lk:Int)(s)(D)(w)(y:w.heap[St]?=some (θ lk s))(M:RM w s.V s.M T D)(h4:Maps.size D<=4):
  Calls prog 113 #[.pointer (some ⟨St,0,none⟩)] w λe V=>∃ v a,e=.returned v/\V.ownsRow w.heap.size 89 5 v a.length (qM9 s.V a)/\ReadH D a/\Kp [] w V:=by
 obtain⟨i0,ab,ag,ah,ai⟩:=info_parts xD9;have aa:=ζ y;have U:=ξ y 10;simp only[θ,zG,zH,zI] at U;have HS:=zh y;have K:=zh M;clear y M;go_enter func113,ntmps113;go_wp2_with fail;refine (jV4 s.M w).mono ?_;rintro e w1 ⟨rfl,J⟩;have L:Ϙ w1 w.heap.size (.cells #[.map (some s.M)] 167):=by rw[J];exact υ _ _
 have G:Kp [] w w1:=by rw[J];exact (Kp.refl _ _).alloc _
 clear J;go_wp2_with fail;refine (kN2 w.heap.size s.M s.V T D h4 w1 L (K.out.kp G sM)).mono ?_;rintro e m ⟨v,ks,rfl,⟨hku,hv⟩,hK2⟩;have C:=zh (G.tr hK2);have ae:=C.out.size;have n:=zh hku;obtain⟨o,p,af⟩:∃ o p,v=.slice o ks.length p:=by
  rcases hv with⟨b,k⟩|⟨g,cap,b,_⟩
  .exact⟨none,0,by rw[b,k];rfl⟩
  .exact⟨_,cap,b⟩
 subst af;obtain⟨c,A⟩:=eX ks.length;have F:Hid (c=ks.length/\((Value.slice o c p=.slice none 0 0/\ks=[])\/∃ g cap,Value.slice o c p=.slice (some ⟨g,0,none⟩) c cap/\w1.heap.size<=g/\ks.length<=cap/\RowU m g ks cap)):=⟨A,by rw[A];exact hv⟩;rw[<-A];have ao:c<=4:=by have:=hku.2.2;omega
 clear A hv hku L G hK2;go_wp2_with fail
 go_loopw [3,13] (λlv i wr=>∃ (j:Nat) (a:List HL),j<=c/\i=.int .i64 j/\a.length=j/\Hid (wr.ownsRow m.heap.size 89 5 lv j (qM9 s.V a))/\Hid (∀ q (b:q<a.length) (k:q<ks.length),a[q].p=none/\∀ zd,D.atKey (χ ks[q]) zd=qG8 a[q])/\Hid (Kp [] m wr)) (λ_ i _=>c-(intOf i).toNat)
 case atStart=>exact⟨0,[],Nat.zero_le _,rfl,rfl,World.ownsRow_nil _ _ _ _,λq b=>by simp at b,Kp.refl _ _⟩
 case round=>
  obtain⟨j,a,an,rfl,z,E,B,f⟩:=hrel;by_cases ap:j<c
  .have ac:(j:Int)<(c:Int):=oM
   have r:j<ks.length:=by have:=F.out.1;omega
   obtain⟨g,cap,hve,hgb,hcap,⟨cur,hc,hsz,hcur⟩⟩:∃ g cap,Value.slice o c p=.slice (some ⟨g,0,none⟩) c cap/\w1.heap.size<=g/\ks.length<=cap/\RowU m g ks cap:=by
    rcases F.out.2 with⟨_,k⟩|h
    .rw[k] at r;simp at r
    .exact h
   cases hve;have W:=ξ (f.out.hp hc) j;rw[hcur j r] at W;have am:=ζ (f.out.hp hc);have t:=C.out.tr f.out;have H:=t.hp HS.out;have al:=ζ H;have aj:=ξ H 10;simp only[θ,zG,zH,zI] at aj;obtain⟨l,I,S,N⟩:=(K.out.kp t sM).look (n.out.1 _ (List.getElem_mem r)).1 (n.out.1 _ (List.getElem_mem r)).2;have R:l.ptr=none:=by simp[HL.ptr,I]
   rw[τ,R] at S;have X:=zh (n2 I N);have ak:=zh t;obtain⟨kj,P⟩:=eX (ks[j]);rw[<-P] at W S;clear hc hcur H N I t P;clear aa U
   go_wp2_with (at_builtin;refine wpList_append_own _ rfl _ _ 175 rfl m.heap.size 89 i0 (.agg #[.pointer none,.string ⟨#[]⟩,ϊ 0,.int .u64 0,.pointer none]) 5 48 underlying175 ab ag ah ai rfl dC _ _ _ rfl (E.out.alloc _) ⟨wr.heap.size,0,none⟩ 1 1 [ϖ s.V,.string l.key,ϊ l.b,.int .u64 l.s,.pointer none] rfl rfl ?_ (by simp[Value.oneCell']) (by unfold maxLen;omega) oM (by have:=f.out.size;simp;omega) ?_)
   .intro q u hu;rw[qG4,ξ (υ _ _)];simpa using hu
   .intro v1 w3 Q O _;have Z:Hid (w3.ownsRow m.heap.size 89 5 v1 (j+1) (qM9 s.V (a++[l]))):=by
     show World.ownsRow _ _ _ _ _ _ _;rw[xP5,tcs,R];exact Q
    have Y:=zh ((f.out.alloc _).grown O (λq d=>Or.inr (by have:=qI6 E.out q d;omega)));clear Q O;go_wp2;refine⟨⟨j+1,a++[l],oM,by go_num,by simp[z],Z,λq b k=>?_,Y⟩,by simp[intOf];omega⟩;by_cases d:q<a.length
    .rw[List.getElem_append_left d];exact B.out q d k
    .have e:q=j:=by simp at b;omega
     subst e;rw[List.getElem_append_right oM];simpa [z] using X.out
  .have ac:¬(j:Int)<(c:Int):=oM
   have ad:j=ks.length:=by have:=F.out.1;omega
   subst ad;go_wp2;go_ret;refine⟨_,rfl,a,by rw[z];exact qK4 E.out ae,⟨by rw[z];exact n.out.2.2,λh hm=>?_,λkl hk=>?_⟩,C.out.tr f.out⟩
   .obtain⟨q,d,rfl⟩:=List.getElem_of_mem hm;have b:=B.out q d oM;exact⟨b.1,ks[q]'oM,(n.out.1 _ (List.getElem_mem oM)).1,b.2⟩
   .obtain⟨x,hx,rfl⟩:=n.out.2.1 kl hk;obtain⟨q,d,rfl⟩:=List.getElem_of_mem hx;have b:=B.out q oM d;exact⟨a[q]'oM,List.getElem_mem oM,b.1,b.2⟩
def Sto.cmt(s:Sto)(qb qs bl:Int):Sto:={ s with N:=s.N+1+1,rb:=qb,rs:=qs,bl:=bl }
def qC8:Root→List Nat→HL × List (Nat × List UInt8)
 | .none,_=>(⟨⟨#[]⟩,0,0,none⟩,[])
 | .at n L,fr=>(lhl (ψ n L fr).1,(ψ n L fr).2.1)
def qW2(s:Sto):HL:=⟨⟨#[]⟩,s.rb,s.rs,none⟩
def OkR:Root→Prop
 | .none=>True
 | .at n L=>OkL n L
theorem zO3{N:Nat}{rt}{a}(g:OkR rt)(f:rt.news<=a.length)(e:∀ b∈a,b<N):∀ x∈(qC8 rt a).2,x.1<N/\x.2.length=128:=by
 cases rt with
 | none=>intro x c;simp[qC8] at c
 | «at» n L=>
  intro x c;refine⟨e x.1 ?_,zO6 n L a g x c⟩;have d:x.1∈((ψ n L a).2.1).map Prod.fst:=List.mem_map_of_mem c;rw[zO5 n L a f] at d;exact mT d
theorem kJ6(V A N C:Nat)(l)(a:Int)(E)(u:∀ (n b:Nat) (s:Int) (t),E.O n b s t->b<=1000000/\0<=s)(f:V≠A)(c:C≠A)(g:V≠C)(d:N<=1000)(p:N*128<=l.length)(rt)(h)(fr)(v)(w)(i:Devl V A N C l a w)(o:RR E w h rt)(m:OkR rt)(k:rt.news<=fr.length)(j:∀ b∈fr,b<N)(y:fr.length<=10000)(q:Slc w 3 1 v fr.length (qH5 fr)):
  Calls prog 115 #[τ V h,v] w λe r=>e=.returned (.agg #[.int .i64 (qC8 rt fr).1.b,.int .u64 (qC8 rt fr).1.s])/\Devl V A N C (laidAll l (qC8 rt fr).2) (nk a (qC8 rt fr).2.length) r/\Kp [A,C] w r:=by
 cases rt with
 | none=>
  have x:h=⟨⟨#[]⟩,0,0,none⟩:=o;subst x;exact kP3 V A N C l a f c g d p fr v w i q
 | «at» n L=>
  exact kP4 V A N C l a E.O u f c g d p n h L fr v w i o m k j y q (zO3 (rt:=.at n L) m k j)
theorem kD8{w:World}{a b:Nat}{c d:Array Value}{g h:Nat × Nat}(i:w.heap[a]?=some (.cells c 169 g))(f:w.heap[b]?=some (.cells d 115 h)):a≠b:=λe=>by
 subst e;rw[i] at f;simp at f
open Go.ChangeMaps
theorem kJ7(E:SEnv)(hO:∀ (n b:Nat) (s:Int) (t:Tn n),E.O n b s t->b<=1000000)(A N:Nat)(h:HL)(rt:Root)(v:Value)(a:List HL)(rs:List Root)(w:World)(hd:E.Dev w)(hv:Slc w 89 5 v a.length (qM9 E.V a))(hl:a.length=rs.length)(hr:∀ i (d:i<a.length) (q:i<rs.length),RR E.toEnv w a[i] rs[i]/\(∀ n l,rs[i]=.at n l->l.key=⟨#[]⟩))(a1:RR E.toEnv w h rt)(av:∀ n l,rt=.at n l->l.key=⟨#[]⟩)(hc:qC9 rt+meas qC9 rs<1000000)(hn:a.length<=1000)
  (hV:∀ W,E.Dev W->W.heap[E.V]?=some (qE4 A N)) (bd:2<=N) (hN:N<=1000)
  (ax:∀ W,E.Dev W->RR E.toEnv W h rt->Calls prog 76 #[τ E.V h] W λe z=>e=.returned (.int .i64 (rt.news:Int))/\Kp [] W z) (bi:rt.news<=1000000):
  Calls prog 112 #[τ E.V h,v] w λe z=>((∃ vf,e=.returned (.tuple #[vf,.int .i64 (((qA4 [] rt).length+rt.news:Nat):Int)])/\rt.news<=(qB9 N (rs.foldl qA4 (qA4 [] rt))).length/\Slc z 3 1 vf (qB9 N (rs.foldl qA4 (qA4 [] rt))).length (qH5 (qB9 N (rs.foldl qA4 (qA4 [] rt)))))\/(e=qB5 (some 3)/\(qB9 N (rs.foldl qA4 (qA4 [] rt))).length<rt.news))/\E.Dev z/\Kp E.S w z:=by
 obtain⟨bs,cp,rfl⟩:=qO8 hv;obtain⟨ln,ab⟩:=eX a.length;have HV:=zh hv;rw[<-ab];have a4:=zh ab;have HR:=zh hr;have B:=zh hd;have S:=zh (n2 a1 av);have ag:=zh ax;clear hv ab hr hd a1 av ax;rw[τ];go_enter func112,ntmps112;have bh:=@run_makeMap prog;go_wp2_with fail;obtain⟨W,Y,V,bc,aj,D,bm⟩:=qY0 w (.cells (ϟ E.V h) 89) (.map #[] 0) (.cells (ϟ E.V h) 89);have L:BS W (w.heap.size+1) 0 []:=by
  have d:=(BS.made (w.alloc (.cells (ϟ E.V h) 89))).kp ((Kp.refl [] _).alloc (.cells (ϟ E.V h) 89)) sM;rw[<-Y] at d;simpa using d
 rw[<-Y];clear Y bh;have C:=(Env.To.of0 B D).dev;have ad:=RR.kp S.1 D (Apt.nil _ _);refine (zW2 E hO (w.heap.size+1) 0 [] (.slice (some ⟨w.heap.size+1+1,0,none⟩) 1 1) [h] [rt] W C ⟨rfl,Or.inr ⟨w.heap.size+1+1,0,1,_,_,rfl,lR,lR,aj,λj u hu=>by simpa [qM9,tcs] using hu⟩⟩ rfl (λi d q=>by have e:=(by simpa using d);subst e;exact⟨ad,S.2⟩) L (by simp[qC1,qD6];omega) sM).mono ?_;rintro e w1 ⟨rfl,y,ak,F⟩;simp only[List.foldl_cons,List.foldl_nil,qC1,qD6,Nat.zero_add,Nat.add_zero] at y;have au:=zC7 E C L;have J:=F.heap V (qQ6 E C L V dC);have ay:=RR.kp ad F au;have aw:=y.len 3;have bf:=y.card;have t:=ξ J;have bj:=ζ J;obtain⟨k1,aa⟩:=eX ((qA4 [] rt).length);rw[<-aa] at aw bf;obtain⟨nw,ac⟩:=eX rt.news;have o:=zh (n2 aa ac);have a5:=zh y;have ae:=zh ak;have bb:Hid (Kp E.S w w1):=(D.mono sM).trans F (λi g bg=>by rcases List.mem_cons.1 g with rfl | g;omega;exact g);have ba:=zh J;have a6:=zh ay;clear y ak F J ay aa au ad C L D V bc aj;rw[<-ac] at bi;clear ac;go_wp2_with fail;refine (show Calls _ _ _ _ _ from ag w1 ae a6).mono ?_;rintro e w2 ⟨rfl,r⟩;rw[<-o.out.2];have ao:=a5.out.kp r sM;have al:=(Env.To.of0 ae r).dev;have aq:=r.hp ba.out;have I:=bb.out.tr r;have ar:Apt w E.S [89]:=λk hk c t fr e hm=>E.nin B e (by rw[mS hm];decide) hk;have a2:=HV.out.keep I ar;have a8:Hid (∀ i (d:i<a.length) (q:i<rs.length),RR E.toEnv w2 a[i] rs[i]/\(∀ n l,rs[i]=.at n l->l.key=⟨#[]⟩)):=λi d q=>⟨RR.kp (HR i d q).1 I (E.apt w B),(HR i d q).2⟩;have R:=zh ao;have P:=zh al;have ai:=zh I;have ah:=zh aq;have a9:=zh a2;clear ao al aq I a2 r ar t aw;go_wp2_with fail;refine (show Calls _ _ _ _ _ from (by rw[a4.out];exact zW2 E hO (w.heap.size+1) (qC9 rt) (qA4 [] rt) (.slice bs a.length cp) a rs w2 P a9 hl a8 R hc hn:Ω 170 #[.map (some (w.heap.size+1)),.slice bs ln cp] w2 _)).mono ?_;rintro e w3 ⟨rfl,ap,U,G⟩;have K:=G.heap ah (qQ6 E P R ah dC);have az:=RR.kp (RR.kp S.1 ai (E.apt w B)) G (zC7 E P R);have an:=ai.out.trans G (λi g bg=>by rcases List.mem_cons.1 g with rfl | g;omega;exact g);have t:=ξ K;have be:=ζ K;go_wp2_with fail;refine (kF6 (w.heap.size+1) _ E.V A N _ w3 ap (hV w3 U) bd hN).mono ?_;rintro e w4 ⟨vf,rfl,O,x⟩;obtain⟨f,Z⟩:=eX (qB9 N (rs.foldl qA4 (qA4 [] rt)));rw[<-Z] at O;obtain⟨fb,T,rfl⟩:=qO8 O;obtain⟨p,M⟩:=eX f.length;have X:=x.hp K;have t4:=ξ X;have bk:=ζ X;have am:=(Env.To.of0 U x).dev;have a0:=RR.kp az x (Apt.nil _ _);have m:Hid (Slc w4 3 1 (.slice fb p T) f.length (qH5 f)/\p=f.length/\f=qB9 N (rs.foldl qA4 (qA4 [] rt))):=⟨by rw[M];exact O,M,Z⟩;rw[<-M];have af:=zh am;have a3:=zh (an.tr x);have a7:=zh a0;clear t K ap U G az an O x X am a0 Z M be;go_wp2_with fail;refine (show Calls _ _ _ _ _ from ag w4 af a7).mono ?_;rintro e w5 ⟨rfl,H⟩;rw[<-o.out.2];have Q:=hid (show Slc w5 3 1 (.slice fb p T) f.length (qH5 f)/\E.Dev w5/\Kp E.S w w5 from⟨m.1.keep0 H,(Env.To.of0 af H).dev,a3.tr H⟩);clear H t4;by_cases bl:(p:Int)<(nw:Int)
 .go_wp2;exact⟨rfl,rfl,.inr ⟨rfl,by rw[<-m.out.2.2,<-m.out.2.1,<-o.out.2];omega⟩,Q.2⟩
 .go_wp2
  go_ret2
  refine⟨.inl ⟨.slice fb p T,?_,?_,?_⟩,Q.2⟩
  .rw[<-o.out.1,<-o.out.2,Int.natCast_add];rfl
  .rw[<-m.out.2.2,<-m.out.2.1,<-o.out.2];omega
  .rw[<-m.out.2.2];exact Q.1
variable {κ:Nat}
theorem jR8(N rb rs:Int):(qB8 N rb rs).take 32=toB (qJ0 N rb rs):=by
 have h:(toB (qJ0 N rb rs)).length=32:=by rw[qR1,zS6]
 rw[qB8,List.take_append_of_le_length oM,tL oM]
theorem zM9(N rb rs:Int):qB8 N rb rs=toB qK8++(toB (qB4 2 rb)++(toB (qB4 8 N)++(toB (qB4 8 rs)++(toB (qB4 8 (fnv (qO1 N rb rs)))++List.replicate 96 0)))):=by
 simp only[qB8,qJ0]
 conv=>lhs;rw[qO9]
 simp only[qO1,qO9,aA]
theorem jR6(N rb rs:Int)(a:0<=N)(b:N<=2000000000):qI1 (qH8 (((qB8 N rb rs).drop 8).take 8))=N:=by
 have e:((qB8 N rb rs).drop 8).take 8=toB (qB4 8 N):=by
  rw[zM9,<-aA (toB qK8)];exact zL5 _ _ _ 8 8 (by simp[qR1,qI0,qK8]) (by simp[qR1,qI0])
 rw[e,qU9 _ (qM6 8 N),qQ7 8 N dC a];have:(256:Int) ^ 8=18446744073709551616:=dC
 omega
theorem jR5(N rb rs:Int)(a:0<=rb)(b:rb<=1000):qI1 (qH8 (((qB8 N rb rs).drop 6).take 2))=rb:=by
 have e:((qB8 N rb rs).drop 6).take 2=toB (qB4 2 rb):=by
  rw[zM9];exact zL5 _ _ _ 6 2 (by simp[qR1,qK8]) (by simp[qR1,qI0])
 rw[e,qU9 _ (qM6 2 rb),qQ7 2 rb dC a];have:(256:Int) ^ 2=65536:=dC
 omega
theorem jR7(N rb rs:Int)(a:0<=rs)(b:rs<18446744073709551616):qI1 (qH8 (((qB8 N rb rs).drop 16).take 8))=rs:=by
 have e:((qB8 N rb rs).drop 16).take 8=toB (qB4 8 rs):=by
  rw[zM9,<-aA (toB qK8),<-aA (toB qK8++toB (qB4 2 rb))];exact zL5 _ _ _ 16 8 (by simp[qR1,qI0,qK8]) (by simp[qR1,qI0])
 rw[e,qU9 _ (qM6 8 rs),qQ7 8 rs dC a];have:(256:Int) ^ 8=18446744073709551616:=dC
 omega
structure HeadOk(i:Nat)(N rb rs:Int):Prop where
 place:N % 2=(i:Int)
 n0:0≤N
 n1:N≤2000000000
 b0:0≤rb
 b1:rb≤1000
 s0:0≤rs
 s1:rs<18446744073709551616
theorem zQ3(l)(h:l.length<=8):0<=qI1 (qH8 l)/\qI1 (qH8 l)<(256:Int) ^ l.length:=by
 have a:=xX7 l;rw[zQ2 _ a (by rw[zK3];exact h)];have:=zQ4 _ a
 rwa [zK3] at this
def Valid(l:List UInt8)(i:Nat)(N rb rs:Int):Prop:=qI1 (qH8 (((qB3 l i).drop 8).take 8))=N∧qI1 (qH8 (((qB3 l i).drop 6).take 2))=rb∧qI1 (qH8 (((qB3 l i).drop 16).take 8))=rs∧N % 2=(i:Int)∧toB (qJ0 N rb rs)=(qB3 l i).take 32
theorem qX1(x:List UInt8)(a b:Nat)(h:a+b<=32):(x.drop a).take b=((x.take 32).drop a).take b:=by rw[List.drop_take,List.take_take,Nat.min_eq_left oM]
theorem Valid.laid{l}{i:Nat}{N rb rs:Int}(b:(qB3 l i).take 32=(qB8 N rb rs).take 32)(a:HeadOk i N rb rs):Valid l i N rb rs:=by
 refine⟨?_,?_,?_,a.place,?_⟩
 .rw[qX1 _ 8 8 oM,b,<-qX1 _ 8 8 oM];exact jR6 N rb rs a.n0 a.n1
 .rw[qX1 _ 6 2 oM,b,<-qX1 _ 6 2 oM];exact jR5 N rb rs a.b0 a.b1
 .rw[qX1 _ 16 8 oM,b,<-qX1 _ 16 8 oM];exact jR7 N rb rs a.s0 a.s1
 .rw[b,jR8]
def qL2(l:List UInt8)(i:Nat):Option (Int × Int × Int)→Prop
 | some h=>Valid l i h.1 h.2.1 h.2.2
 | none=>∀ N rb rs,¬Valid l i N rb rs
def qN4:Option (Int × Int × Int)→Value
 | some h=>qI8 h.1 h.2.1 h.2.2
 | none=>qI8 0 0 0
def qU2(N N':Int):Bool:=decide (0<wrap64 (IntKind.u64.wrap (N-N')))
theorem kC6{N a:Int}(h:N=a+1):qU2 N a=true/\qU2 a N=false:=by
 have b:N-a=1:=oM
 have c:a-N=-1:=oM
 unfold qU2;rw[b,c];refine⟨?_,?_⟩<;>simp only[wrap64,IntKind.wrap_u64]<;>decide
theorem kC7(N f a b c d:Int)(w):
  Calls prog 206 #[.agg #[.int .u64 N,.int .i64 a,.int .u64 b],.agg #[.int .u64 f,.int .i64 c,.int .u64 d]] w λe g=>e=.returned (.bool (qU2 N f))/\Below w.heap.size w g:=by
 go_enter func206,ntmps206;go_wp2;go_ret;exact⟨rfl,((Below.refl _ _).alloc lR _).alloc sM _⟩
def qK2:Option (Int × Int × Int)→Option (Int × Int × Int)→Option (Int × Int × Int)
 | a,none=>a
 | none,some b=>some b
 | some a,some b=>if qU2 b.1 a.1 then some b else some a
def Heads(l:List UInt8)(N rb rs:Int):Prop:=∃ d0 d1,qL2 l 0 d0∧qL2 l 1 d1∧qK2 d0 d1=some (N,rb,rs)
theorem Heads.next{l}{i j:Nat}{N a rb rs b c:Int}(d:Valid l i N rb rs)(e:Valid l j a b c)(h:a=N+1)(n:i<2)(o:j<2):Heads l a b c:=by
 have k:=d.2.2.2.1;have m:=e.2.2.2.1;have f:=kC6 h;have g:(i=0/\j=1)\/(i=1/\j=0):=oM
 rcases g with⟨rfl,rfl⟩|⟨rfl,rfl⟩
 .exact⟨some (N,rb,rs),some (a,b,c),d,e,by simp[qK2,f.1]⟩
 .exact⟨some (a,b,c),some (N,rb,rs),e,d,by simp[qK2,f.2]⟩
theorem Heads.made{l}{i j:Nat}{N rb rs a b:Int}(c:qB3 l i=qB8 (N+1) rb rs)(d:qB3 l j=qB8 (N+1+1) a b)(e:i<2)(f:j<2)(g:HeadOk i (N+1) rb rs)(h:HeadOk j (N+1+1) a b):Heads l (N+1+1) a b:=
 Heads.next (Valid.laid (by rw[c]) g) (Valid.laid (by rw[d]) h) rfl e f
variable {κ:Nat}
theorem xB4(V A n C:Nat)(b k:Int)(i:Nat)(l)(a:Option (Int × Int × Int))(w)(y:w.heap[V]?=some (qE4 A n))(h:w.heap[A]?=some (qA8 κ n C (.slice none 0 0) b k))
  (B:i<n) (D:n<=1000) (x:w.heap[C]?=some (.cells (enc l) 115)) (E:n*128<=l.length) (v:C≠A) (z:V≠A) (g:qL2 l i a):
  Calls prog 205 #[.pointer (some ⟨V,0,none⟩),.int .i64 i] w λe j=>e=.returned (.tuple #[qN4 a,.bool a.isSome])/\
   j.heap[A]?=some (qA8 κ n C (.slice none 0 0) (nx b) k)/\Kp [A] w j:=by
 have I:(256:Int) ^ 2=65536:=dC
 have t:(256:Int) ^ 8=18446744073709551616:=dC
 have J:(qB3 l i).length=128:=by simp[qB3];omega
 have F:(((qB3 l i).drop 8).take 8).length=8:=by rw[lK,lD];omega
 have G:(((qB3 l i).drop 6).take 2).length=2:=by rw[lK,lD];omega
 have H:(((qB3 l i).drop 16).take 8).length=8:=by rw[lK,lD];omega
 have m:=zQ3 (((qB3 l i).drop 8).take 8) oM;have o:=zQ3 (((qB3 l i).drop 6).take 2) oM;have p:=zQ3 (((qB3 l i).drop 16).take 8) oM;rw[F,t] at m;rw[G,I] at o;rw[H,t] at p;refine (jM3 V A n C b k i l _ _ _ w y h B D x E v z rfl rfl rfl m.1 o.1 oM p.1 a.isSome ?_).mono ?_
 .cases a with
  | some a=>
   obtain⟨c,d,f,q,r⟩:=g;rw[c,d,f];simp[q,r]
  | none=>
   symm
   show _=false;rw[Bool.and_eq_false_iff];by_cases s:qI1 (qH8 (((qB3 l i).drop 8).take 8)) % 2=(i:Int)
   .right;rw[beq_eq_false_iff_ne];intro e;exact g _ _ _ ⟨rfl,rfl,rfl,s,e⟩
   .left;simpa using s
 .rintro e j ⟨rfl,u,hK⟩;refine⟨?_,u,hK⟩
  cases a with
  | some a=>
   obtain⟨c,d,f,q,r⟩:=g;rw[c,d,f];simp[qN4]
  | none=>simp[qN4]
theorem zP9(V A n C:Nat)(Q F:Int)(l)(j f:Option (Int × Int × Int))(w)(hV:w.heap[V]?=some (qE4 A n))(h:w.heap[A]?=some (qA8 κ n C (.slice none 0 0) Q F))
  (ay:8<=n) (hn:n<=1000) (hC:w.heap[C]?=some (.cells (enc l) 115)) (hs:n*128<=l.length) (Z:C≠A) (ac:V≠A) (ak:qL2 l 0 j) (al:qL2 l 1 f):
  Calls prog 140 #[.pointer (some ⟨V,0,none⟩)] w λe x=>e=.returned (.tuple #[qN4 (qK2 j f),.bool (qK2 j f).isSome])/\
   x.heap[A]?=some (qA8 κ n C (.slice none 0 0) (nx (nx Q)) F)/\Kp [A] w x:=by
 have ax:=ζ hV;have hA:=ζ h;have ao:=ζ hC;obtain⟨i,D,E,z,K,I⟩:∃ i D E z,qN4 j=.agg #[.int .u64 i,ϊ D,.int .u64 E]/\j.isSome=z:=by cases j<;>exact⟨_,_,_,_,rfl,rfl⟩
 obtain⟨d,p,r,B,O,J⟩:∃ d p r B,qN4 f=.agg #[.int .u64 d,ϊ p,.int .u64 r]/\f.isSome=B:=by cases f<;>exact⟨_,_,_,_,rfl,rfl⟩
 have U:∀ W G,Hid (Ϙ W V (qE4 A n)->Ϙ W A (qA8 κ n C (.slice none 0 0) G F)->Ϙ W C (.cells (enc l) 115)->(Ω 205 #[ϖ V,ϊ 0] W λe x=>e=ϱ (.tuple #[.agg #[.int .u64 i,ϊ D,.int .u64 E],.bool z])/\Ϙ x A (qA8 κ n C (.slice none 0 0) (nx G) F)/\Kp [A] W x)/\(Ω 205 #[ϖ V,ϊ 1] W λe x=>e=ϱ (.tuple #[.agg #[.int .u64 d,ϊ p,.int .u64 r],.bool B])/\Ϙ x A (qA8 κ n C (.slice none 0 0) (nx G) F)/\Kp [A] W x)):=λW G g2 g3 g4=>by
  have k0:=xB4 V A n C G F 0 l j W g2 g3 oM hn g4 hs Z ac ak;have k1:=xB4 V A n C G F 1 l f W g2 g3 oM hn g4 hs Z ac al;rw[K,I] at k0;rw[O,J] at k1;exact⟨k0,k1⟩
 have X:Hid (∀ q,(B=true->z=true->qU2 d i=q)->qN4 (qK2 j f)=(if B && (!z || q) then .agg #[.int .u64 d,ϊ p,.int .u64 r] else .agg #[.int .u64 i,ϊ D,.int .u64 E])/\(qK2 j f).isSome=(B || z)):=λq hq=>by
  cases j with
  | none=>
   cases f with
   | none=>subst I;subst J;exact⟨by simpa [qK2] using K,rfl⟩
   | some b=>subst I;subst J;exact⟨by simpa [qK2] using O,rfl⟩
  | some a=>
   cases f with
   | none=>subst I;subst J;exact⟨by simpa [qK2] using K,rfl⟩
   | some b=>
    subst I;subst J;have e0:a.1=i:=by have h:=K;simp[qN4,qI8] at h;exact h.1
    have e1:b.1=d:=by have h:=O;simp[qN4,qI8] at h;exact h.1
    have N:=hq rfl rfl;rw[<-e0,<-e1] at N
    cases q with
    | true=>exact⟨by simpa [qK2,N] using O,by simp[qK2,N]⟩
    | false=>exact⟨by simpa [qK2,N] using K,by simp[qK2,N]⟩
 clear ak al K O I J;go_enter func140,ntmps140;go_wp2_with fail;refine ((U _ Q).out (ν _ hV) (ν _ h) (ν _ hC)).1.mono ?_;rintro e w1 ⟨rfl,Y,L⟩;have ab:=L.heap (υ w (.cells #[.int .u64 0,ϊ 0,.int .u64 0] 166)) sO;have aj:=L.heap (ν _ hV) (by simp[ac]);have ag:=L.heap (ν _ hC) (by simp[Z]);have ah:Kp [A] w w1:=(kF.alloc _).tr L;have am:=ζ Y;have au:=ζ ab;clear L;go_wp2_with fail;refine ((U _ (nx Q)).out (ν _ aj) (ν _ Y) (ν _ ag)).2.mono ?_;rintro e w2 ⟨rfl,R,M⟩;have c:=M.heap (ν _ ab) sO;have s:=M.heap (υ w1 (.cells #[.int .u64 i,ϊ D,.int .u64 E] 166)) sO;have aa:=ah.trans (((Kp.refl [A] _).alloc _).tr M) sM;have az:=M.size;have ap:=ζ s;have av:=ζ c;have an:=ζ R;clear M ah ab aj ag Y U
 cases B with
 | false=>
  have k:=ξ c 0;have m:=ξ c 1;have o:=ξ c 2;have P:=φ c;have t:=ξ s 0;have u:=ξ s 1;have v:=ξ s 2;simp at k m o t u v;go_wp2;have y:=ν (.cells #[.int .u64 d,ϊ p,.int .u64 r] 166) (μ (μ (μ c 0 (.int .u64 i)) 1 (ϊ D)) 2 (.int .u64 E));refine bodyPost_ret (qU6 results140 _ _ w.heap.size 166 _ _ _ rfl y underlying166 rfl kR) rfl ⟨by have h:=X.out true sM;simp only[Bool.false_and,Bool.false_or] at h;rw[h.1,h.2];rfl,?_,(((aa.sc _).sc _).sc _).alloc _⟩;exact ν _ ((qB1 oM _ _).trans ((qB1 oM _ _).trans ((qB1 oM _ _).trans R)))
 | true=>
  cases z with
  | false=>
   have k:=ξ c 0;have m:=ξ c 1;have o:=ξ c 2;have P:=φ c;simp at k m o;go_wp2;have y:=ν (.cells #[.int .u64 d,ϊ p,.int .u64 r] 166) (μ (μ (μ c 0 (.int .u64 d)) 1 (ϊ p)) 2 (.int .u64 r));refine bodyPost_ret (qU6 results140 _ _ w.heap.size 166 _ _ _ rfl y underlying166 rfl kR) rfl ⟨by have h:=X.out true sM;simp only[Bool.not_false,Bool.true_or,Bool.and_self,Bool.or_false] at h;rw[h.1,h.2];rfl,?_,(((aa.sc _).sc _).sc _).alloc _⟩;exact ν _ ((qB1 oM _ _).trans ((qB1 oM _ _).trans ((qB1 oM _ _).trans R)))
  | true=>
   have k:=ξ c 0;have m:=ξ c 1;have o:=ξ c 2;have P:=φ c;have t:=ξ s 0;have u:=ξ s 1;have v:=ξ s 2;simp at k m o t u v;go_wp2_with fail;refine (kC7 _ _ _ _ _ _ _).mono ?_;obtain⟨q,ad⟩:=eY (qU2 d i);rw[ad];have HR:=hid (X q (λ_ _=>ad));clear ad;rintro e w3 ⟨rfl,af⟩;have H:=Kp.of_below af lR;have g:=H.heap (ν _ c) sM;have ae:=H.heap (ν _ R) sM;have S:=H.heap (ν _ s) sM;have T:=H.heap (υ w2 (.cells #[.int .u64 d,ϊ p,.int .u64 r] 166)) sM;have ai:=(aa.alloc _).tr H;have aw:=ζ g;have aq:=ζ S;have ar:=ζ T;clear af H k m o t u v P
   cases q with
   | false=>
    have k:=ξ g 0;have m:=ξ g 1;have o:=ξ g 2;have P:=φ g;have t:=ξ S 0;have u:=ξ S 1;have v:=ξ S 2;simp at k m o t u v;go_wp2;have y:=μ (μ (μ g 0 (.int .u64 i)) 1 (ϊ D)) 2 (.int .u64 E);refine bodyPost_ret (qU6 results140 _ _ w.heap.size 166 _ _ _ rfl y underlying166 rfl kR) rfl ⟨by have h:=HR.out;simp only[Bool.not_true,Bool.or_self,Bool.and_false,Bool.or_true] at h;rw[h.1,h.2];rfl,?_,((ai.sc _).sc _).sc _⟩;exact (qB1 oM _ _).trans ((qB1 oM _ _).trans ((qB1 oM _ _).trans ae))
   | true=>
    have k:=ξ g 0;have m:=ξ g 1;have o:=ξ g 2;have P:=φ g;have t:=ξ T 0;have u:=ξ T 1;have v:=ξ T 2;simp at k m o t u v;go_wp2;have y:=μ (μ (μ g 0 (.int .u64 d)) 1 (ϊ p)) 2 (.int .u64 r);refine bodyPost_ret (qU6 results140 _ _ w.heap.size 166 _ _ _ rfl y underlying166 rfl kR) rfl ⟨by have h:=HR.out;simp only[Bool.or_true,Bool.and_self] at h;rw[h.1,h.2];rfl,?_,((ai.sc _).sc _).sc _⟩;exact (qB1 oM _ _).trans ((qB1 oM _ _).trans ((qB1 oM _ _).trans ae))
theorem kC8(V A n C:Nat)(a b:Int)(l)(N rb rs:Int)(w)(p:w.heap[V]?=some (qE4 A n))(h:w.heap[A]?=some (qA8 κ n C (.slice none 0 0) a b))
  (t:8<=n) (s:n<=1000) (o:w.heap[C]?=some (.cells (enc l) 115)) (u:n*128<=l.length) (m:C≠A) (q:V≠A) (r:Heads l N rb rs):
  Calls prog 140 #[.pointer (some ⟨V,0,none⟩)] w λe c=>e=.returned (.tuple #[.agg #[.int .u64 N,.int .i64 rb,.int .u64 rs],.bool true])/\
   c.heap[A]?=some (qA8 κ n C (.slice none 0 0) (nx (nx a)) b)/\Kp [A] w c:=by
 obtain⟨d,f,g,i,j⟩:=r;have k:=zP9 V A n C a b l d f w p h t s o u m q g i;rw[j] at k;exact k
end Go.Proofs.YtdohpenfkdckiaaGreatDoor
