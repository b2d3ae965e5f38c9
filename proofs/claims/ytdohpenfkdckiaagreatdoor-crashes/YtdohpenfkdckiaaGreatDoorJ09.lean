import Derived.Test.YtdohpenfkdckiaaGreatDoorJ08
import Derived.Test.YtdohpenfkdckiaaGreatDoorRows
import Derived.ChangeSame
import Derived.ChangeVars
import Derived.JoinedOf
import Derived.RowKit
import Derived.LaidLaws
import Derived.LaidHandle
import Derived.Deep.Slices
import Derived.Stop.Joined
import Derived.Lay
import Derived.LaidEqlPtr
import Derived.Maps.AppendAt
set_option linter.all false
set_option maxRecDepth 100000
set_option maxHeartbeats 0
namespace Go.Proofs.YtdohpenfkdckiaaGreatDoor
open Go.Proofs.Tryz Go.RowKit
def AY(pk:Option Addr)(nk ck:Nat)(pd:Option Addr)(nd cd:Nat):Obj:=.cells #[.slice pk nk ck,.slice pd nd cd] 70
def DA{S}{w w'}{base sz:Nat}{e}{v}{n:Nat}{xs:Ϩ}(h:w.ownsRow base e sz v n xs)(hK:Kp S w w')(k:Apart w S e):w'.ownsRow base e sz v n xs:=by
 refine⟨h.1,?_⟩;rcases h.2 with c|⟨g,cap,cur,d,f,a,i⟩
 .exact .inl c
 .refine .inr ⟨g,cap,cur,d,f,hK.heap a (λl=>?_),i⟩;let⟨m,u,o,b,j⟩:=k g l;rw[a]at b;cases b;exact j rfl
def Apart.nil(w)(t):Apart w [] t:=λ_ h=>by cases h
def Nv{w w'}{base:Nat}{S}(h:w.cell? (ϰ 0 0)=some Bd)(hK:Kp S w w')(d:0<base)(e:base<=w.heap.size)(b:∀k,k∈S->base<=k):w'.cell? (ϰ 0 0)=some Bd:=
 (hK.cell (a:=(ϰ 0 0)) sO (λc=>by have:=b _ c;simp at this;omega)).trans h
def ZF{α:Type}(R:α->α->Prop):∀l:List α,l.length<=1->l.Pairwise R
 | [],_=>List.Pairwise.nil
 | [_],_=>List.pairwise_singleton _ _
 | _::_::_,h=>by simp at h
def Ib{w:Ϣ}{base sz:Nat}{e:Ϯ}{p:Ϭ}{n c:Nat}{xs:Ϩ}(h:w.ownsRow base e sz (.slice p n c) n xs)(m:1<=n):∃g cur,p=some (ϰ g 0)/\base<=g/\w.heap[g]?=some (ϲ cur e (0,0))/\cur.toList.take (n*sz)=xs:=by
 rcases h.2 with⟨i,a⟩|⟨g,cap,cur,a,b,d,j,k,l,f⟩
 .omega
 .cases a;exact⟨g,cur,rfl,b,d,f⟩
def Zr(c:Nat)(k x y a b:Int)(s t)(w)(d:k<5):
  Ω 124 #[ϖ c,.agg #[ϊ k,ϊ x,ϊ y,ϊ a,ϊ b,ϕ s,ϕ t]] w λe w'=>e=ϱ (ϐ false)/\Kp [] w w':=by
 go_enter func124,ntmps124;go_wp2;go_ret;exact⟨rfl,kF.alloc _⟩
def Zp(c:Nat)(k x y a b:Int)(s t)(w)(d:9<k):
  Ω 124 #[ϖ c,.agg #[ϊ k,ϊ x,ϊ y,ϊ a,ϊ b,ϕ s,ϕ t]] w λe w'=>e=ϱ (ϐ false)/\Kp [] w w':=by
 go_enter func124,ntmps124;go_wp2;go_ret;exact⟨rfl,kF.alloc _⟩
def Zy(c:Nat)(k x y a b:Int)(s t)(w)(f:k<1):
  Ω 78 #[ϖ c,.agg #[ϊ k,ϊ x,ϊ y,ϊ a,ϊ b,ϕ s,ϕ t]] w λe w'=>e=ϱ (ϐ false)/\Kp [] w w':=by
 have:¬k=1:=oM
 have:¬k=2:=oM
 have:¬k=3:=oM
 have:¬k=4:=oM
 go_enter func78,ntmps78;go_wp2_with fail;refine mR (Zr c k x y a b s t _ oM) ?_;rintro g d;go_wp2;go_ret;exact⟨rfl,(kF.alloc _).tr d⟩
def Pq(c:Nat)(k x y a b:Int)(s t)(w)(f:9<k):
  Ω 78 #[ϖ c,.agg #[ϊ k,ϊ x,ϊ y,ϊ a,ϊ b,ϕ s,ϕ t]] w λe w'=>e=ϱ (ϐ false)/\Kp [] w w':=by
 have:¬k=1:=oM
 have:¬k=2:=oM
 have:¬k=3:=oM
 have:¬k=4:=oM
 go_enter func78,ntmps78;go_wp2_with fail;refine mR (Zp c k x y a b s t _ f) ?_;rintro g d;go_wp2;go_ret;exact⟨rfl,(kF.alloc _).tr d⟩
def JE:(prog.info? 3).map (λi=>(i.zero,i.size,i.bytes))=some (some (ϊ 0),1,8):=kR
def FP:(prog.info? 119).map (λi=>(i.zero,i.size,i.bytes))=some (some (ϗ none),1,8):=kR
def KH(w)(base g:Nat)(v)(n:Nat)(xs:Ϩ)(u)(t e ty)(z)(k:prog.underlying t=some (.slice e))(b:(prog.info? e).map (λi=>(i.zero,i.size,i.bytes))=some (some z,1,8))(m:z.cells.size=1)
  (h:w.ownsRow base e 1 v n xs) (y:n<=1000000) (d:w.heap[g]?=some (ϲ #[u] e)) (l:u.oneCell'=true) (c:base<=w.heap.size):
  ∃a w',Sem.run prog (Builtin.append_ #[t,t] ty #[v,.slice (some (ϰ g 0)) 1 1]) w=.ok a w'/\w'.ownsRow base e 1 a (n+1) (xs++[u])/\w.grownBy w' v.ownBlock:=by
 let⟨r,b,o,p,q⟩:=info_parts b;let⟨a,w',f,s,x,A⟩:=run_append_own (P:=prog) w base t ty e r _ 1 8 k b o p q m dC v n _ h (ϰ g 0) 1 1 [u] sM (λj v hv=>by
  rw[Br,Y d];simpa using hv) (sU l) (by unfold maxLen;omega) oM c
 exact⟨a,w',f,s,x⟩
def Lp(Z)(n:Nat)(h:Z.size=n)(a:∀v∈Z.toList,v=.int .u8 0):Z=enc (List.replicate n 0):=by
 apply Array.ext';have e:=List.eq_replicate_iff.2 ⟨sU h,a⟩;rw[e];simp[enc,Ay]
def UQ(a:Int):∃m:Nat,m<1000/\(∀w,Ω 122 #[ϊ a] w λe w'=>e=ϱ (ϊ m)/\w'=w)/\
  (∀w,Ω 41 #[ϊ a] w λe w'=>e=ϱ (ϖ (w.heap.size+1))/\w'=(w.alloc (ϲ (enc (List.replicate (m*128) 0)) 115)).alloc (DW m w.heap.size (.slice none 0 0) 0 0)):=by
 by_cases d:a<0
 .refine⟨0,oM,λw=>Sm a w d,λw=>(YI w a d).mono ?_⟩;rintro e w' ⟨rfl,Z,b,c,rfl⟩;exact⟨rfl,by rw[Lp Z _ b c]⟩
 .have f:=Int.emod_nonneg a (show(1000:Int)≠0 by decide);have:=Int.emod_lt_of_pos a (show(0:Int)<1000 by decide);refine⟨(a % 1000).toNat,oM,λw=>(Sl a w d).mono ?_,λw=>(OW (a % 1000).toNat w oM a oM oM).mono ?_⟩
  .rintro e w' ⟨rfl,rfl⟩;exact⟨by rw[Int.toNat_of_nonneg f],rfl⟩
  .rintro e w' ⟨rfl,Z,b,c,rfl⟩;exact⟨rfl,by rw[Lp Z _ b c]⟩
def Bg{w:Ϣ}{base sz:Nat}{e:Ϯ}{v:Value}{n:Nat}{xs:Ϩ}(h:w.ownsRow base e sz v n xs):∀k,k∈v.ownBlock.toList->base<=k/\∃c,w.heap[k]?=some (ϲ c e):=by
 intro k a;rcases h.2 with⟨rfl,_⟩|⟨g,cap,cur,rfl,b,d,f⟩
 .simp[Value.ownBlock]at a
 .simp[Value.ownBlock]at a;subst a;exact⟨b,_,d⟩
def MZ{P:Program}{a:Act}{w w'}{o:Oper}{s x:Operand}{t}{vs vx v'}(b:o.op=.call { callee:=.builtin .append,args:=#[s,x],argTypes:=#[t,t] })(d:a.eval s=vs)(e:a.eval x=vx)(c:Sem.run P (Builtin.append_ #[t,t] o.type #[vs,vx]) w=.ok v' w'):Sem.run P (execOp a.eval o) w=.ok (.value v') w':=by
 unfold execOp;simp[b,resolve,invoke,builtin,Sem.run_bind,Sem.run_pure,Result.andThen_ok,List.map_toArray,List.map_cons,List.map_nil,d,e,c]
def Hu(c:Int)(w)(a:-9223372036854775808<=c)(b:c<=9223372036854775807):
  Ω 183 #[ϊ c] w λe w'=>∃j:Nat,e=ϱ (ϊ j)/\w'=w:=by
 go_enter func183,ntmps183;go_wp2_with fail;refine(EG c 600 w a b oM oM).mono ?_;rintro e f ⟨j,rfl,d,rfl⟩;go_wp2;go_ret;exact⟨j,rfl,rfl⟩
def Na{P:Program}{a:Act}{w}{o:Oper}{t}{x:Operand}(b:o.op=.box t x)(vs)(d:a.eval x=.agg vs):Sem.run P (execOp a.eval o) w=.ok (.value (ϖ w.heap.size)) (w.alloc (ϲ vs t)):=by
 have c:Sem.run P (Instr.box t (.agg vs)) w=.ok (ϖ w.heap.size) (w.alloc (ϲ vs t)):=by
  simp[Instr.box,newVar,newRow,Value.cells]
 unfold execOp;simp[b,Sem.run_bind,Sem.run_pure,Result.andThen_ok,d,c]
namespace Gw
def CO{L}{w w'}{base n sz:Nat}{T}{v}{xs:Ϩ}(h:w.ownsRow base T sz v n xs)(hK:Kp L w w')(f:∀i,v.ownBlock=some i->i∉L):w'.ownsRow base T sz v n xs:=by
 refine⟨h.1,?_⟩;rcases h.2 with b|⟨g,cap,cur,a,c,d,e⟩
 .exact .inl b
 .exact .inr ⟨g,cap,cur,a,c,hK.heap d (f g (by rw[a];simp[Value.ownBlock])),e⟩
def Held.kp{w w'}{base:Nat}{k:KF}{b:List HEnt}{L}(h:Held w base k b)(hK:Kp L w w')(d:∀i,k.li.ownBlock=some i->i∉L)(e:∀i,k.wa.ownBlock=some i->i∉L)(a:Apt w L [42]):Held w' base k b:=
 ⟨CO h.li hK d,CO h.wa hK e,h.two,λx c=>⟨(h.eq x c).1.qM3 hK a,(h.eq x c).2.qM3 hK a⟩⟩
def Held.cast{w}{base:Nat}{k a:KF}{d:List HEnt}(h:Held w base k d)(b:a.li=k.li)(c:a.wa=k.wa):Held w base a d:=
 ⟨by rw[b];exact h.li,by rw[c];exact h.wa,by rw[b,c];exact h.two,h.eq⟩
end Gw
variable {κ:Nat}
def WE(N a rs:Int):(Ae N a rs).take 32=toB (BP N a rs):=by
 have:(toB (BP N a rs)).length=32:=by rw[DS,KL]
 rw[Ae,List.take_append_of_le_length oM,tL oM]
def JC(N a rs:Int):Ae N a rs=toB Cj++(toB (Ak 2 a)++(toB (Ak 8 N)++(toB (Ak 8 rs)++(toB (Ak 8 (fnv (De N a rs)))++List.replicate 96 0)))):=by
 simp[Ae,BP]
 conv=>lhs;rw[Dr]
 simp[De,Dr,aA]
def WC(N a rs:Int)(b:0<=N)(c:N<18446744073709551616):BF (BC (((Ae N a rs).drop 8).take 8))=N:=by
 have e:((Ae N a rs).drop 8).take 8=toB (Ak 8 N):=by
  rw[JC,<-aA (toB Cj)];exact Jl _ _ _ 8 8 (by simp[DS,BJ,Cj]) (by simp[DS,BJ])
 rw[e,EP _ (CK 8 N),DM 8 N dC b];have:(256:Int) ^ 8=18446744073709551616:=dC
 omega
def WB(N a rs:Int)(b:0<=a)(c:a<=1000):BF (BC (((Ae N a rs).drop 6).take 2))=a:=by
 have e:((Ae N a rs).drop 6).take 2=toB (Ak 2 a):=by
  rw[JC];exact Jl _ _ _ 6 2 (by simp[DS,Cj]) (by simp[DS,BJ])
 rw[e,EP _ (CK 2 a),DM 2 a dC b];have:(256:Int) ^ 2=65536:=dC
 omega
def WD(N a rs:Int)(b:0<=rs)(c:rs<18446744073709551616):BF (BC (((Ae N a rs).drop 16).take 8))=rs:=by
 have e:((Ae N a rs).drop 16).take 8=toB (Ak 8 rs):=by
  rw[JC,<-aA (toB Cj),<-aA (toB Cj++toB (Ak 2 a))];exact Jl _ _ _ 16 8 (by simp[DS,BJ,Cj]) (by simp[DS,BJ])
 rw[e,EP _ (CK 8 rs),DM 8 rs dC b];have:(256:Int) ^ 8=18446744073709551616:=dC
 omega
structure HeadOk(i:Nat)(N rb rs:Int):Prop where
 place:N % 2=(i:Int)
 n0:0<=N
 n1:N<18446744073709551616
 b0:0<=rb
 b1:rb<=1000
 s0:0<=rs
 s1:rs<18446744073709551616
def Fi(l)(h:l.length<=8):0<=BF (BC l)/\BF (BC l)<(256:Int) ^ l.length:=by
 have a:=Se l;rw[Kn _ a (by rw[Ja];exact h)];have:=Ko _ a
 rwa [Ja]at this
def Valid(l:ϣ)(i:Nat)(N a rs:Int):Prop:=BF (BC (((τ l i).drop 8).take 8))=N/\BF (BC (((τ l i).drop 6).take 2))=a/\BF (BC (((τ l i).drop 16).take 8))=rs/\N % 2=(i:Int)/\toB (BP N a rs)=(τ l i).take 32
def Dg(x:ϣ)(a b:Nat)(h:a+b<=32):(x.drop a).take b=((x.take 32).drop a).take b:=by rw[List.drop_take,List.take_take,Nat.min_eq_left oM]
def Valid.sec{l l2}{i:Nat}{N e rs:Int}(h:Valid l i N e rs)(a:(τ l2 i).take 32=(τ l i).take 32):Valid l2 i N e rs:=by
 let⟨b,c,d,f,g⟩:=h;rw[Dg _ 8 8 oM,<-a,<-Dg _ 8 8 oM]at b;rw[Dg _ 6 2 oM,<-a,<-Dg _ 6 2 oM]at c;rw[Dg _ 16 8 oM,<-a,<-Dg _ 16 8 oM]at d;exact⟨b,c,d,f,g.trans a.symm⟩
def Valid.laid{l}{i:Nat}{N b rs:Int}(c:(τ l i).take 32=(Ae N b rs).take 32)(a:HeadOk i N b rs):Valid l i N b rs:=by
 refine⟨?_,?_,?_,a.place,?_⟩
 .rw[Dg _ 8 8 oM,c,<-Dg _ 8 8 oM];exact WC N b rs a.n0 a.n1
 .rw[Dg _ 6 2 oM,c,<-Dg _ 6 2 oM];exact WB N b rs a.b0 a.b1
 .rw[Dg _ 16 8 oM,c,<-Dg _ 16 8 oM];exact WD N b rs a.s0 a.s1
 .rw[c,WE]
def Valid.bnd{l}{i:Nat}{N d rs:Int}(h:Valid l i N d rs)(e:(τ l i).length=128):0<=N/\N<18446744073709551616/\0<=d/\0<=rs:=by
 have b:=Fi (((τ l i).drop 8).take 8) (by rw[lK];omega);have a:=Fi (((τ l i).drop 6).take 2) (by rw[lK];omega);have c:=Fi (((τ l i).drop 16).take 8) (by rw[lK];omega);rw[lK,lD,e,h.1]at b;rw[h.2.1]at a;rw[h.2.2.1]at c;exact⟨b.1,b.2,a.1,c.1⟩
def Valid.one{l}{i:Nat}{N c rs b d e:Int}(h:Valid l i N c rs)(a:Valid l i b d e):N=b/\c=d/\rs=e:=⟨h.1.symm.trans a.1,h.2.1.symm.trans a.2.1,h.2.2.1.symm.trans a.2.2.1⟩
def IsHd(l:List UInt8)(i:Nat):Option (Int×Int×Int)→Prop
 | some h=>Valid l i h.1 h.2.1 h.2.2
 | none=>∀N rb rs,¬Valid l i N rb rs
def CV:Option (Int×Int×Int)→Value
 | some h=>BE h.1 h.2.1 h.2.2
 | none=>BE 0 0 0
def IsHd.is(l)(i:Nat):∃h,IsHd l i h:=by
 by_cases h:∃N a rs,Valid l i N a rs
 .let⟨N,a,rs,h⟩:=h;exact⟨some (N,a,rs),h⟩
 .exact⟨none,λN a rs b=>h ⟨N,a,rs,b⟩⟩
def IsHd.sec{l l2}{i:Nat}{h:Option (Int×Int×Int)}(a:IsHd l i h)(b:(τ l2 i).take 32=(τ l i).take 32):IsHd l2 i h:=by
 cases h with
 | some h=>exact Valid.sec a b
 | none=>exact λN d rs c=>a N d rs (c.sec b.symm)
def Dz(N N':Int):Bool:=decide (0<wrap64 (IntKind.u64.wrap (N-N')))
def YJ{N a:Int}(h:N=upN a)(b:0<=a)(c:a<18446744073709551616):Dz N a=true/\Dz a N=false:=by
 unfold Dz;rw[h];unfold upN;refine⟨?_,?_⟩<;>simp[wrap64,IntKind.wrap_u64,decide_eq_true_eq,decide_eq_false_iff_not]<;>omega
def YK(N f a b c d:Int)(w):
  Ω 206 #[.agg #[.int .u64 N,ϊ a,.int .u64 b],.agg #[.int .u64 f,ϊ c,.int .u64 d]] w λe w'=>e=ϱ (ϐ (Dz N f))/\Below w.heap.size w w':=by
 go_enter func206,ntmps206;go_wp2;go_ret;exact⟨rfl,((Below.refl _ _).alloc lR _).alloc sM _⟩
def BA:Option (Int×Int×Int)→Option (Int×Int×Int)→Option (Int×Int×Int)
 | a,none=>a
 | none,some b=>some b
 | some a,some b=>if Dz b.1 a.1 then some b else some a
def Heads(l:ϣ)(N c rs:Int):Prop:=∃a b,IsHd l 0 a/\IsHd l 1 b/\BA a b=some (N,c,rs)
def Heads.same{l l2}{N b rs:Int}(h:Heads l N b rs)(a:∀k,k<2->(τ l2 k).take 32=(τ l k).take 32):Heads l2 N b rs:=by
 let⟨c,d,e,f,g⟩:=h;exact⟨c,d,e.sec (a 0 oM),f.sec (a 1 oM),g⟩
def Heads.move{l l'}{N a rs:Int}(h:Heads l N a rs)(b:∀k,k<2->τ l' k=τ l k):Heads l' N a rs:=h.same λk h2=>by rw[b k h2]
def Heads.valid{l}{N g rs:Int}(h:Heads l N g rs):∃i:Nat,i<2/\N % 2=(i:Int)/\Valid l i N g rs:=by
 let⟨j,f,d,e,c⟩:=h
 cases j with
 | none=>
  cases f with
  | none=>cases c
  | some b=>cases c;exact⟨1,oM,e.2.2.2.1,e⟩
 | some a=>
  cases f with
  | none=>cases c;exact⟨0,oM,d.2.2.2.1,d⟩
  | some b=>
   simp[BA]at c;split at c
   .cases c;exact⟨1,oM,e.2.2.2.1,e⟩
   .cases c;exact⟨0,oM,d.2.2.2.1,d⟩
def Heads.next{l}{i j:Nat}{N a f rs c d:Int}(b:Valid l i N f rs)(e:Valid l j a c d)(m:a=upN N)(n:i<2)(o:j<2)(g:(τ l i).length=128):Heads l a c d:=by
 have:=b.2.2.2.1;have:=e.2.2.2.1;have:=Li N;have h:=YJ m (b.bnd g).1 (b.bnd g).2.1;have k:(i=0/\j=1)\/(i=1/\j=0):=oM
 rcases k with⟨rfl,rfl⟩|⟨rfl,rfl⟩
 .exact⟨some (N,f,rs),some (a,c,d),b,e,by simp[BA,h.1]⟩
 .exact⟨some (a,c,d),some (N,f,rs),e,b,by simp[BA,h.2]⟩
def Heads.made{l}{i j:Nat}{N d rs a b:Int}(c:τ l i=Ae (upN N) d rs)(e:τ l j=Ae (upN (upN N)) a b)(f:i<2)(g:j<2)(h:HeadOk i (upN N) d rs)(k:HeadOk j (upN (upN N)) a b):Heads l (upN (upN N)) a b:=
 Heads.next (Valid.laid (by rw[c]) h) (Valid.laid (by rw[e]) k) rfl f g (by rw[c,BI])
def SI{w:Ϣ}{B b:Nat}{a:ϣ}{t:Ϯ}{x:UInt8}(c:w.heap[B]?=some (ϲ (enc a) t))(d:a[b]?=some x):w.cell? (ϰ B b)=some (.int .u8 ((x.toNat:Nat):Int)):=by
 rw[Y c];unfold enc Ay;rw[zG,List.getElem?_map,d];rfl
def UY(l)(i:Nat)(v:UInt8):(enc l).setIfInBounds i (.int .u8 ((v.toNat:Nat):Int))=enc (l.set i v):=by
 unfold enc Ay;rw[zA,List.map_set]
def Sw{κ}{A n C:Nat}{l}{ws}{Q:Int}{q}{w}(c:Dn κ A n C l ws Q q w):
  Ω 184 #[ϖ A] w λe w'=>e=ϱ (ϕ ⟨(l.take (n*128)).toArray⟩)/\Kp [] w w':=by
 let⟨_,p,_,calls,_,h,N,_⟩:=c.hA;have m:=c.hC;have X:=c.N1;have hs:=c.len;have c0:=Y h 0;simp at c0;have i:=U h;have T:=U m;let⟨B,t,x,y,z⟩:=info_parts Tryz.qQ2;go_enter func184,ntmps184;go_wp2_with fail;have O:=run_make (P:=prog) w 118 5 B (.int .u8 0) underlying118 t x .i64 .i64 0 ((n:Int)*128) oM oM (by rw[z];omega) oM;rw[O];rw[show(Int.toNat 0)=0 from rfl,show((n:Int)*128).toNat=n*128 from by omega,y];obtain⟨b,r,o,G⟩:∃b,b=w.alloc (ϲ (madeCells (Value.int .u8 0).cells (n*128*1)) 5)/\Kp [] w b/\b.ownsRow (ϳ w) 5 1 (ϑ (ϳ w) 0 0 (n*128)) 0 []:=
  ⟨_,rfl,kF.alloc _,sM,.inr ⟨ϳ w,n*128,_,rfl,lR,μ _ _,oM,by unfold maxLen;omega,by simp[madeCells],sM⟩⟩
 rw[<-r];clear r;have R:=(o.cell (a:=(ϰ A 0)) i sM).trans c0;go_wp2
 go_loopw [3,17,4] (λs k _ wr=>∃(j:Nat),j<=n/\k=.int .i64 j/\Hid (wr.ownsRow (ϳ w) 5 1 s (j*128) (Ay (l.take (j*128))))/\Hid (Kp [] w wr)) (λ_ k _ _=>n-(intOf k).toNat)
 case atStart=>exact⟨0,zL _,rfl,by show World.ownsRow _ _ _ _ _ _ _;simpa [Ay] using G,o⟩
 case round=>
  obtain⟨j,V,rfl,E,D⟩:=hrel;have g:=E.out;have hK:=D.out;have S:=(hK.cell (a:=(ϰ A 0)) i sM).trans c0;by_cases W:j<n
  .obtain rfl:=N oM;have v:((l.drop (j*128)).take 128).length=128:=sO
   have K:∀k u,(Ay ((l.drop (j*128)).take 128))[k]?=some u->wr.cell? (((ϰ C (j*128)):Addr).add k)=some u:=by
    intro k u d;rw[Br,Y (hK.hp m)];have f:k<128:=by have:=(gS d).1;rw[FI,v]at this;exact this
    rw[<-d,<-EH (cs:=enc l) (n:=128) f,Dd];simp[enc]
   have L:∀u∈Ay ((l.drop (j*128)).take 128),u.oneCell'=true:=λu d=>(Co _).one u (by simpa [enc] using d)
   go_wp2_with (at_builtin;go_must (refine wpList_append_own _ rfl _ _ 118 rfl (ϳ w) 5 B (.int .u8 0) 1 1 underlying118 t x y z rfl dC _ _ _ rfl g (ϰ C (j*128)) 128 128 (Ay ((l.drop (j*128)).take 128)) rfl (by rw[FI,v]) K L (by unfold maxLen;omega) oM hK.size ?_);intro v1 w1 M I _)
   refine⟨⟨j+1,oM,by go_num,?_,hK.grown I (λk f=>Or.inr (qN3 g k f))⟩,iO⟩;have F:(j+1)*128=j*128+128:=oM
   show World.ownsRow _ _ _ _ _ _ _;rw[F,List.take_add,UW];exact M
  .have H:j=n:=oM
   subst H;have Z:=qC7 g;go_wp2;go_ret;exact⟨rfl,hK⟩
def Xu(k:Int)(n:Nat)(t)(w)(D:Ω 41 #[ϊ k] w λe w'=>e=ϱ (ϖ (w.heap.size+1))/\w'=(w.alloc (ϲ (enc (List.replicate (n*128) 0)) 115)).alloc (DW n w.heap.size (.slice none 0 0) 0 0))(hn:n<1000):
  Ω 123 #[ϊ k,ϕ t] w λe w'=>e=ϱ (ϖ (w.heap.size+1))/\∃l:ϣ,l.length=n*128/\(t.size=n*128->l=t.data.toList)/\w'.heap[w.heap.size+1]?=some (Er n n w.heap.size (.slice none 0 0) 0 0)/\w'.heap[w.heap.size]?=some (ϲ (enc l) 115)/\Kp [] w w':=by
 go_enter func123,ntmps123;go_wp2_with fail;apply D.mono;rintro e u ⟨rfl,p⟩;have L:Ϙ u (ϳ w) (ϲ (enc (List.replicate (n*128) 0)) 115):=by rw[p];exact ν _ (μ _ _)
 have I:u.heap[ϳ w+1]?=some (Er n n (ϳ w) (ϒ none 0 0) 0 0):=by
  rw[p];have e:=μ (w.alloc (ϲ (enc (List.replicate (n*128) 0)) 115)) (DW n (ϳ w) (ϒ none 0 0) 0 0);rw[show(w.alloc (ϲ (enc (List.replicate (n*128) 0)) 115)).heap.size=ϳ w+1 by simp]at e;exact e
 have M:Kp [] w u:=by rw[p];exact(kF.alloc _).alloc _
 clear p D;obtain⟨f,m⟩:=eX t.size;go_wp2_with fail
 go_loopw [6] (λi wr=>∃(j:Nat)(l:List UInt8),j<=f/\i=.int .i64 j/\Hid (l.length=n*128)/\Hid (l.take j=t.data.toList.take j/\j<=n*128)/\Hid (wr.heap[ϳ w+1]?=some (Er n n (ϳ w) (ϒ none 0 0) 0 0))/\Hid (Ϙ wr (ϳ w) (ϲ (enc l) 115))/\Hid (Kp [] w wr)) (λi _=>f-(intOf i).toNat)
 case atStart=>exact⟨0,List.replicate (n*128) 0,zL _,rfl,List.length_replicate,⟨rfl,zL _⟩,I,L,M⟩
 case round=>
  obtain⟨j,l,hj,rfl,d,y,g,c,r⟩:=hrel;have A:=g.out;have:=U A;have:((t.size:Nat):Int)=(f:Int):=by rw[m]
  have:=ϻ A 0;by_cases R:j<f
  .have:(j:Int)<(f:Int):=oM
   by_cases aa:j<n*128
   .have:(j:Int)<(n:Int)*128:=oM
    have C:j<t.size:=by have:=m;omega
    obtain⟨b,O⟩:∃b:Nat,b=j / 128:=⟨_,rfl⟩;obtain⟨o,T⟩:∃o:Nat,o=j % 128:=⟨_,rfl⟩;have:(j:Int).tdiv 128=(b:Int):=by rw[Int.tdiv_eq_ediv_of_nonneg oM];omega
    have:(j:Int).tmod 128=(o:Int):=by rw[Int.tmod_eq_emod_of_nonneg oM];omega
    have:IntKind.i64.wrap (b:Int)=(b:Int):=by rw[wK];omega
    have:(b:Int)<(n:Int):=oM
    have:(o:Int)<128:=oM
    obtain⟨v,X⟩:=eY (t[j]'C);have F:Hid (b*128+o=j):=by show _=_;omega
    have B:b*128+o<l.length:=by have:=d.out;omega
    obtain⟨x,Z⟩:∃x,l[b*128+o]?=some x:=⟨_,gQ B⟩;have G:Hid ((l.set (b*128+o) v).take (j+1)=t.data.toList.take (j+1)/\j+1<=n*128):=by
     have Q:j<l.length:=by have:=d.out;omega
     have P:j<t.data.toList.length:=by rw[Array.length_toList];exact C
     refine⟨?_,oM⟩;rw[F.out,tA (by rw[List.length_set];exact Q),List.take_set_of_le lR,List.getElem_set_self,tA P,y.out.1,<-X];rfl
    have H:Hid (wrap64 ((j:Int)+1)=(j:Int)+1):=by show wrap64 ((j:Int)+1)=(j:Int)+1;simp[wrap64];omega
    clear O T B;go_wp2_with fail;have a:wr.drew.heap[ϳ w+1]?=some (Er n n (ϳ w) (ϒ none 0 0) 0 0):=g.out;refine wp_region_held_drew (S:=λW=>W.heap[ϳ w+1]?=some (Er n n (ϳ w) (ϒ none 0 0) 0 0)) kR a (λ_=>?_);refine zU 0 (ϖ (ϳ w+1)) a ?_;refine zV 1 (ϖ (ϳ w+1)) rfl (λW s=>by have:=U s;go_simp) a ?_;refine zU 2 (ϖ (ϳ w+1)) a ?_;apply zV 3 (ϑ (ϳ w) 0 n n) rfl (λW s=>by have:=ϻ s 0;go_simp) a;refine zU 4 (ϊ (j:Int)) a ?_;refine zU 5 (ϊ (b:Int)) a ?_;apply zU 6 (ϊ (j:Int)) a;apply zU 7 (ϊ (o:Int)) a;apply zU 8 (ϕ t) a;refine zU 9 (ϊ (j:Int)) a ?_;apply zU 10 (.int .u8 ((v.toNat:Nat):Int)) a;refine zU 11 (ϗ (some ⟨ϳ w,b*128,none⟩)) a ?_;apply zU 12 (ϗ (some ⟨ϳ w,b*128+o,none⟩)) a;refine zq 13 λK hK=>?_;have:=SI (w:=wr.drew) c Z;have:=ρ (show Ϙ wr.drew (ϳ w) (ϲ (enc l) 115) from c) (b*128+o);have:=U c.out;go_simp;have V:(wr.drew.setCell ⟨ϳ w,b*128+o,none⟩ (.int .u8 ((v.toNat:Nat):Int))).heap[ϳ w]?=some (ϲ (enc (l.set (b*128+o) v)) 115):=by
     rw[<-UY];exact ξ c _ _
    have E:(wr.drew.setCell ⟨ϳ w,b*128+o,none⟩ (.int .u8 ((v.toNat:Nat):Int))).heap[ϳ w+1]?=some (Er n n (ϳ w) (ϒ none 0 0) 0 0):=(AM oM _ _).trans g.out;have N:Kp [] w (wr.drew.setCell ⟨ϳ w,b*128+o,none⟩ (.int .u8 ((v.toNat:Nat):Int))):=r.out.drew.setCell (Or.inr lR) _;refine hK.out _ _ E (λ_=>?_);refine zd ?_
    try simp[zZ]
    have q:=Hid.mk' (And.intro V (And.intro E N));go_wp2
    try rw[H.out]
    exact⟨⟨j+1,l.set (b*128+o) v,oM,by go_num,by show _=_;rw[List.length_set];exact d,G,q.2.1,q.1,q.2.2⟩,iO⟩
   .have:¬(j:Int)<(n:Int)*128:=oM
    go_wp2;go_ret;exact⟨rfl,l,d,λh=>absurd R (oW m),g,c,r⟩
  .have:¬(j:Int)<(f:Int):=oM
   go_wp2;go_ret;exact⟨rfl,l,d,λh=>by have z:=y.out.1;have:=m;have:=d.out;rw[tL oM,tL (by rw[Array.length_toList];show t.size<=j;omega)]at z;exact z,g,c,r⟩
namespace Gw
def CI:List TypeId:=[70,3,119]
def CD:List TypeId:=[130,114,115,117,169,99,80,197,132,29,282,203]
def Muts(base:Nat)(a:List Ϯ)(w:Ϣ)(L:Ϥ):Prop:=∀k∈L,base<=k/\∃o,w.heap[k]?=some o/\∀c t fr,o=ϲ c t fr->t∈a
def MutC(base:Nat)(a:List Ϯ)(w:Ϣ)(L:Ϥ):Prop:=∀k∈L,base<=k/\∃c t fr,w.heap[k]?=some (ϲ c t fr)/\t∈a
def MutC.qN9{base:Nat}{a:List Ϯ}{w}{L}(h:MutC base a w L):Muts base a w L:=λk g=>by
 let⟨b,c,t,j,d,f⟩:=h k g;exact⟨b,_,d,λi t' l e=>by cases e;exact f⟩
def Muts.nil(base:Nat)(a:List Ϯ)(w):Muts base a w []:=λ_ h=>by cases h
def Muts.mono{base:Nat}{a b:List Ϯ}{w}{L L'}(h:Muts base a w L)(m:∀t∈a,t∈b)(l:∀i∈L',i∈L):Muts base b w L':=λk hk=>by
 let⟨f,o,g,j⟩:=h k (l k hk);exact⟨f,o,g,λc t d e=>m t (j c t d e)⟩
def Muts.apt{base:Nat}{a Us:List Ϯ}{w}{L}(h:Muts base a w L)(f:∀t∈Us,t∉a):Apt w L Us:=λk hk c t fr e hm=>by
 let⟨g,o,b,d⟩:=h k hk;rw[e]at b;cases b;exact f t hm (d _ _ _ rfl)
def Muts.not{base:Nat}{a:List Ϯ}{w}{L}(h:Muts base a w L){k:Nat}{c}{t}{fr}(e:w.heap[k]?=some (ϲ c t fr))(g:t∉a):k∉L:=λf=>by
 let⟨i,o,b,d⟩:=h k f;rw[e]at b;cases b;exact g (d _ _ _ rfl)
def Muts.lt{base:Nat}{a:List Ϯ}{w}{L}(h:Muts base a w L){k:Nat}(c:k∈L):k<w.heap.size:=by
 let⟨_,o,b,_⟩:=h k c;exact U b
def Muts.row{base b n sz:Nat}{a:List Ϯ}{T}{w w'}{L}{v}{xs:Ϩ}(h:Muts base a w L)(hK:Kp L w w')(i:T∉a)(l:w.ownsRow b T sz v n xs):w'.ownsRow b T sz v n xs:=
 Bp l hK λk c t m e j f=>by
  let⟨p,o,d,g⟩:=h k j;rw[e]at d;cases d;subst f;exact i (g _ _ _ rfl)
structure Gg(w:Ϣ):Prop where
 e0:w.cell? (ϰ 0 0)=some Bd
 gl:Gl w
def Gg.qM3{base:Nat}{a:List Ϯ}{w w'}{L}(h:Gg w)(hK:Kp L w w')(d:0<base)(e:base<=w.heap.size)(b:Muts base a w L)(c:∀t∈DR,t∉a):Gg w':=
 ⟨Nv h.e0 hK d e (λk f=>(b k f).1),h.gl.qM3 hK (b.apt c)⟩
def Gg.same{w w'}(h:Gg w)(hK:Kp [] w w')(a:0<w.heap.size):Gg w':=h.qM3 hK a lR (Muts.nil _ [] _) sM
structure DInv where
 G:Type
 kf:G->KF
 B:G->Nat
 tbs:G->Ϥ
 tur:G->Ϥ
 ok:Nat->Int->Ϣ->G->Prop
 qY1:∀{base:Nat} {T:Int} {w:Ϣ} {g:G},ok base T w g->w.heap[B g]?=some (kob (kf g))
 row:∀{base:Nat} {T:Int} {w:Ϣ} {g:G},ok base T w g->PRow w 132 (kf g).ts (tbs g)
 zA0:∀{base:Nat} {T:Int} {w:Ϣ} {g:G},ok base T w g->((tbs g).length:Int)<=T
 inB:∀g,B g∈tur g
 qN9:∀{base:Nat} {T:Int} {w:Ϣ} {g:G},ok base T w g->Muts base CD w (tur g)
 qM3:∀{base:Nat} {T T':Int} {w w':Ϣ} {g:G} {L:Ϥ},ok base T w g->Kp L w w'->Muts base (CI++CD) w L->(∀i∈L,i∉tur g)->T<=T'->ok base T' w' g
 fresh:∀(base:Nat)(T:Int)(w:Ϣ)(κ:Kd)(b A C m:Nat),base<=b->base<=A->base<=C->26000<=T->m<1000->w.heap[b]?=some (kob ⟨A,m,.slice none 0 0,false,.slice none 0 0,false,false,none,.slice none 0 0,0,false,.slice none 0 0,.slice none 0 0,.slice none 0 0⟩)->κ.told=0->Dn κ A m C (List.replicate (m*128) 0) [] 0 [] w->∃g,ok base T w g/\B g=b/\∀i∈tur g,i=b\/i=A\/i=C
 copy:∀{base:Nat} {T:Int} {w:Ϣ} {g:G},ok base T w g->∃κ C l ws wr q,(kf g).n<1000/\Dn κ (kf g).A (kf g).n C l ws wr q w/\
  ∀(T':Int)(w':Ϣ)(κ':Kd)(b A' C':Nat),T<=T'->26000<=T'->Kp [] w w'->base<=b->base<=A'->base<=C'->w'.heap[b]?=some (kob ⟨A',(kf g).n,(kf g).may,(kf g).emp,(kf g).qN4,(kf g).qO5,(kf g).bit,none,.slice none 0 0,0,false,.slice none 0 0,.slice none 0 0,.slice none 0 0⟩)->κ'.told=0->Dn κ' A' (kf g).n C' (l.take ((kf g).n*128)) [] 0 [] w'->∃g',ok base T' w' g'/\B g'=b/\∀i∈tur g',i=b\/i=A'\/i=C'
def BU(I:DInv)(ds:List I.G):List Value:=ds.map fun g=>.pointer (some ⟨I.B g,0,none⟩)
def Ie{I:DInv}{cur:ϧ}{a:List I.G}(h:cur.toList.take (a.length*1)=BU I a)(j:Nat)(b:j<a.length):cur[j]?=some (ϖ (I.B a[j])):=by
 have e:(BU I a)[j]?=some (ϖ (I.B a[j])):=by simp[BU,b]
 rw[<-h,List.getElem?_take_of_lt oM]at e;simpa using e
structure WOk(I:DInv)(base:Nat)(T:Int)(w:Ϣ)(Wb:Nat)(ds:List I.G):Prop where
 t0:26000<=T
 hb:0<base
 hbs:base<=w.heap.size
 g0:Gg w
 bW:base<=Wb
 hW:∃pk nk ck xs pd cd,w.heap[Wb]?=some (AY pk nk ck pd ds.length cd)/\w.ownsRow base 3 1 (.slice pk nk ck) nk (Cr xs)/\(nk:Int)<=T/\w.ownsRow base 119 1 (.slice pd ds.length cd) ds.length (BU I ds)
 len:(ds.length:Int)<=T
 all:∀g,g∈ds->I.ok base T w g
 sep:ds.Pairwise λg h=>∀i∈I.tur g,i∉I.tur h
def WOk.same{I:DInv}{base:Nat}{T T':Int}{w w'}{a:Nat}{b:List I.G}(h:WOk I base T w a b)(hK:Kp [] w w')(j:T<=T'):WOk I base T' w' a b:=by
 let⟨m,nk,d,xs,l,c,e,f,n,i⟩:=h.hW;exact⟨oW h.t0,h.hb,lT h.hbs hK.size,h.g0.qM3 hK h.hb h.hbs (Muts.nil _ [] _) sM,h.bW,⟨m,nk,d,xs,l,c,hK.hp e,DA f hK (Apart.nil _ _),oM,DA i hK (Apart.nil _ _)⟩,oW h.len,λg k=>I.qM3 (h.all g k) hK (Muts.nil _ _ _) sM j,h.sep⟩
def DStep(I:DInv)(base:Nat)(T':Int)(w w':Ϣ)(g:I.G):Prop:=
 ∃g' L,I.ok base T' w' g'/\I.B g'=I.B g/\(∀i∈I.tur g',i∈I.tur g\/w.heap.size<=i)/\Kp L w w'/\∀i∈L,i∈I.tur g
def DStep.after{I:DInv}{base:Nat}{T':Int}{w w1 w'}{g:I.G}(h:DStep I base T' w w1 g)(hK:Kp [] w1 w'):DStep I base T' w w' g:=by
 let⟨g',L,a,b,c,d,e⟩:=h;exact⟨g',L,I.qM3 a hK (Muts.nil _ _ _) sM (iR _),b,c,d.tr hK,e⟩
def DStep.from{I:DInv}{base:Nat}{T':Int}{w w1 w'}{g:I.G}(hK:Kp [] w w1)(h:DStep I base T' w1 w' g)(j:Muts base CD w (I.tur g)):DStep I base T' w w' g:=by
 let⟨g',L,b,c,d,e,f⟩:=h;exact⟨g',L,b,c,λi a=>(d i a).imp id (λh=>by have:=hK.size;omega),(hK.mono sM).trans e (λi a _=>a),f⟩
def DStep.below{I:DInv}{base:Nat}{T T':Int}{w w'}{g:I.G}(h:DStep I base T' w w' g)(d:I.ok base T w g)(c:base<=w.heap.size):Below base w w':=by
 let⟨g',L,f,i,j,a,b⟩:=h;exact a.below c (λk e=>(I.qN9 d k (b k e)).1)
def WOk.one{I:DInv}{base:Nat}{T T':Int}{w w'}{A:Nat}{d:List I.G}(h:WOk I base T w A d)(j:Nat)(v:j<d.length)(S:DStep I base T' w w' d[j])(M:T<=T'):∃F,WOk I base T' w' A F:=by
 let⟨g',L,O,G,C,hK,u⟩:=S;let⟨W,nk,E,xs,V,D,n,o,X,H⟩:=h.hW;have B:=I.qN9 (h.all d[j] (gM v));have p:=B.mono (λt z=>z) u;have K:Muts base (CI++CD) w L:=B.mono (λt z=>List.mem_append_right _ z) u;have R:BU I (d.set j g')=BU I d:=by
  simp[BU,List.map_set,G];exact List.ext_getElem sM (λi n o=>by
   rw[List.getElem_set];split
   .rename_i h;subst h;simp
   .rfl)
 have x:=pG h.sep;have s:∀i (f:i<d.length),∀k∈I.tur d[i],k<w.heap.size:=λi f k c=>(I.qN9 (h.all _ (gM f))).lt c;have y:∀i (f:i<d.length),j≠i->∀k∈I.tur d[j],k∉I.tur d[i]:=λi f m k c l=>by
  rcases Nat.lt_or_gt_of_ne m with s|Q
  .exact x j i v f s k c l
  .exact x i j f v Q k l c
 refine⟨d.set j g',oW h.t0,h.hb,lT h.hbs hK.size,h.g0.qM3 hK h.hb h.hbs p dC,h.bW,⟨W,nk,E,xs,V,D,?_,p.row hK dC o,oM,?_⟩,by have:=h.len;simp;omega,?_,?_⟩
 .simp[List.length_set];exact hK.heap n (p.not n dC)
 .rw[R,List.length_set];exact p.row hK dC H
 .intro g P;obtain⟨i,f,rfl⟩:=gO P;rw[List.getElem_set];split
  .exact O
  .rename_i m;simp[List.length_set]at f;exact I.qM3 (h.all d[i] (gM f)) hK K (λk c=>y i f m k (u k c)) M
 .rw[List.pairwise_iff_getElem];intro a b q r N;simp[List.length_set]at q r;rw[List.getElem_set,List.getElem_set];split
  .rename_i n;subst n;split
   .omega
   .rename_i m;intro k c l;rcases C k c with c|c
    .exact y b r m k c l
    .have:=s b r k l;omega
  .split
   .rename_i m o;subst o;intro k c l;rcases C k l with l|l
    .exact y a q (λe=>m e) k l c
    .have:=s a q k c;omega
   .exact x a b q r N
def WOk.qO4{I:DInv}{base:Nat}{T T':Int}{w w'}{f:Nat}{b:List I.G}{S}(h:WOk I base T w f b)(hK:Kp S w w')(j:MutC base CI w S)(v:T<=T')(a:List I.G)(p:∀g,g∈a->I.ok base T' w' g/\∀i∈I.tur g,w.heap.size<=i)(A:a.length<=1)
  (x:∃r nk l xs q k,w'.heap[f]?=some (AY r nk l q (b++a).length k)/\w'.ownsRow base 3 1 (.slice r nk l) nk (Cr xs)/\(nk:Int)<=T'/\w'.ownsRow base 119 1 (.slice q (b++a).length k) (b++a).length (BU I (b++a))) (C:((b++a).length:Int)<=T'):WOk I base T' w' f (b++a):=by
 refine⟨oW h.t0,h.hb,lT h.hbs hK.size,h.g0.qM3 hK h.hb h.hbs j.qN9 dC,h.bW,x,C,?_,?_⟩
 .intro g d;rcases mA d with d|d
  .have o:=h.all g d;refine I.qM3 o hK (j.qN9.mono (λt B=>List.mem_append_left _ B) (λi e=>e)) (λi e hm=>?_) v;let⟨_,c,t,D,m,s⟩:=j i e;let⟨_,F,n,u⟩:=I.qN9 o i hm;rw[m]at n;cases n;have:∀t∈CI,t∉CD:=dC
   exact this t s (u _ _ _ rfl)
  .exact (p g d).1
 .rw[List.pairwise_append];refine⟨h.sep,?_,?_⟩
  .exact ZF _ _ A
  .intro g d g' y i e z;have E:=(I.qN9 (h.all g d)).lt e;have m:=(p g' y).2 i z;omega
def I64(x:Int):Prop:=-9223372036854775808<=x/\x<=9223372036854775807
structure SFits(o:SOp):Prop where
 x:I64 o.x
 y:I64 o.y
 a:I64 o.a
 b:I64 o.b
structure Fit(ks:List Int)(o:SOp):Prop where
 k:o.k<4\/o.k∈ks
 f:SFits o
def ZR(ks:List Int)(n3:Nat)(ap:n3<=20)(ag:ks.length=n3)(UP:∀(p)(n cap:Nat)(f:Nat->SOp)(w),n<=16384->0<w.heap.size->Gg w->Script w p n f->(∀i,i<n->Fit ks (f i))->Ω 17 #[.slice p n cap] w λe w'=>e=ϱ (ϊ (-1))/\Kp [] w w')
  (p) (n cap:Nat) (f:Nat->SOp) (w) (S:Script w p n f) (hf:∀i,i<n->SFits (f i)) (h0:0<w.heap.size) (hg:Gg w) (I:Nat) (A:w.heap[I]?=some (ϲ (ks.map (.int .i64)).toArray 3)):
  Ω 15 #[.slice p n cap,.slice (some (ϰ I 0)) n3 n3] w λe w'=>e=ϱ (ϐ true)/\Kp [] w w':=by
 have G:Hid (0<w.heap.size/\Gg w/\Ϙ w I (ϲ (ks.map (.int .i64)).toArray 3)):=⟨h0,hg,A⟩;have:=U A;go_enter func15,ntmps15;go_wp2_with fail;refine(qE5 p n cap f w S).mono ?_;rintro e w1 ⟨r,rfl,hr,m,rfl⟩
 cases r with
 | false=>
  go_wp2;go_ret;exact⟨rfl,(Kp.refl _ _).drewN _⟩
 | true=>
  have:=hr rfl;go_wp2
  go_loopw [6,7] (λl i wr=>∃(j:Nat)(d:List SOp)(q:Option Addr)(c:Nat),j<=n/\i=.int .i64 j/\l=ϒ q d.length c/\d.length<=j/\(∀o,o∈d->Fit ks o)/\wr.ownsRow w.heap.size 66 7 (ϒ q d.length c) d.length (d.flatMap SOp.cells)/\Kp [] w wr) (λ_ i _=>n-(intOf i).toNat)
  case atStart=>exact⟨0,[],none,0,Nat.zero_le _,rfl,rfl,Nat.zero_le _,sM,World.ownsRow_nil _ _ _ _,(Kp.refl _ _).drewN _⟩
  case round=>
   obtain⟨j,d,q,H,hj,rfl,rfl,ao,D,F,hK⟩:=hrel;by_cases v:j<n
   .obtain⟨ak,aq,rfl,al,u⟩:=(S.qM3 hK) oM;have ac:=hf j v;have A:=hK.hp G.2.2;have:=U A;generalize ai:f j=o at *;have c0:=u j v 0 dC;have M:=u j v 1 dC;have N:=u j v 2 dC;have O:=u j v 3 dC;have P:=u j v 4 dC;have C:=u j v 5 dC;have Q:=u j v 6 dC;rw[ai]at c0 M N O P C Q;let⟨k,x,y,a,b,s,t⟩:=o;simp[SOp.cells,zH,zI,Nat.add_zero]at c0 M N O P C Q;have:(j:Int)<(n:Int):=oM
    have z:Hid (wr.ownsRow w.heap.size 66 7 (ϒ q d.length H) d.length (d.flatMap SOp.cells)/\Kp [] w wr/\(∀o,o∈d->Fit ks o)):=⟨F,hK,D⟩;have Z:Hid (∀i,i<n3->∃K,wr.cell? (ϰ I i)=some (ϊ K)/\K∈ks):=by
     intro i L;rw[Y A];have T:i<ks.length:=by have:=ag;omega
     exact⟨ks[i],by simp[T],List.getElem_mem T⟩
    clear u F hK D A;go_wp2
    go_loop [9,10] (λq i=>∃(g:Nat)(B:Bool),g<=n3/\i=.int .i64 g/\q=.bool B/\Hid (B=true->k<4\/k∈ks)) (λ_ i=>n3-(intOf i).toNat)
    case atStart=>exact⟨0,_,Nat.zero_le _,rfl,rfl,λh=>Or.inl (sU h)⟩
    case round=>
     obtain⟨g,B,am,rfl,rfl,V⟩:=hrel;by_cases ah:g<n3
     .let⟨K,an,af⟩:=Z.out g ah;have:(g:Int)<(n3:Int):=oM
      cases B with
      | true=>
       go_wp2;exact⟨⟨g+1,true,oM,by go_num,rfl,V⟩,iO⟩
      | false=>
       go_wp2;exact⟨⟨g+1,decide (k=K),oM,by go_num,rfl,λh=>by have h:=of_decide_eq_true h;subst h;exact Or.inr af⟩,iO⟩
     .have:¬(g:Int)<(n3:Int):=oM
      cases B with
      | false=>
       go_wp2;let⟨F,hK,D⟩:=z.out;exact⟨⟨j+1,d,q,H,oM,by go_num,rfl,oM,D,F,hK⟩,iO⟩
      | true=>
       have:=z.out.2.1.size;let⟨v5,X,aj,W,ae⟩:=qB9 (wr.alloc (ϲ #[ϊ k,ϊ x,ϊ y,ϊ a,ϊ b,ϕ s,ϕ t] 66)) w.heap.size wr.heap.size (ϒ q d.length H) d.length _ [ϊ k,ϊ x,ϊ y,ϊ a,ϊ b,ϕ s,ϕ t] rfl 22 (z.1.alloc _) oM (μ _ _) (by simp[Value.oneCell']) sO;obtain⟨R,C,rfl⟩:=CN W;have aa:Hid (X.ownsRow w.heap.size 66 7 (ϑ R 0 (d.length+1) C) (d.length+1) (d.flatMap SOp.cells++[ϊ k,ϊ x,ϊ y,ϊ a,ϊ b,ϕ s,ϕ t])/\Kp [] w X):=⟨W,(z.2.1.alloc _).grown ae (λk hk=>Or.inr (World.ownsRow.lt z.1 k hk).1)⟩
       go_wp2_with (at_builtin;((with_reducible refine Ft ?_ ?_ aj ?_);rfl;rfl))
       let⟨r1,r2⟩:=aa.out;refine⟨⟨j+1,d++[⟨k,x,y,a,b,s,t⟩],some (ϰ R 0),C,oM,by go_num,sM,sO,?_,?_,r2⟩,iO⟩
       .intro o E;rcases List.mem_append.1 E with E|E
        .exact z.2.2 o E
        .rw[List.mem_singleton.1 E];exact⟨V.out rfl,ac⟩
       .rw[List.length_append,List.flatMap_append];simpa [SOp.cells] using r1
   .have:¬(j:Int)<(n:Int):=oM
    have hs:=qD2 F;have:=hK.size;have ad:Gg wr:=G.out.2.1.same hK G.1;go_wp2_with fail;refine(UP q d.length H _ wr oM (oW G.out.1) ad hs (λi L=>?_)).mono ?_
    .have e2:d.getD i ⟨0,0,0,0,0,⟨#[]⟩,⟨#[]⟩⟩=d[i]:=by simp[List.getD,L]
     show Fit ks (d.getD i _);rw[e2];exact D _ (List.getElem_mem L)
    rintro e w3 ⟨rfl,ab⟩;go_wp2;go_ret;exact⟨rfl,hK.tr ab⟩
end Gw
namespace Gw
open Go.ChangeShapes Go.WideShapes Go.RowKit Go.Deep
def MB:prog.cellsOf 66=7:=kR
def SJ:prog.cellsOf 3=1:=kR
def SK:prog.cellsOf 9=1:=kR
section
variable {H:Type} {enc:Ϯ×Value→H}
def ID{n:Int}(h:(Lit.int .i64 n).wf=true):-9223372036854775808<=n/\n<=9223372036854775807:=by
 simp[Lit.wf,IntKind.min,IntKind.max,IntKind.bits,IntKind.signed]at h;omega
def Zg{W}{K:Nat->Bool}{z:Bool}{n:Nat}{cs:Ϩ}{x:DataW H×List MemPlace}(h:DataW.trod enc prog W 0 K z n 66 cs=some x):∃o:SOp,SFits o/\cs=o.cells:=by
 let⟨xs,k,M,N,t,A,a⟩:=DataW.trod_struct underlying66 h;rw[MB]at t
 match xs,A,cs,t with
 | [y0,y1,y2,y3,y4,y5,y6],_,[v0,v1,v2,v3,v4,v5,v6],_=>
  have j:=a 0 _ rfl;have l:=a 1 _ rfl;have m:=a 2 _ rfl;have p:=a 3 _ rfl;have q:=a 4 _ rfl;have r:=a 5 _ rfl;have s:=a 6 _ rfl;simp[SJ,SK]at j l m p q r s;let⟨B,b,_,L⟩:=DataW.trod_int underlying3 j;let⟨C,c,_,u⟩:=DataW.trod_int underlying3 l;let⟨D,d,_,v⟩:=DataW.trod_int underlying3 m;let⟨E,e,_,w⟩:=DataW.trod_int underlying3 p;let⟨F,f,_,y⟩:=DataW.trod_int underlying3 q;let⟨G,g,_⟩:=DataW.trod_string underlying9 r;let⟨I,i,_⟩:=DataW.trod_string underlying9 s;simp only[List.cons.injEq,and_true]at b c d e f g i;subst b c d e f g i;exact⟨⟨B,C,D,E,F,G,I⟩,⟨ID u,ID v,ID w,ID y⟩,rfl⟩
def Zh{W}{fuel:Nat}{c0}{x:DataW H×List MemPlace}(h:DataW.trod enc prog W 0 (λ_=>true) true fuel 22 [c0]=some x):
  ∃p n cap f,c0=.slice p n cap/\Script W p n f/\∀i,i<n->SFits (f i):=by
 rcases open_slice underlying22 h with⟨d,_⟩|⟨a,s,cap,m,k,D,E,d,_,G,_,y,_,r⟩
 .simp[List.cons.injEq,and_true]at d;exact⟨none,0,0,λ_=>⟨0,0,0,0,0,⟨#[]⟩,⟨#[]⟩⟩,d,λh=>absurd h oM,λi g=>absurd g oM⟩
 .simp[List.cons.injEq,and_true]at d;simp[if_true]at y;rw[MB]at r
  haveI:Inhabited SOp:=⟨⟨0,0,0,0,0,⟨#[]⟩,⟨#[]⟩⟩⟩
  let⟨f,q⟩:=choose_lt (n:=s) (p:=λi (o:SOp)=>SFits o/\∀c,c<7->W.cell? ((a.add (i*7)).add c)=o.cells[c]?) (λi g=>by
   let⟨F,j,u⟩:=r i oM;let⟨_,I,w⟩:=World.cells?_some j;obtain⟨o,A,rfl⟩:=Zg u;exact⟨o,A,w⟩)
  refine⟨some a,s,cap,f,d,λz=>?_,λi g=>(q i g).1⟩;let⟨b,t,C⟩:=a;have l:=(q 0 z).2 0 dC;have B:C=none:=by simpa [Addr.add] using World.cell?_spot (v:=.int .i64 (f 0).k) l
  subst B;refine⟨b,t,rfl,?_,λi g c d=>?_⟩
  .have j:W.cell? (ϰ b t)=some (ϊ (f 0).k)  :=by
    have e:(f 0).cells[0]?=some (ϊ (f 0).k):=rfl;rw[e]at l;simpa [Addr.add] using l
   unfold World.cell? at j
   cases hb:W.heap[b]? with
   | none=>simp[hb]at j
   | some o=>exact U hb
  .have:=(q i g).2 c d;rw[Br,Br]at this;exact this
end
def NW:laidOutB prog=true:=kR
def qB5:ownKnob prog.godebug=none:=kR
def qB3:prog.globalNamed "errors.errorType"=some 0:=kR
def qB6:(prog.cutTypes.find? (·.1 == "internal/reflectlite.rtype")).map (·.2)=some 220:=kR
def Gr:((List.range 413).filter λt=>prog.rowNamed t [101,114,114,111,114])=[38]:=kR
def qB7:prog.types.size=413:=kR
end Gw
namespace Gw
def Zz(I:DInv)(base d:Nat)(T:Int)(g:List I.G)(x y a b:Int)(s t)(w)(h:WOk I base T w d g):
  Ω 78 #[ϖ d,.agg #[ϊ 2,ϊ x,ϊ y,ϊ a,ϊ b,ϕ s,ϕ t]] w λe w'=>e=ϱ (ϐ true)/\(∃ds',WOk I base (T+2) w' d ds')/\Below base w w':=by
 have l:=h;let⟨r,nk,o,xs,n,j,c,p,q,m⟩:=h.hW;have:=U c;have:=ν (ϲ #[ϊ 2,ϊ x,ϊ y,ϊ a,ϊ b,ϕ s,ϕ t] 66) c;have:=ϻ c 0;have:=ρ c 0;clear h;go_enter func78,ntmps78;go_wp2;go_ret;have h:=l;have hK:Kp [d] w ((w.setCell (ϰ d 0) (.slice none 0 0)).alloc (ϲ #[ϊ 2,ϊ x,ϊ y,ϊ a,ϊ b,ϕ s,ϕ t] 66)):=(kF.sc _).alloc _;have i:MutC base CI w [d]:=λk f=>by rw[mS f];exact⟨h.bW,_,_,_,c,dC⟩
 refine⟨rfl,⟨g++[],h.qO4 hK i oM [] sM sM ⟨none,0,0,[],n,j,?_,wN _ _ _ _,by have:=h.len;simp;omega,?_⟩ (by have:=h.len;simp;omega)⟩,hK.below h.hbs (λk f=>(i k f).1)⟩
 .rw[aN];exact ν _ (ξ c 0 _)
 .rw[aN];exact DA m hK (λk f=>by rw[mS f];exact⟨_,_,_,c,dC⟩)
def WOk.more{I:DInv}{base:Nat}{T T':Int}{w w4 w5}{d:Nat}{b:List I.G}(h:WOk I base T w d b){pk}{nk s:Nat}{xs:List Int}{pd}{p:Nat}(j:w.heap[d]?=some (AY pk nk s pd b.length p))(u:w.ownsRow base 3 1 (.slice pk nk s) nk (Cr xs))(z:(nk:Int)<=T)(G:w.ownsRow base 119 1 (.slice pd b.length p) b.length (BU I b))
  (A:Kp [] w w4) (g:I.G) (N:I.ok base T' w4 g) (E:∀i∈I.tur g,w.heap.size<=i) (o) {m l:Nat} (Q:w5.ownsRow base 119 1 (.slice (some (ϰ m 0)) (b.length+1) l) (b.length+1) (BU I b++[ϖ (I.B g)])) (F:(w4.alloc o).grownBy w5 (Value.slice pd b.length p).ownBlock) (hT:T+2<=T'):
  WOk I base T' (w5.setCell (ϰ d 1) (.slice (some (ϰ m 0)) (b.length+1) l)) d (b++[g])/\Below base w (w5.setCell (ϰ d 1) (.slice (some (ϰ m 0)) (b.length+1) l)):=by
 have v:=Bg G;have:=U j;generalize Z:(Value.slice pd b.length p).ownBlock=r at *;have M:d∉r.toList:=λn=>by
  let⟨_,c,f⟩:=v _ n;rw[j]at f;cases f
 have B:=((A.mono (S':=r.toList) sM).alloc o).grown F (λk a=>Or.inl (by simp[a]));have C:=B.heap j M;have hK:Kp (d::r.toList) w (w5.setCell (ϰ d 1) (ϑ m 0 (b.length+1) l)):=(B.mono (S':=d::r.toList) (λi y _=>mM _ y)).sc _;have q:MutC base CI w (d::r.toList):=λk a=>by
  rcases List.mem_cons.1 a with rfl|a
  .exact⟨h.bW,_,_,_,j,dC⟩
  .let⟨D,c,f⟩:=v _ a;exact⟨D,_,_,_,f,dC⟩
 have L:Kp (d::r.toList) w4 (w5.setCell (ϰ d 1) (ϑ m 0 (b.length+1) l)):=((kF.alloc o).grown F (λk a=>Or.inl (by simp[a]))).sc _;have P:∀k,w.heap.size<=k->k∉d::r.toList:=λk a n=>by
  let⟨_,_,_,_,f,_⟩:=q k n;have:=U f;omega
 have K:∀i∈d::r.toList,i∉I.tur g:=λi y n=>P _ (E i n) y;have H:Muts base (CI++CD) w4 (d::r.toList):=λk a=>by
  let⟨j,c,t,W,u,z⟩:=q k a;exact⟨j,_,A.hp u,λV t' X e=>by cases e;exact List.mem_append_left _ z⟩
 have O:=I.qM3 N L H K (iR _);have:=h.len;refine⟨h.qO4 hK q oM [g] (λx R=>by rw[mS R];exact⟨O,E⟩) sM ⟨pk,nk,s,xs,some (ϰ m 0),l,?_,DA u hK (λk a=>?_),oM,?_⟩ sO,hK.below h.hbs (λk a=>(q k a).1)⟩
 .rw[lA];exact ξ C 1 _
 .rcases List.mem_cons.1 a with rfl|a
  .exact⟨_,_,_,j,dC⟩
  .let⟨D,c,f⟩:=v _ a;exact⟨_,_,_,f,dC⟩
 .have e:BU I (b++[g])=BU I b++[ϖ (I.B g)]:=by simp[BU]
  rw[e,lA];exact DA Q (S:=[d]) (kF.sc _) (λk a=>by rw[mS a];exact⟨_,_,_,C,dC⟩)
def Zw(I:DInv)(base n:Nat)(T:Int)(g:List I.G)(x y a b:Int)(s t)(w)(h:WOk I base T w n g)(hT:T<=70000):
  Ω 78 #[ϖ n,.agg #[ϊ 3,ϊ x,ϊ y,ϊ a,ϊ b,ϕ s,ϕ t]] w λe w'=>e=ϱ (ϐ true)/\(∃ds',WOk I base (T+2) w' n ds')/\Below base w w':=by
 have f:=h;let⟨W,nk,F,xs,v,q,o,z,A,r⟩:=h.hW;have:=U o;let⟨m,E,ah,ai⟩:=UQ a;let⟨j,ak,K,ae,ag,al⟩:=alC w (ϲ #[ϊ 3,ϊ x,ϊ y,ϊ a,ϊ b,ϕ s,ϕ t] 66) (ϲ #[ϗ none,ϊ m,ϒ none 0 0,ϐ false,ϒ none 0 0,ϐ false,ϐ false,ϗ none,ϒ none 0 0,ϊ 0,ϐ false,ϒ none 0 0,ϒ none 0 0,ϒ none 0 0] 130)
 have X:=hid (show Ω 41 #[ϊ a] j λe l=>e=ϱ (ϖ (w.heap.size+3))/\l.heap[w.heap.size+2]?=some (ϲ (enc (List.replicate (m*128) 0)) 115)/\l.heap[w.heap.size+3]?=some (DW m (w.heap.size+2) (ϒ none 0 0) 0 0)/\Kp [] j l from by
  rw[show w.heap.size+3=j.heap.size+1 by omega,show w.heap.size+2=j.heap.size by omega];refine mR (ai j) ?_;rintro l rfl;refine⟨rfl,ν _ (μ _ _),?_,(kF.alloc _).alloc _⟩;simpa using(μ (j.alloc (ϲ (enc (List.replicate (m*128) 0)) 115)) (DW m j.heap.size (ϒ none 0 0) 0 0)))
 have:=Y K;have:=U K;go_enter func78,ntmps78
 go_wp2_with (go_at_call 122;refine mR (ah _) ?_;rintro w' rfl)
 rw[<-ak];refine mR (show Calls _ _ _ _ _ from X) ?_;rintro l ⟨ac,aa,B⟩;have H:=ag.tr B;have u:=B.hp ae;have:=B.size;have L:=H.hp o;obtain⟨d,V,af,ad,ab,D,C,aj⟩:∃d,d=l.setCell (ϰ (w.heap.size+1) 0) (ϖ (w.heap.size+3))/\d.heap[w.heap.size+1]?=some (kob ⟨w.heap.size+3,m,ϒ none 0 0,false,ϒ none 0 0,false,false,none,ϒ none 0 0,0,false,ϒ none 0 0,ϒ none 0 0,ϒ none 0 0⟩)/\d.heap[w.heap.size+2]?=some (ϲ (enc (List.replicate (m*128) 0)) 115)/\d.heap[w.heap.size+3]?=some (DW m (w.heap.size+2) (ϒ none 0 0) 0 0)/\Ϙ d n (AY W nk F v g.length q)/\Kp [] w d/\d.heap.size=l.heap.size:=
  ⟨_,rfl,ξ u 0 _,(AM oM _ _).trans ac,(AM oM _ _).trans aa,(AM oM _ _).trans L,H.setCell (Or.inr sM) _,by simp[World.setCell]⟩
 have G:=DA r C (Apart.nil _ _);have:=f.len;have:=f.hbs;let⟨v5,w5,P,Q,O⟩:=KH (d.alloc (ϲ #[ϖ (w.heap.size+1)] 119)) base d.heap.size (ϒ v g.length q) g.length (BU I g) (ϖ (w.heap.size+1)) 68 119 68 (ϗ none) underlying68 FP rfl (G.alloc _) oM (μ _ _) rfl sO;obtain⟨g5,c5,rfl⟩:=CN Q;have M:Ϙ w5 n (AY W nk F v g.length q):=by
  refine Kp.heap (S:=(Value.slice v g.length q).ownBlock.toList) (((Kp.refl _ d).alloc _).grown O (λk hk=>Or.inl (by simp[hk]))) D (λE=>?_);let⟨_,c,N⟩:=(Bg G) _ E;rw[D]at N;cases N
 have:=ϻ u 0;have:=ρ u 0;have u1:=ϻ D 1;have:=ϻ M 1;have:=ρ M 1;rw[aj,V]at P;rw[V]at u1;have:=U L;have:=U u
 go_wp2_with (at_builtin;((with_reducible refine Ft ?_ ?_ P ?_);rfl;rfl))
 go_ret;let⟨o,z,A,r⟩:=(zh (n4 o z A r)).out;let⟨gn,Z,g2,g3⟩:=(hid (I.fresh base (T+2) d ⟨m,0,-1,0,0⟩ (w.heap.size+1) (w.heap.size+3) (w.heap.size+2) m (oW f.hbs) (oW f.hbs) (oW f.hbs) (oW f.t0) E af rfl (Dn.new (p:=some (ϰ (w.heap.size+2) 0)) (calls:=0) ab (λ_=>rfl) ad (f.g0.gl.qM3 C sM) sM oM))).out;have R:=(hid Q).out;rw[<-g2]at R;let⟨q1,q2⟩:=f.more o z A r C gn Z (λi hi=>by rcases g3 i hi with h|h|h<;>omega) _ R (hid O).out (iR _);exact⟨rfl,⟨_,q1⟩,q2⟩
def WOk.zA2{I:DInv}{base:Nat}{T T':Int}{w w4 w5}{b:Nat}{d:List I.G}(h:WOk I base T w b d){pk}{nk l:Nat}{xs u:List Int}{pd}{m:Nat}(j:w.heap[b]?=some (AY pk nk l pd d.length m))(v:w.ownsRow base 3 1 (.slice pk nk l) nk (Cr xs))(E:(nk:Int)<=T)(x:w.ownsRow base 119 1 (.slice pd d.length m) d.length (BU I d))
  (y:Kp [] w w4) (o) {g f:Nat} (D:w5.ownsRow base 3 1 (.slice (some (ϰ g 0)) (nk+1) f) (nk+1) (Cr u)) (A:(w4.alloc o).grownBy w5 (Value.slice pk nk l).ownBlock) (G:T+2<=T'):
  WOk I base T' (w5.setCell (ϰ b 0) (.slice (some (ϰ g 0)) (nk+1) f)) b (d++[])/\Below base w (w5.setCell (ϰ b 0) (.slice (some (ϰ g 0)) (nk+1) f)):=by
 have n:=Bg v;have:=U j;generalize F:(Value.slice pk nk l).ownBlock=r at *;have z:b∉r.toList:=λC=>by
  let⟨_,c,e⟩:=n _ C;rw[j]at e;cases e
 have q:=((y.mono (S':=r.toList) sM).alloc o).grown A (λk a=>Or.inl (by simp[a]));have s:=q.heap j z;have hK:Kp (b::r.toList) w (w5.setCell (ϰ b 0) (ϑ g 0 (nk+1) f)):=(q.mono (S':=b::r.toList) (λi B _=>mM _ B)).sc _;have p:MutC base CI w (b::r.toList):=λk a=>by
  rcases List.mem_cons.1 a with rfl|a
  .exact⟨h.bW,_,_,_,j,dC⟩
  .let⟨t,c,e⟩:=n _ a;exact⟨t,_,_,_,e,dC⟩
 have:=h.len;refine⟨h.qO4 hK p oM [] sM sM ⟨some (ϰ g 0),nk+1,f,u,pd,m,?_,?_,oM,?_⟩ sO,hK.below h.hbs (λk a=>(p k a).1)⟩
 .rw[aN];exact ξ s 0 _
 .exact DA D (S:=[b]) (kF.sc _) (λk a=>by rw[mS a];exact⟨_,_,_,s,dC⟩)
 .rw[aN];exact DA x hK (λk a=>by
   rcases List.mem_cons.1 a with rfl|a
   .exact⟨_,_,_,j,dC⟩
   .let⟨t,c,e⟩:=n _ a;exact⟨_,_,_,e,dC⟩)
def Zx(I:DInv)(base d:Nat)(T:Int)(q:List I.G)(x y a b:Int)(s t)(w)(h:WOk I base T w d q)(hT:T<=70000):
  Ω 78 #[ϖ d,.agg #[ϊ 1,ϊ x,ϊ y,ϊ a,ϊ b,ϕ s,ϕ t]] w λe w'=>e=ϱ (ϐ true)/\(∃ds',WOk I base (T+2) w' d ds')/\Below base w w':=by
 have B:Hid (∀{p:Prop},(_h:p:=by
  refine zQ 7 λK hK=>?_;apply AU rfl (DX rfl (ϊ a) _ _ _ underlying24 JE rfl rfl dC dC);apply hK _ _
  try simp[zZ]
  exact HREST)->p):=λh=>h
 have P:=h;let⟨o,nk,l,xs,G,C,g,i,m,n⟩:=h.hW;have:=U g;have:=h.hbs;have L:=zh (n4 g i m n);clear h;go_enter func78,ntmps78;go_wp2_with fail;obtain⟨f,D,v,j,u⟩:∃f,f=w.alloc (ϲ #[ϊ 1,ϊ x,ϊ y,ϊ a,ϊ b,ϕ s,ϕ t] 66)/\Ϙ f (ϳ w) (ϲ #[ϊ 1,ϊ x,ϊ y,ϊ a,ϊ b,ϕ s,ϕ t] 66)/\Ϙ f d (AY o nk l G q.length C)/\Kp [] w f:=⟨_,rfl,μ _ _,ν _ g,kF.alloc _⟩;rw[<-D];clear D;have r:=DA i u.drew (Apart.nil _ _);have Z:=u.size;let⟨v5,H,W,A,F⟩:=KH (f.drew.alloc (ϲ #[ϊ a] 3)) base f.drew.heap.size (ϒ o nk l) nk (Cr xs) (ϊ a) 24 3 24 (ϊ 0) underlying24 JE rfl (r.alloc _) oM (μ _ _) rfl sO;obtain⟨O,N,rfl⟩:=CN A;have z:Ϙ H d (AY o nk l G q.length C):=by
  have Q:=Bg r;refine Kp.heap (S:=(Value.slice o nk l).ownBlock.toList) (((Kp.refl _ f.drew).alloc _).grown F (λk V=>Or.inl (by simp[V]))) j (λhm=>?_);let⟨_,c,E⟩:=Q _ hm;rw[show f.drew.heap[d]?=f.heap[d]? from rfl,j]at E;cases E
 have M:Hid (H.ownsRow base 3 1 (ϑ O 0 (nk+1) N) (nk+1) (Cr (xs++[a]))):=by show World.ownsRow _ _ _ _ _ _ _;rw[Cr,List.map_append];exact A
 have:=ϻ j 0;have:=ϻ v 3;have:=ϻ z 0;have:=ρ z 0;have:=U j;have:=U v;clear A z g i m n r Z j v;apply shr (α:=Prop) (R:=λX=>X);apply Exists.intro;apply And.intro
 rotate_left
 .intro HREST;apply wp_region_any kR;change wpAny _ _ _ _ _ _ _ (World.drew _);apply zu 0 (ϖ d);apply zu 1 (ϖ d);apply zu 2 (ϖ d);apply zu 3 (ϖ d);apply zu 5 (ϗ (some ⟨ϳ w,3,none⟩));apply wpAny_ready (rs:=[4,6]) kR sM;refine AllReady.cons rfl (λK hK=>?_) (AllReady.cons rfl (λK hK=>?_) AllReady.nil)
  .skip
   go_simp;apply hK _ _
   try simp[zZ]
   refine zQ 6 λK hK=>?_;go_simp;apply hK _ _
   try simp[zZ]
   exact B.out
  .skip
   go_simp;apply hK _ _
   try simp[zZ]
   apply wpAny_ready (rs:=[4,7]) kR sM;refine AllReady.cons rfl (λK hK=>?_) (AllReady.cons rfl (λK hK=>?_) AllReady.nil)
   .skip
    go_simp;apply hK _ _
    try simp[zZ]
    exact B.out
   .skip
    apply AU rfl (DX rfl (ϊ a) _ _ _ underlying24 JE rfl rfl dC dC);apply hK _ _
    try simp[zZ]
    refine zQ 4 λK hK=>?_;go_simp;apply hK _ _
    try simp[zZ]
    exact HREST
 refine zQ 8 λK hK=>?_;apply AU rfl (MZ rfl rfl rfl W);apply hK _ _
 try simp[zZ]
 apply zu 9 (ϖ d);apply zu 10 (ϖ d);refine zQ 11 λK hK=>?_;go_simp;apply hK _ _;refine wpAny_done kR ?_ _;go_wp2;go_ret;let⟨g,i,m,n⟩:=L.out;let⟨q1,q2⟩:=P.zA2 g i m n u.drew _ M F (iR _);exact⟨rfl,⟨_,q1⟩,q2⟩
def IT(I:DInv)(ks:List Int):Prop:=∀(base a:Nat)(T:Int)(ds:List I.G)(o:SOp)(w:Ϣ),WOk I base T w a ds->Fit ks o->26000<=T->T<=60000->
 Ω 40 #[ϖ a,.agg #[ϊ o.k,ϊ o.x,ϊ o.y,ϊ o.a,ϊ o.b,ϕ o.s,ϕ o.t]] w λe w'=>e=ϱ (ϐ true)/\(∃ds',WOk I base (T+2) w' a ds')/\Below base w w'
def qI9(I:DInv)(ks:List Int)(m:IT I ks)(p)(n cap:Nat)(f:Nat->SOp)(w)(G:n<=16384)(g:0<w.heap.size)(C:Gg w)(y:Script w p n f)(B:∀i,i<n->Fit ks (f i)):
  Ω 17 #[.slice p n cap] w λe w'=>e=ϱ (ϊ (-1))/\Kp [] w w':=by
 have k:Kp [] w (w.alloc (AY none 0 0 none 0 0)):=kF.alloc _;have l:Hid (WOk I (ϳ w) 26000 (w.alloc (AY none 0 0 none 0 0)) (ϳ w) []):=by
  exact⟨iR _,g,sM,C.same k g,lR,⟨none,0,0,[],none,0,μ _ _,wN _ _ _ _,sM,wN _ _ _ _⟩,sM,sM,List.Pairwise.nil⟩
 go_enter func17,ntmps17;go_wp2
 go_loopw [4] (λi wr=>∃(j:Nat)(c:List I.G),j<=n/\i=.int .i64 j/\WOk I (ϳ w) (26000+2*j) wr (ϳ w) c/\Below (ϳ w) w wr) (λi _=>n-(intOf i).toNat)
 case atStart=>exact⟨0,[],zL _,rfl,l,zh (k.below lR sM)⟩
 case round=>
  obtain⟨j,c,F,rfl,z,d⟩:=hrel;by_cases b:j<n
  .obtain⟨D,H,rfl,E,a⟩:=(y.qM3 (Kp.qN2 d lR)) oM;have c0:=a j b 0 dC;have o:=a j b 1 dC;have q:=a j b 2 dC;have r:=a j b 3 dC;have s:=a j b 4 dC;have t:=a j b 5 dC;have u:=a j b 6 dC;simp[SOp.cells,zH,zI,Nat.add_zero]at c0 o q r s t u;have:(j:Int)<(n:Int):=oM
   clear a;go_wp2_with fail;refine mR (m (ϳ w) (ϳ w) (26000+2*j) c (f j) wr z (B j b) oM oM) ?_;rintro K ⟨⟨v,A⟩,x⟩;go_wp2;exact⟨⟨j+1,v,oM,by go_num,by have h:=A;rw[show((26000+2*j+2:Int))=26000+2*((j+1:Nat):Int) by omega]at h;exact h,d.trans x⟩,iO⟩
  .have:¬(j:Int)<(n:Int):=oM
   go_wp2;go_ret;exact⟨rfl,Kp.qN2 d lR⟩
structure DOps(I:DInv)(ks:List Int):Prop where
 fmt:∀(base:Nat)(T:Int)(w:Ϣ)(g:I.G),I.ok base T w g->26000<=T->T<=60000->0<base->base<=w.heap.size->w.cell? (ϰ 0 0)=some Bd->
  Ω 80 #[ϖ (I.B g)] w λe w'=>e=ϱ (ϐ true)/\DStep I base (T+2) w w' g
 opn:∀(base:Nat)(T:Int)(w:Ϣ)(g:I.G),I.ok base T w g->26000<=T->T<=60000->0<base->base<=w.heap.size->w.cell? (ϰ 0 0)=some Bd->
  Ω 81 #[ϖ (I.B g)] w λe w'=>e=ϱ (ϐ true)/\DStep I base (T+2) w w' g
 beg:∀(base:Nat)(T:Int)(w:Ϣ)(g:I.G),I.ok base T w g->26000<=T->T<=60000->0<base->base<=w.heap.size->w.cell? (ϰ 0 0)=some Bd->(I.kf g).x≠none->∀wrt:Bool,
  Ω 82 #[ϖ (I.B g),ϐ wrt] w λe w'=>e=ϱ (ϐ true)/\DStep I base (T+2) w w' g
 txn:∀(base:Nat)(T:Int)(w:Ϣ)(g:I.G),I.ok base T w g->26000<=T->T<=60000->0<base->base<=w.heap.size->w.cell? (ϰ 0 0)=some Bd->(I.kf g).x≠none->∀(j:Nat) (hj:j<(I.tbs g).length) (o:SOp),13<=o.k->o.k∈ks->SFits o->
  Ω 83 #[ϖ (I.B g),ϖ ((I.tbs g)[j]),.agg #[ϊ o.k,ϊ o.x,ϊ o.y,ϊ o.a,ϊ o.b,ϕ o.s,ϕ o.t]] w λe w'=>e=ϱ (ϐ true)/\DStep I base (T+2) w w' g
 looks:∀(base:Nat)(T:Int)(w:Ϣ)(g:I.G),I.ok base T w g->26000<=T->T<=70000->
  Ω 84 #[ϖ (I.B g)] w λe w'=>e=ϱ (ϐ true)/\Kp [] w w'
def IS(I:DInv)(base a:Nat)(T:Int)(w w':Ϣ):Prop:=(∃b,WOk I base (T+2) w' a b)/\Below base w w'
def WOk.done{I:DInv}{base c:Nat}{T:Int}{w w1 w2}{a:List I.G}(h:WOk I base T w c a)(hK:Kp [] w w1)(j:Nat)(d:j<a.length)(e:DStep I base (T+2) w1 w2 a[j]):IS I base c T w w2:=by
 have b:=h.same hK (iR _);exact⟨b.one j d e oM,(hK.below h.hbs sM).trans (e.below (b.all _ (gM d)) b.hbs)⟩
def WOk.idle{I:DInv}{base a:Nat}{T:Int}{w w1}{b:List I.G}(h:WOk I base T w a b)(hK:Kp [] w w1):IS I base a T w w1:=
 ⟨⟨b,h.same hK oM⟩,hK.below h.hbs sM⟩
def qF4(I:DInv)(ks:List Int)(O:DOps I ks)(base n:Nat)(T:Int)(d:List I.G)(k x y a b:Int)(s t)(w)(h:WOk I base T w n d)(Q:26000<=T)(P:T<=60000)(F:SFits ⟨k,x,y,a,b,s,t⟩)(a4:k∈ks)(a9:10<=k)(ba:k<=20)(hd:d.length≠0):
  Ω 40 #[ϖ n,.agg #[ϊ k,ϊ x,ϊ y,ϊ a,ϊ b,ϕ s,ϕ t]] w λe w'=>e=ϱ (ϐ true)/\IS I base n T w w':=by
 have:=h.hbs;have ay:Kp [] w (w.alloc (ϲ #[ϊ k,ϊ x,ϊ y,ϊ a,ϊ b,.string s,.string t] 66)):=(Kp.refl _ _).alloc _;have HF:=zh (n2 F a4);have aj:=F.x.1;have ak:=F.x.2;have al:=F.y.1;have am:=F.y.2;simp only at aj ak al am;have:¬20<k:=oM
 have:¬k<10:=oM
 go_enter func40,ntmps40;go_wp2_with fail;refine(Pq n k x y a b s t _ oM).mono ?_;rintro e o ⟨rfl,ae⟩;have ab:=zh (ay.tr ae);have E:=zh (h.same ab (Int.le_refl _));have l:=ae.heap (μ w (ϲ #[ϊ k,ϊ x,ϊ y,ϊ a,ϊ b,.string s,.string t] 66)) sM;let⟨pk,nk,ck,xs,pd,M,aa,h2,h3,h4⟩:=E.out.hW;obtain⟨u,cur,rfl,a8,af,a2⟩:=Ib h4 oM;have:=U aa;have:=U l;have:=U af;have:=E.out.len;have:¬((d.length:Int)=0):=oM
 have k1:=Y aa 1;simp only[AY,zG,zH,zI]at k1;have:=ϻ l 0;go_wp2_with fail
 .rename_i A;exfalso;simp at A;rcases A with (A|A)|A
  .exact hd (by simp[A])
  .omega
  .omega
 have f:o.drew.heap[n]?=some (AY pk nk ck (some (ϰ u 0)) d.length M)/\o.drew.heap[w.heap.size]?=some (ϲ #[ϊ k,ϊ x,ϊ y,ϊ a,ϊ b,.string s,.string t] 66)/\o.drew.heap[u]?=some (ϲ cur 119):=⟨aa,l,af⟩;refine wp_region_held_drew (S:=λW=>W.heap[n]?=some (AY pk nk ck (some (ϰ u 0)) d.length M)/\W.heap[w.heap.size]?=some (ϲ #[ϊ k,ϊ x,ϊ y,ϊ a,ϊ b,.string s,.string t] 66)/\W.heap[u]?=some (ϲ cur 119)) kR f (λ_=>?_);refine zP 0 n 0 f ?_;refine zP 1 n 0 f ?_;refine zP 2 n 1 f ?_;refine zV 3 (.slice (some (ϰ u 0)) d.length M) rfl (λW g=>by have c:=Y g.1 1;simp[AY]at c;go_simp) f ?_;refine zP 4 w.heap.size 1 f ?_;refine zV 5 (ϊ x) rfl (λW g=>by have c:=Y g.2.1 1;simp at c;go_simp) f ?_;refine zP 6 n 0 f ?_;refine zP 7 n 0 f ?_;refine zP 8 n 1 f ?_;refine zV 9 (.slice (some (ϰ u 0)) d.length M) rfl (λW g=>by have c:=Y g.1 1;simp[AY]at c;go_simp) f ?_;refine zU 10 (ϊ d.length) f ?_;refine zq 11 λK hK=>?_;go_simp;refine(EG x d.length _ aj ak oM oM).mono ?_;rintro e D ⟨j,rfl,B,rfl⟩;refine zk hK f ?_
 refine zU 12 (.pointer (some (ϰ u j))) f ?_;refine zV 13 (ϖ (I.B d[j])) rfl (λW g=>by have c:=Y g.2.2 j;rw[Ie a2 j B]at c;go_simp) f ?_;refine zU 14 (ϖ (I.B d[j])) f ?_;refine zd ?_;have z:=zh ab.drew;have q:=zh ((E.same (Kp.refl [] _).drew (Int.le_refl _)).all _ (List.getElem_mem B));have H:=zh ((E.same (Kp.refl [] _).drew (Int.le_refl _)).g0.e0);have G:=zh E.hbs;have:=U l;have l:=l;have:=ϻ l 0;by_cases av:k=10
 .subst av;go_wp2_with fail;refine(O.fmt base T o.drew _ q Q P h.hb G H).mono ?_;rintro e D ⟨rfl,p⟩;have r:=zh (h.done z j B p);go_wp2;go_ret;exact⟨rfl,r⟩
 by_cases aw:k=11
 .subst aw;go_wp2_with fail;refine(O.opn base T o.drew _ q Q P h.hb G H).mono ?_;rintro e D ⟨rfl,p⟩;have r:=zh (h.done z j B p);go_wp2;go_ret;exact⟨rfl,r⟩
 have R:=I.qY1 q.out;have:=U R;have X:=Y R 7;have L:=Y R 11;simp only[kob,zG,zH,zI]at X L
 cases hxx:(I.kf d[j]).x with
 | none=>
  rw[hxx]at X;go_wp2;go_ret;exact⟨rfl,h.idle z⟩
 | some xa=>
  rw[hxx]at X;have ad:Hid ((I.kf d[j]).x≠none):=by intro h;rw[h]at hxx;cases hxx
  by_cases ax:k=12
  .subst ax;have l:=l;have:=ϻ l 3;go_wp2_with fail;refine(O.beg base T o.drew _ q Q P h.hb G H ad _).mono ?_;rintro e D ⟨rfl,p⟩;have r:=zh (h.done z j B p);go_wp2;go_ret;exact⟨rfl,r⟩
  let⟨pt,N,ai,a5⟩:=I.row q.out;have a6:=I.zA0 q.out;rw[ai]at L;by_cases hz:(I.tbs d[j]).length=0
  .rw[hz]at L;go_wp2;go_ret;exact⟨rfl,h.idle z⟩
  obtain⟨v,Z,rfl,ag,a1⟩:=a5 oM;have a7:¬(((I.tbs d[j]).length:Int)=0):=oM
  let⟨m,hm⟩:=eY ((I.tbs d[j]).length);rw[hm]at L a7 a6 hz;have:=U ag;have au:Hid ((I.kf d[j]).ts=.slice (some (ϰ v 0)) m N):=by rw[<-hm];exact ai
  have ao:Hid (∀i (h:i<m),Z[i]?=some (ϖ ((I.tbs d[j])[i]'oM))):=λi h=>a1 i oM;have:=l;go_wp2_with fail;have ah:∀V:World,V.heap[I.B d[j]]?=some (kob (I.kf d[j]))->V.cell? ⟨I.B d[j],11,none⟩=some (.slice (some (ϰ v 0)) m N):=λV hV=>by
   have c:=Y hV 11;simp only[kob,zG,zH,zI]at c;rw[c,au.out]
  have f:o.drew.drew.heap[I.B d[j]]?=some (kob (I.kf d[j]))/\o.drew.drew.heap[w.heap.size]?=some (ϲ #[ϊ k,ϊ x,ϊ y,ϊ a,ϊ b,.string s,.string t] 66)/\o.drew.drew.heap[v]?=some (ϲ Z 132):=⟨R,l,ag⟩;refine wp_region_held_drew (S:=λW=>W.heap[I.B d[j]]?=some (kob (I.kf d[j]))/\W.heap[w.heap.size]?=some (ϲ #[ϊ k,ϊ x,ϊ y,ϊ a,ϊ b,.string s,.string t] 66)/\W.heap[v]?=some (ϲ Z 132)) kR f (λ_=>?_);refine zU 0 (ϖ (I.B d[j])) f ?_;refine zU 1 (ϖ (I.B d[j])) f ?_;refine zU 2 (.pointer (some ⟨I.B d[j],11,none⟩)) f ?_;refine zV 3 (.slice (some (ϰ v 0)) m N) rfl (λW g=>by have:=ah _ g.1;go_simp) f ?_;refine zP 4 w.heap.size 2 f ?_;refine zV 5 (ϊ y) rfl (λW g=>by have c:=Y g.2.1 2;simp at c;go_simp) f ?_;refine zU 6 (ϖ (I.B d[j])) f ?_;refine zU 7 (ϖ (I.B d[j])) f ?_;refine zU 8 (.pointer (some ⟨I.B d[j],11,none⟩)) f ?_;refine zV 9 (.slice (some (ϰ v 0)) m N) rfl (λW g=>by have:=ah _ g.1;go_simp) f ?_;refine zU 10 (ϊ m) f ?_;refine zq 11 λK hK=>?_;go_simp;refine(EG y m _ al am oM oM).mono ?_;rintro e D ⟨C,rfl,a3,rfl⟩;refine zk hK f ?_
  refine zU 12 (.pointer (some (ϰ v C))) f ?_;refine zV 13 (ϖ ((I.tbs d[j])[C]'oM)) rfl (λW g=>by have c:=Y g.2.2 C;rw[ao.out C a3]at c;go_simp) f ?_;refine zU 14 (ϖ ((I.tbs d[j])[C]'oM)) f ?_;refine zd ?_;have ar:=zh z.drew;have aq:=zh (I.qM3 q (Kp.refl [] _).drew (Muts.nil _ _ _) sM (Int.le_refl _));have ap:=zh H.out;have an:=zh G.out;have:=U l;have a0:=l;have:=Y a0;go_wp2_with fail;refine(O.txn base T o.drew.drew _ aq Q P h.hb an ap ad C oM ⟨k,x,y,a,b,s,t⟩ (by show 13<=k;omega) HF.2 HF.1).mono ?_;rintro e D ⟨rfl,p⟩;let⟨g',L',q1,q2,_⟩:=p;have ac:=O.looks base (T+2) D g' q1 oM oM;rw[q2]at ac;go_wp2_with fail;refine ac.mono ?_;rintro e w3 ⟨rfl,az⟩;have r:=zh (h.done ar j B (p.after az));go_wp2;go_ret;exact⟨rfl,r⟩
def Zs(I:DInv)(base c:Nat)(T:Int)(k x y a b:Int)(s t)(w)(h:WOk I base T w c [])(p:5<=k)(q:k<=9):
  Ω 124 #[ϖ c,.agg #[ϊ k,ϊ x,ϊ y,ϊ a,ϊ b,ϕ s,ϕ t]] w λe w'=>e=ϱ (ϐ true)/\(∃ds',WOk I base (T+2) w' c ds')/\Below base w w':=by
 have g:=h;let⟨u,nk,o,xs,r,n,d,i,j,l⟩:=h.hW;have f:=hid g;have:=U d;have:¬k<5:=oM
 have:¬9<k:=oM
 have m:=Y d 1;simp only[AY,List.length_nil,zG,zH,zI]at m;clear h g d i j l;go_enter func124,ntmps124;go_wp2;go_ret;have hK:Kp [] w (w.alloc (ϲ #[ϊ k,ϊ x,ϊ y,ϊ a,ϊ b,.string s,.string t] 66)):=kF.alloc _;exact⟨rfl,⟨[],f.same hK oM⟩,hK.below f.hbs sM⟩
def Zo(I:DInv)(base d:Nat)(T:Int)(f:List I.G)(x y a b:Int)(s t)(w)(h:WOk I base T w d f)(hT:T<=70000)(hx:I64 x)(ha:I64 a)(hb:I64 b)(hd:1<=f.length):
  Ω 124 #[ϖ d,.agg #[ϊ 5,ϊ x,ϊ y,ϊ a,ϊ b,ϕ s,ϕ t]] w λe w'=>e=ϱ (ϐ true)/\(∃P,WOk I base (T+2) w' d P)/\Below base w w':=by
 have Sz:Hid (∀{p:Prop},(_h:p:=by
  refine zQ 11 λK hK=>?_;refine AU rfl (Na rfl #[ϖ (r.heap.size+1),ϊ n,G,.bool F,H,.bool L,.bool E,.pointer none,.slice none 0 0,ϊ 0,.bool false,.slice none 0 0,.slice none 0 0,.slice none 0 0] rfl) ?_;refine hK _ _ ?_
  try simp only[zZ]
  refine zQ 12 λK hK=>?_;refine AU rfl (DX rfl (ϖ m.heap.size) _ _ _ underlying68 FP rfl rfl dC dC) ?_;refine hK _ _ ?_
  try simp only[zZ]
  exact HREST)->p):=λh=>h
 have h':=h;let⟨O,nk,M,xs,pd,v,D,N,h3,Q⟩:=h.hW;obtain⟨o,cur,rfl,bh,aq,a4⟩:=Ib Q hd;have HH:=hid h';have:=U D;have:=U aq;have:=h.len;have:=h.hbs;have:¬((f.length:Int)=0):=oM
 have H1:=hid (show w.heap[d]?=some (AY O nk M (some (ϰ o 0)) f.length v)/\w.ownsRow base 3 1 (.slice O nk M) nk (Cr xs)/\(nk:Int)<=T/\w.ownsRow base 119 1 (.slice (some (ϰ o 0)) f.length v) f.length (BU I f) from⟨D,N,h3,Q⟩);have k1:=ϻ D 1;clear h h' N h3 Q;go_enter func124,ntmps124;go_wp2_with fail;obtain⟨z,a2,ag,ap,a1,ac⟩:∃z,z=w.alloc (ϲ #[ϊ 5,ϊ x,ϊ y,ϊ a,ϊ b,.string s,.string t] 66)/\z.heap[w.heap.size]?=some (ϲ #[ϊ 5,ϊ x,ϊ y,ϊ a,ϊ b,.string s,.string t] 66)/\z.heap[d]?=some (AY O nk M (some (ϰ o 0)) f.length v)/\z.heap[o]?=some (ϲ cur 119)/\Kp [] w z:=⟨_,rfl,μ _ _,ν _ D,ν _ aq,(Kp.refl _ _).alloc _⟩;rw[<-a2];clear a2 D aq k1;have g:z.drew.heap[d]?=some (AY O nk M (some (ϰ o 0)) f.length v)/\z.drew.heap[w.heap.size]?=some (ϲ #[ϊ 5,ϊ x,ϊ y,ϊ a,ϊ b,.string s,.string t] 66)/\z.drew.heap[o]?=some (ϲ cur 119):=⟨ap,ag,a1⟩;refine wp_region_held_drew (S:=λW=>W.heap[d]?=some (AY O nk M (some (ϰ o 0)) f.length v)/\W.heap[w.heap.size]?=some (ϲ #[ϊ 5,ϊ x,ϊ y,ϊ a,ϊ b,.string s,.string t] 66)/\W.heap[o]?=some (ϲ cur 119)) kR g (λ_=>?_);refine zP 0 d 0 g ?_;refine zP 1 d 0 g ?_;refine zP 2 d 1 g ?_;refine zV 3 (.slice (some (ϰ o 0)) f.length v) rfl (λW u=>by have c:=Y u.1 1;simp[AY]at c;clear u;go_simp) g ?_;refine zP 4 w.heap.size 1 g ?_;refine zV 5 (ϊ x) rfl (λW u=>by have c:=Y u.2.1 1;simp at c;clear u;go_simp) g ?_;refine zP 6 d 0 g ?_;refine zP 7 d 0 g ?_;refine zP 8 d 1 g ?_;refine zV 9 (.slice (some (ϰ o 0)) f.length v) rfl (λW u=>by have c:=Y u.1 1;simp[AY]at c;clear u;go_simp) g ?_;refine zU 10 (ϊ f.length) g ?_;refine zq 11 λK hK=>?_;go_simp;refine(EG x f.length _ hx.1 hx.2 oM oM).mono ?_;rintro e r ⟨j,rfl,hj,rfl⟩;refine zk hK g ?_
 refine zU 12 (.pointer (some (ϰ o j))) g ?_;refine zV 13 (ϖ (I.B f[j])) rfl (λW u=>by have c:=Y u.2.2 j;rw[Ie a4 j hj]at c;clear u;go_simp) g ?_;refine zU 14 (ϖ (I.B f[j])) g ?_;refine zd ?_;have ar:=HH.out.all f[j] (List.getElem_mem hj);have hB:=I.qY1 ar;have bd:=I.copy ar;generalize be:I.B f[j]=B at *;generalize bf:I.kf f[j]=kf at *;let⟨A,n,G,F,H,L,E,x0,c0,bg,bj,bk,bi,bl⟩:=kf;let⟨κ,C,l,ws,bm,q,a8,al,a6⟩:=bd;simp only at *;have ax:=hid a6;clear be bf g a4 a1 a6 ar;have aa:=ac.hp hB;have av:=hid ((al.qM4 ac).qM4 (Kp.refl [] _).drew);have aw:=hid al.len;have o0:=Y ag;have:=U ag;have:=U aa;have k0:=Y aa;simp only[kob,zG,zH,zI]at k0;clear al hB;go_wp2_with fail;refine(Hu a _ ha.1 ha.2).mono ?_;rintro e r ⟨ja,rfl,rfl⟩;go_wp2_with fail;refine(Hu b _ hb.1 hb.2).mono ?_;rintro e r ⟨jb,rfl,rfl⟩;go_wp2_with fail;refine(Sw av).mono ?_;rintro e r ⟨rfl,ad⟩;have am:=ac.drew.tr ad;have ab:=ad.heap (k:=B) aa sM;have a3:=ad.heap (k:=d) ap sM;clear aa av ap ag o0 k0 ac ad;have k1:=ϻ ab 1;have:=U ab;go_wp2_with fail;refine(Xu n n ⟨(l.take (n*128)).toArray⟩ r ((OW n r a8 n oM oM).mono λe w' ⟨D,Z,hZ,bb,N⟩=>⟨D,by rw[N,Lp Z _ hZ bb]⟩) a8).mono ?_;rintro e m ⟨rfl,l3,_,a5,az,ak,ae⟩;rw[a5 (by have:=aw.out;simp[ByteArray.size];omega)]at ak;clear a5;have af:=am.tr ae;have a0:=ae.hp ab;have V:=ae.hp a3;have ba:=hid am.size;have ay:=hid af.size;clear ab a3 k1 ae am;go_wp2_with fail;let⟨ko,ah⟩:=eX (kob ⟨r.heap.size+1,n,G,F,H,L,E,none,.slice none 0 0,0,false,.slice none 0 0,.slice none 0 0,.slice none 0 0⟩);have aj:=DA H1.2.2.2 af.drew (Apart.nil _ _);let⟨v5,w5,a7,ai,au⟩:=KH ((m.drew.alloc ko).alloc (ϲ #[ϖ m.heap.size] 119)) base (m.drew.alloc ko).heap.size (.slice (some (ϰ o 0)) f.length v) f.length (BU I f) (ϖ m.heap.size) 68 119 68 (.pointer none) underlying68 FP rfl ((aj.alloc _).alloc _) oM (μ _ _) rfl (by have:=ay.out;simp;omega);obtain⟨g5,c5,rfl⟩:=CN ai;have HZ:=hid (show(m.drew.alloc ko).heap.size=m.heap.size+1 by simp);have ao:w5.heap[d]?=some (AY O nk M (some (ϰ o 0)) f.length v):=by
  have bc:=Bg aj;refine Kp.heap (S:=(Value.slice (some (ϰ o 0)) f.length v).ownBlock.toList) ((((Kp.refl _ m.drew).alloc _).alloc _).grown au (λk hk=>Or.inl (by simp[hk]))) V (λhm=>?_);let⟨_,c,hc⟩:=bc _ hm;rw[show m.drew.heap[d]?=m.heap[d]? from rfl,V]at hc;cases hc
 have HX:=hid (show ∃P,WOk I base (T+2) (w5.setCell (ϰ d 1) (.slice (some (ϰ g5 0)) (f.length+1) c5)) d P/\Below base w (w5.setCell (ϰ d 1) (.slice (some (ϰ g5 0)) (f.length+1) c5)) from by
  let⟨D,N,h3,Q⟩:=H1.out;have:=ba.out;have:=ay.out;have an:Kp [] w (m.drew.alloc ko):=af.drew.alloc _;let⟨g',q1,q2,q3⟩:=ax.out (T+2) _ ⟨n,0,-1,0,0⟩ m.heap.size (r.heap.size+1) r.heap.size oM (by have:=HH.out.t0;omega) an oM oM oM (by rw[<-ah];exact μ _ _) rfl (Dn.new (p:=some (ϰ r.heap.size 0)) (calls:=0) (ν _ az) (λ_=>rfl) (ν _ ak) (HH.g0.gl.qM3 an sM) (by have:=aw.out;simp;omega) oM);rw[<-q2]at ai;let⟨r1,r2⟩:=HH.out.more D N h3 Q an g' q1 (λi hi=>by rcases q3 i hi with e|e|e<;>omega) _ ai au (Int.le_refl _);exact⟨_,r1,r2⟩)
 have:=ϻ V 1;have:=ϻ ao 1;have:=ρ ao 1;have:=U V;have a9:=hid ah;rw[ah,kob]at a7;clear ai au ao aj V ak az af ah ax;refine shr (α:=Prop) (R:=λX=>X) ?_;apply Exists.intro;apply And.intro
 rotate_left
 .intro HREST;refine wp_region_any kR ?_;change wpAny _ _ _ _ _ _ _ (World.drew _);refine zu 0 (ϖ d) ?_;refine zu 1 (ϖ d) ?_;refine zu 2 (ϖ d) ?_;refine zu 3 (.pointer (some (ϰ d 1))) ?_;refine zu 5 (ϖ (r.heap.size+1)) ?_;refine zu 6 (ϖ B) ?_;refine zu 7 (ϖ B) ?_;refine zu 8 (.pointer (some (ϰ B 1))) ?_;refine wpAny_ready (rs:=[4,9]) kR sM ?_;refine AllReady.cons rfl (λK hK=>?_) (AllReady.cons rfl (λK hK=>?_) AllReady.nil)
  .skip
   go_simp;refine hK _ _ ?_
   try simp only[zZ]
   refine zQ 9 λK hK=>?_;refine AU rfl (Cw (t:=123) rfl kR 6 kR B 1 rfl (show m.drew.heap[B]?=_ from a0) sM (show _=#[ϊ n,G,.bool F,H,.bool L,.bool E] from rfl)) ?_;refine hK _ _ ?_
   try simp only[zZ]
   refine zu 10 (.agg #[ϖ (r.heap.size+1),ϊ n,G,.bool F,H,.bool L,.bool E,.pointer none,.slice none 0 0,ϊ 0,.bool false,.slice none 0 0,.slice none 0 0,.slice none 0 0]) ?_;exact Sz.out
  .skip
   refine AU rfl (Cw (t:=123) rfl kR 6 kR B 1 rfl (show m.drew.heap[B]?=_ from a0) sM (show _=#[ϊ n,G,.bool F,H,.bool L,.bool E] from rfl)) ?_;refine hK _ _ ?_
   try simp only[zZ]
   refine zu 10 (.agg #[ϖ (r.heap.size+1),ϊ n,G,.bool F,H,.bool L,.bool E,.pointer none,.slice none 0 0,ϊ 0,.bool false,.slice none 0 0,.slice none 0 0,.slice none 0 0]) ?_;refine wpAny_ready (rs:=[4,11]) kR sM ?_;refine AllReady.cons rfl (λK hK=>?_) (AllReady.cons rfl (λK hK=>?_) AllReady.nil)
   .skip
    go_simp;refine hK _ _ ?_
    try simp only[zZ]
    exact Sz.out
   .skip
    refine AU rfl (Na rfl #[ϖ (r.heap.size+1),ϊ n,G,.bool F,H,.bool L,.bool E,.pointer none,.slice none 0 0,ϊ 0,.bool false,.slice none 0 0,.slice none 0 0,.slice none 0 0] rfl) ?_;refine hK _ _ ?_
    try simp only[zZ]
    refine wpAny_ready (rs:=[4,12]) kR sM ?_;refine AllReady.cons rfl (λK hK=>?_) (AllReady.cons rfl (λK hK=>?_) AllReady.nil)
    .skip
     go_simp;refine hK _ _ ?_
     try simp only[zZ]
     refine zQ 12 λK hK=>?_;refine AU rfl (DX rfl (ϖ m.heap.size) _ _ _ underlying68 FP rfl rfl dC dC) ?_;refine hK _ _ ?_
     try simp only[zZ]
     exact HREST
    .skip
     refine AU rfl (DX rfl (ϖ m.heap.size) _ _ _ underlying68 FP rfl rfl dC dC) ?_;refine hK _ _ ?_
     try simp only[zZ]
     refine zQ 4 λK hK=>?_;go_simp;refine hK _ _ ?_
     try simp only[zZ]
     have hz:=HZ.out;rw[a9.out,kob]at hz;simp only at hz;rw[hz]at HREST;exact HREST
 refine zQ 13 λK hK=>?_;refine AU rfl (MZ rfl rfl rfl a7) ?_;refine hK _ _ ?_
 try simp only[zZ]
 refine zu 14 (ϖ d) ?_;refine zu 15 (.pointer (some (ϰ d 1))) ?_;refine zQ 16 λK hK=>?_;go_simp;refine hK _ _ ?_;refine wpAny_done kR ?_ _;go_wp2;go_ret;let⟨P,r1,r2⟩:=HX.out;exact⟨rfl,⟨P,r1⟩,r2⟩
def ZA(I:DInv)(base f:Nat)(T:Int)(g:List I.G)(k x y a b:Int)(s t)(w)(h:WOk I base T w f g)(n:5<=k)(o:k<=9)
  (H:∀w,WOk I base T w f g->1<=g.length->Ω 124 #[ϖ f,.agg #[ϊ k,ϊ x,ϊ y,ϊ a,ϊ b,ϕ s,ϕ t]] w λe w'=>e=ϱ (ϐ true)/\(∃ds',WOk I base (T+2) w' f ds')/\Below base w w'):
  Ω 78 #[ϖ f,.agg #[ϊ k,ϊ x,ϊ y,ϊ a,ϊ b,ϕ s,ϕ t]] w λe w'=>e=ϱ (ϐ true)/\(∃ds',WOk I base (T+2) w' f ds')/\Below base w w':=by
 have l:Kp [] w (w.alloc (ϲ #[ϊ k,ϊ x,ϊ y,ϊ a,ϊ b,.string s,.string t] 66)):=kF.alloc _;have m:=hid (show Ω 124 #[ϖ f,.agg #[ϊ k,ϊ x,ϊ y,ϊ a,ϊ b,.string s,.string t]] (w.alloc (ϲ #[ϊ k,ϊ x,ϊ y,ϊ a,ϊ b,.string s,.string t] 66)) λe w'=>e=ϱ (.bool true)/\(∃ds',WOk I base (T+2) w' f ds')/\Below base w w' from by
  have i:=h.same l (iR _);have j:=l.below h.hbs sM
  cases g with
  | nil=>exact(Zs I base f T k x y a b s t _ i n o).mono λe w' ⟨a,b,c⟩=>⟨a,b,j.trans c⟩
  | cons d g=>exact(H _ i sM).mono λe w' ⟨a,b,c⟩=>⟨a,b,j.trans c⟩)
 have:¬k=1:=oM
 have:¬k=2:=oM
 have:¬k=3:=oM
 have:¬k=4:=oM
 clear h l H n o;go_enter func78,ntmps78;go_wp2_with fail;refine(show Calls _ _ _ _ _ from m).mono ?_;rintro e q ⟨rfl,i,j⟩;have p:=hid (And.intro i j);clear i j m;go_wp2;go_ret;exact⟨rfl,p⟩
open Go.ChangeMaps
structure TK where
 over:Bool
 wrt:Bool
 nr:Int
def cnt(wr:Bool)(ks:List TK):Nat:=ks.countP fun k=>!k.over && (k.wrt == wr)
structure Books(s:Sto)(D:Ϫ)(ks:List TK):Prop where
 size:Maps.size D=cnt false ks
 keys:∀m,Maps.has D (χ m)=true↔∃(j:Nat)(k:TK),ks[j]?=some k/\k.over=false/\k.wrt=false/\k.nr=m
 wrs:∀(j:Nat)(k:TK),ks[j]?=some k->k.over=false->k.wrt=true->k.nr=s.wr
 wr1:s.wr≠0->∃(j:Nat)(k:TK),ks[j]?=some k/\k.over=false/\k.wrt=true/\k.nr=s.wr
 nrs:∀(j:Nat)(k:TK),ks[j]?=some k->1<=k.nr/\k.nr<=s.bg
 four:Maps.size D<=4
 qR0:∀(a b:Nat)(ka kb:TK),ks[a]?=some ka->ks[b]?=some kb->ka.nr=kb.nr->a=b
def Hl{a b:Int}(h:χ a=χ b):a=b:=by
 simp[χ]at h;cases h;rfl
def NO(a:Int):WideAt.IsKeyLit (χ a):=by
 simp[χ,WideAt.IsKeyLit]
def Books.none{s}{D}(c:Maps.size D=0)(d:∀m,Maps.has D (χ m)=false)(e:s.wr=0):Books s D []:=
 ⟨by rw[c];rfl,λm=>by simp[d m],λj k h=>by simp at h,λh=>absurd e h,λj k h=>by simp at h,oM,λa b ka kb h=>by simp at h⟩
def DC{ks:List TK}{x k:TK}{j:Nat}(h:(ks++[x])[j]?=some k):ks[j]?=some k\/(j=ks.length/\k=x):=by
 rcases Nat.lt_or_ge j ks.length with a|a
 .rw[List.getElem?_append_left a]at h;exact .inl h
 .rw[List.getElem?_append_right a]at h;have:j-ks.length=0:=by
   rcases Nat.eq_zero_or_pos (j-ks.length) with b|b
   .exact b
   .rw[gN sO]at h;cases h
  rw[this]at h;simp at h;exact .inr ⟨oM,h.symm⟩
def IX{ks:List TK}{x k:TK}{j:Nat}(h:ks[j]?=some k):(ks++[x])[j]?=some k:=by
 have:j<ks.length:=by
  rcases Nat.lt_or_ge j ks.length with a|a
  .exact a
  .rw[gN a]at h;cases h
 rw[List.getElem?_append_left this];exact h
def Mi{ks:List TK}{k:TK}{j:Nat}(h:ks[j]?=some k):j<ks.length:=by
 rcases Nat.lt_or_ge j ks.length with a|a
 .exact a
 .rw[gN a]at h;cases h
def Books.nw{s}{D}{ks:List TK}(h:Books s D ks)(c:s.wr=0){j:Nat}{k:TK}(a:ks[j]?=some k)(b:k.over=false):k.wrt=false:=by
 cases hw:k.wrt with
 | false=>rfl
 | true=>
  have:=h.wrs j k a b hw;have:=(h.nrs j k a).1;omega
def Books.qT3{s}{D}{ks:List TK}(h:Books s D ks)(n:s.wr=0)(r:0<=s.bg):Books s.wrote D (ks++[⟨false,true,s.bg+1⟩]):=by
 refine⟨?_,λm=>?_,λj k c ho hw=>?_,λ_=>?_,λj k c=>?_,h.four,λa b ka kb f hb' e=>?_⟩
 .rw[h.size,cnt,cnt,List.countP_append];simp[List.countP_cons]
 .rw[h.keys m];constructor
  .rintro⟨j,k,d,g⟩;exact⟨j,k,IX d,g⟩
  .rintro⟨j,k,d,g,i,o⟩;rcases DC d with d|⟨_,rfl⟩
   .exact⟨j,k,d,g,i,o⟩
   .cases i
 .rcases DC c with c|⟨_,rfl⟩
  .have:=h.nw n c ho;rw[hw]at this;cases this
  .rfl
 .exact⟨ks.length,⟨false,true,s.bg+1⟩,sM,rfl,rfl,rfl⟩
 .rcases DC c with c|⟨_,rfl⟩
  .have:=h.nrs j k c;exact⟨this.1,by show k.nr<=s.bg+1;omega⟩
  .exact⟨by show 1<=s.bg+1;omega,iR _⟩
 .rcases DC f with f|⟨p,rfl⟩<;>rcases DC hb' with l|⟨q,rfl⟩
  .exact h.qR0 a b ka kb f l e
  .have:=(h.nrs a ka f).2;simp only at e;omega
  .have:=(h.nrs b kb l).2;simp only at e;omega
  .omega
def Books.qU5{s}{D d}{ks:List TK}(h:Books s D ks)(n:Maps.Tidy D)(x:0<=s.bg)(i:Maps.size D<4):Books s.read (D.put (χ (s.bg+1)) d) (ks++[⟨false,false,s.bg+1⟩]):=by
 have p:Maps.has D (χ (s.bg+1))=false:=by
  cases hh:Maps.has D (χ (s.bg+1)) with
  | false=>rfl
  | true=>
   let⟨j,k,c,_,_,i⟩:=(h.keys _).1 hh;have:=(h.nrs j k c).2;omega
 refine⟨?_,λm=>?_,λj k f ho hw=>?_,λhw=>?_,λj k f=>?_,by rw[Maps.size_put n,p,if_neg sM];omega,λa b q r l u e=>?_⟩
 .rw[Maps.size_put n,p,if_neg sM,h.size,cnt,cnt,List.countP_append];simp[List.countP_cons]
 .by_cases e:m=s.bg+1
  .subst e;rw[Maps.has_put_same n.isMap (NO _)];simp[true_iff];exact⟨ks.length,⟨false,false,s.bg+1⟩,sM,rfl,rfl,rfl⟩
  .rw[Maps.has_put_other (λh=>e (Hl h)),h.keys m];constructor
   .rintro⟨j,k,c,g⟩;exact⟨j,k,IX c,g⟩
   .rintro⟨j,k,c,g,t,i⟩;rcases DC c with c|⟨_,rfl⟩
    .exact⟨j,k,c,g,t,i⟩
    .exact absurd i.symm e
 .rcases DC f with f|⟨_,rfl⟩
  .exact h.wrs j k f ho hw
  .cases hw
 .let⟨j,k,c,g⟩:=h.wr1 hw;exact⟨j,k,IX c,g⟩
 .rcases DC f with f|⟨_,rfl⟩
  .have:=h.nrs j k f;exact⟨this.1,by show k.nr<=s.bg+1;omega⟩
  .exact⟨by show 1<=s.bg+1;omega,iR _⟩
 .rcases DC l with l|⟨v,rfl⟩<;>rcases DC u with o|⟨w,rfl⟩
  .exact h.qR0 a b q r l o e
  .have:=(h.nrs a q l).2;simp only at e;omega
  .have:=(h.nrs b r o).2;simp only at e;omega
  .omega
def Books.left{s}{D}{ks:List TK}(h:Books s D ks)(F:Maps.Tidy D){i:Nat}{k:TK}(f:ks[i]?=some k)(E:k.over=false):Books (s.left k.nr) (D.del (χ k.nr)) (ks.set i ⟨true,k.wrt,k.nr⟩):=by
 have u:=Mi f;have K:ks[i]=k:=by rw[gQ u]at f;exact Option.some.inj f
 have p:∀j x,(ks.set i ⟨true,k.wrt,k.nr⟩)[j]?=some x->(j≠i/\ks[j]?=some x)\/(j=i/\x=⟨true,k.wrt,k.nr⟩):=λj x d=>by
  rw[List.getElem?_set]at d;split at d
  .rename_i e;subst e;simp[u]at d;exact .inr ⟨rfl,d.symm⟩
  .rename_i e;exact .inl ⟨λh=>e h.symm,d⟩
 have C:∀j x,j≠i->ks[j]?=some x->(ks.set i ⟨true,k.wrt,k.nr⟩)[j]?=some x:=λj x q d=>by
  rw[List.getElem?_set_ne (λe=>q e.symm)];exact d
 refine⟨?_,λm=>?_,λj x d ho' hw=>?_,λhw=>?_,λj x d=>?_,by have o:=Maps.size_del (k:=χ k.nr) F;have:=h.four;omega,λa b v w G H e=>?_⟩
 .have o:=Maps.size_del (k:=χ k.nr) F;rw[h.size]at o;have I:cnt false (ks.set i ⟨true,k.wrt,k.nr⟩)=cnt false ks-(if k.wrt=false then 1 else 0):=by
   rw[cnt,List.countP_set u,K,cnt];cases hw:k.wrt<;>simp[E,hw]
  rw[I]
  cases hw:k.wrt with
  | false=>
   have:Maps.has D (χ k.nr)=true:=(h.keys _).2 ⟨i,k,f,E,hw,rfl⟩;rw[this]at o;simp at o |-;omega
  | true=>
   have:Maps.has D (χ k.nr)=false:=by
    cases hh:Maps.has D (χ k.nr) with
    | false=>rfl
    | true=>
     let⟨j,x,c,_,n,g⟩:=(h.keys _).1 hh;have:=h.qR0 j i x k c f g;subst this;rw[f]at c;cases c;rw[hw]at n;cases n
   rw[this]at o;simp at o |-;omega
 .by_cases e:m=k.nr
  .subst e;rw[Maps.has_del_same];simp only[Bool.false_eq_true,false_iff];rintro⟨j,x,c,l,n,g⟩;rcases p j x c with⟨q,c⟩|⟨_,rfl⟩
   .exact q (h.qR0 j i x k c f g)
   .cases l
  .rw[Maps.has_del_other (λh=>e (Hl h)),h.keys m];constructor
   .rintro⟨j,x,c,l,n,g⟩;refine⟨j,x,C j x (λt=>?_) c,l,n,g⟩;subst t;rw[f]at c;cases c;exact e g.symm
   .rintro⟨j,x,c,l,n,g⟩;rcases p j x c with⟨_,c⟩|⟨_,rfl⟩
    .exact⟨j,x,c,l,n,g⟩
    .cases l
 .rcases p j x d with⟨q,d⟩|⟨_,rfl⟩
  .have:=h.wrs j x d ho' hw;show x.nr=(s.left k.nr).wr;have r:k.nr≠s.wr:=λe=>q (h.qR0 j i x k d f (by rw[this,e]));rw[Sto.left];simp only[if_neg r];exact this
  .cases ho'
 .have r:k.nr≠s.wr:=λe=>by
   apply hw;simp[Sto.left,e]
  have L:s.wr≠0:=λe=>by
   apply hw;simp[Sto.left,r,e]
  let⟨j,x,c,l,n,g⟩:=h.wr1 L;refine⟨j,x,C j x (λt=>?_) c,l,n,?_⟩
  .subst t;rw[f]at c;cases c;exact r g
  .simp only[Sto.left,if_neg r];exact g
 .rcases p j x d with⟨_,d⟩|⟨_,rfl⟩
  .exact h.nrs j x d
  .exact h.nrs i k f
 .rcases p a v G with⟨c,A⟩|⟨y,rfl⟩<;>rcases p b w H with⟨l,B⟩|⟨z,rfl⟩
  .exact h.qR0 a b v w A B e
  .subst z;exact h.qR0 a b v k A f e
  .subst y;exact h.qR0 a b k w f B e
  .rw[y,z]
def Books.qX1{s}{D}{ks:List TK}(h:Books s D ks):s.wr=0↔cnt true ks=0:=by
 rw[cnt,List.countP_eq_zero];constructor
 .intro a k i;obtain⟨j,g,rfl⟩:=gO i;have:=λb=>h.nw a (gQ g) b;cases b:ks[j].over<;>simp[b]at this |-;simp[this]
 .intro f;rcases Decidable.em (s.wr=0) with a|a
  .exact a
  .let⟨j,k,c,d,e,l⟩:=h.wr1 a;have:=f k (mO c);simp[d,e]at this
end Gw
def KQ{a b}(h:CP a=CP b):a=b:=by
 have e:=congrArg toB h;rw[Gx,Gx]at e;cases a;cases b;simp only at e
 congr 1
 exact Array.toList_inj.1 e
def ZE{p p'}(i:AD p)(j:AD p'){r r':List Int}(h:AP p++r=AP p'++r'):p=p'/\r=r':=by
 let⟨o,q,s⟩:=i;let⟨l,m,n⟩:=j;simp[AP,aA,cA,nA,List.cons.injEq]at h;let⟨k,c⟩:=h;have f:p.k.size=p'.k.size:=oM
 have g:p.v.size=p'.v.size:=oM
 let⟨a,d⟩:=List.append_inj c (by rw[Ef,Ef,f]);let⟨b,e⟩:=List.append_inj d (by rw[Ef,Ef,g]);refine⟨?_,e⟩;cases p;cases p';simp only at a b;rw[KQ a,KQ b]
def Ic:∀(ps a:List KV)(r r':List Int),(∀p∈ps,AD p)->(∀p∈a,AD p)->ps.length=a.length->ps.flatMap AP++r=a.flatMap AP++r'->ps=a
 | [],[],_,_,_,_,_,_=>rfl
 | [],_::_,_,_,_,_,h,_=>by cases h
 | _::_,[],_,_,_,_,h,_=>by cases h
 | p::ps,p'::a,r,r',h1,h2,hl,h=>by
  rw[fC,fC,aA,aA]at h;let⟨c,d⟩:=ZE (h1 p sM) (h2 p' sM) h;rw[c,Ic ps a r r' (λq b=>h1 q (by simp[b])) (λq b=>h2 q (by simp[b])) (sU hl) d]
def XW{h h'}(s:h.key.size<=8)(t:h'.key.size<=8)(g:h.p=none)(i:h'.p=none)(b:0<=h.b/\h.b<65536)(c:0<=h'.b/\h'.b<65536)(j:0<=h.s/\h.s<18446744073709551616)(k:0<=h'.s/\h'.s<18446744073709551616){r r':List Int}(e:AQ h++r=AQ h'++r'):h=h'/\r=r':=by
 simp[AQ,aA]at e;let⟨l,m⟩:=List.append_inj e (by rw[BJ,BJ]);let⟨n,d⟩:=List.append_inj m (by rw[BJ,BJ]);simp[cA,nA,List.cons.injEq]at d;let⟨q,o⟩:=d;let⟨f,p⟩:=List.append_inj o (by rw[Ef,Ef];omega);have a:=congrArg BF l;rw[DM 2 _ oM b.1 (sU b.2),DM 2 _ oM c.1 (sU c.2)]at a;have n2:=congrArg BF n;rw[DM 8 _ oM j.1 (sU j.2),DM 8 _ oM k.1 (sU k.2)]at n2;refine⟨?_,p⟩;cases h;cases h';simp only at g i a n2 f;rw[KQ f,a,n2,g,i]
def Pf(h:HL):Prop:=h.p=none/\h.key.size<=8/\0<=h.b/\h.b<65536/\0<=h.s/\h.s<18446744073709551616
def OI:∀(ps a:List HL)(r r':List Int),(∀p∈ps,Pf p)->(∀p∈a,Pf p)->ps.length=a.length->ps.flatMap AQ++r=a.flatMap AQ++r'->ps=a
 | [],[],_,_,_,_,_,_=>rfl
 | [],_::_,_,_,_,_,h,_=>by cases h
 | _::_,[],_,_,_,_,h,_=>by cases h
 | p::ps,p'::a,r,r',h1,h2,hl,h=>by
  rw[fC,fC,aA,aA]at h;let⟨c,d,e,f,g,i⟩:=h1 p sM;let⟨j,k,l,m,n,o⟩:=h2 p' sM;let⟨s,t⟩:=XW d k c j ⟨e,f⟩ ⟨l,m⟩ ⟨g,i⟩ ⟨n,o⟩ h;rw[s,OI ps a r r' (λq b=>h1 q (by simp[b])) (λq b=>h2 q (by simp[b])) (sU hl) t]
def Gv{xs a:List Int}(b:∀x∈xs,0<=x/\x<256)(c:∀x∈a,0<=x/\x<256)(h:toB xs=toB a):xs=a:=by
 rw[<-EP xs b,<-EP a c,h]
def Gi{a b:Int}{ps ps'}{hs hs'}(h:Ab a ps hs=Ab b ps' hs'):a=b/\ps.length+hs.length=ps'.length+hs'.length/\∃r r',ps.flatMap AP++(hs.flatMap AQ++r)=ps'.flatMap AP++(hs'.flatMap AQ++r'):=by
 simp[Ab,CB,aA,cA,nA,List.cons.injEq]at h;exact⟨h.1,oW h.2.1,_,_,h.2.2⟩
def NX{N:Nat}{l}(k:N<=1000):∀{n b:Nat} {s:Int} {t},Laid N l n b s t->∃ps a,τ l b=toB (Ab (n:Int) ps a)/\∀x∈Ab (n:Int) ps a,0<=x/\x<256
 | 0,b,s,t,h=>by
  let⟨_,_,_,c,d,e,f⟩:=h;exact⟨prs t,[],c,Cd 0 _ [] oM oM sO d sM⟩
 | n+1,b,s,t,h=>by
  let⟨_,_,g,a,c,d,e,f,i,j⟩:=h;exact⟨[],a,e,Cd _ [] a oM oM sO sM f⟩
def FU{N:Nat}{l}(d:N<=1000){n a b:Nat}{s j:Int}{t}{t':Tn a}(h:Laid N l n b s t)(i:Laid N l a b j t'):n=a:=by
 let⟨ps,k,e,f⟩:=NX d h;let⟨o,m,c,g⟩:=NX d i;rw[e]at c;have:=(Gi (Gv f g c)).1;omega
def JP{N:Nat}{l}(D:N<=1000):∀(n b:Nat)(s y:Int)(t t'),Laid N l n b s t->Laid N l n b y t'->s=y/\t=t'
 | 0,b,s,y,t,t',h,h'=>by
  let⟨_,_,a,B,j,C,T⟩:=h;let⟨_,_,c,g,d,A,S⟩:=h';rw[B]at g;have e:=Gv (Cd 0 _ [] oM oM sO j sM) (Cd 0 _ [] oM oM sO d sM) g;refine⟨by rw[a,c,e],?_⟩;let⟨_,F,r,r',f⟩:=Gi e;exact Ic (prs t) (prs t') _ _ j d (sU F) f
 | n+1,b,s,y,t,t',h,h'=>by
  let⟨_,_,h2,L,a,B,j,C,T,h8⟩:=h;let⟨_,_,g2,M,c,g,d,A,S,g8⟩:=h';rw[j]at d;have e:=Gv (Cd _ [] L oM oM sO sM C) (Cd _ [] M oM oM sO sM A) d;refine⟨by rw[B,g,e],?_⟩;let⟨_,F,r,r',f⟩:=Gi e;simp[List.flatMap_nil,nA]at f;have Q:=OI L M _ _ (λp G=>Laid.links a C D p G) (λp G=>Laid.links c A D p G) (sU F) f;subst Q;refine(List.ext_getElem (a.1.symm.trans c.1) λi z P=>?_:J t=J t');have X:=a.2 i (by rw[a.1];exact z) z;have Z:=c.2 i (by rw[a.1];exact z) P;let⟨V,w⟩:=X;let⟨W,x⟩:=Z
  cases x1:(J t)[i].ref with
  | none=>rw[x1]at w;let⟨_,_,q,_,E⟩:=w;exact E.elim
  | some y1=>
   cases x2:(J t')[i].ref with
   | none=>rw[x2]at x;let⟨_,_,q,_,E⟩:=x;exact E.elim
   | some y2=>
    rw[x1]at w;rw[x2]at x;let⟨b1,s1,_,O⟩:=w;let⟨b2,s2,_,H⟩:=x;have I:y1.1=y2.1:=oM
    rw[<-I]at H;have K:=JP D n y1.1 _ _ _ _ O H;have R:=Prod.ext I K.1;have k:=V.symm.trans W;have o:(J t)[i].ref=(J t')[i].ref:=by rw[x1,x2,R]
    have m:=K.2
    revert k o m
    generalize (J t)[i]=u;generalize (J t')[i]=v;intro k o m;cases u;cases v;simp only at k o m;rw[k,o,m]
def Cl(N:Nat)(l:ϣ)(n:Nat)(ks:Ϥ):Prop:=∀(m b:Nat)(s:Int)(t:Tn m),m<n->Laid N l m b s t->b∈ks->∀k∈Blk m b t,k∈ks
def Rc(N:Nat)(l:ϣ)(n:Nat)(ks a:Ϥ):Prop:=∀k∈a,k∈ks\/∃(m:Nat)(s:Int)(t:Tn m),m<n/\Laid N l m k s t
structure Bel(N:Nat)(l:ϣ)(n:Nat)(ks ks':Ϥ):Prop where
 sub:∀k∈ks,k∈ks'
 new:Rc N l n ks ks'
 cl:Cl N l n ks'
def Bel.refl{N n:Nat}{l}{ks}(h:Cl N l n ks):Bel N l n ks ks:=⟨λ_ h=>h,λ_ h=>Or.inl h,h⟩
def Bel.trans{N n:Nat}{l}{a b c}(h:Bel N l n a b)(k:Bel N l n b c):Bel N l n a c:=
 ⟨λx e=>k.sub x (h.sub x e),λx e=>by
  rcases k.new x e with d|d
  .exact h.new x d
  .exact Or.inr d,k.cl⟩
def II(N:Nat)(l:ϣ)(n:Nat):Prop:=∀(t:Tn n)(ks:Ϥ),Cl N l n ks->(∀a (e:n=a+1),∀m∈J (e ▸ t:Tn (a+1)),BX N l a m)->
 Bel N l n ks (Bc n t ks)/\∀a (e:n=a+1),∀m∈J (e ▸ t:Tn (a+1)),∀k∈BB a m,k∈Bc n t ks
def Ia{N:Nat}{l}:∀{n:Nat} {m},BX N l n m->∀n' (e:n=n'+1),∀u∈J (e ▸ m.sub:Tn (n'+1)),BX N l n' u
 | 0,_,_,n',e=>by cases e
 | n+1,m,h,n',e=>by
  cases e;intro u f
  cases hx:m.ref with
  | none=>exact h.2 hx u f
  | some x=>
   let⟨_,_,_,k,c,_⟩:=h.1 x hx;obtain⟨i,d,rfl⟩:=gO f;have a:=(c.2 i (by rw[c.1];exact d) d).2;have key:∀y,(J m.sub)[i].ref=some y->Laid N l n y.1 y.2 (J m.sub)[i].sub:=λy hy=>by rw[hy]at a;exact a.2.2.2
   have j:(J m.sub)[i].ref≠none:=λb=>by rw[b]at a;let⟨_,_,q,_,g⟩:=a;exact g
   cases n with
   | zero=>exact key
   | succ n=>exact⟨key,λb=>absurd b j⟩
def Dm{n:Nat}{m}{x:Nat×Int}(h:m.ref=some x):BB n m=Blk n x.1 m.sub:=by
 cases n<;>simp[BB,h]
def Pj{N:Nat}{l}{n:Nat}{m}(h:BX N l n m){x:Nat×Int}(a:m.ref=some x):Laid N l n x.1 x.2 m.sub:=by
 cases n with
 | zero=>exact h x a
 | succ n=>exact h.1 x a
def Sg{n b:Nat}{t}{k:Nat}(h:k∈Blk n b t):k=b\/∃c,∃e:n=c+1,∃u∈J (e ▸ t:Tn (c+1)),k∈BB c u:=by
 cases n with
 | zero=>exact Or.inl (by simpa [Blk] using h)
 | succ n=>
  simp[Blk,mC,List.mem_flatMap]at h;rcases h with h|⟨u,d,a⟩
  .exact Or.inl h
  .refine Or.inr ⟨n,rfl,u,d,?_⟩
   cases hx:u.ref with
   | none=>rw[hx]at a;cases a
   | some x=>rw[hx]at a;rw[Dm hx];exact a
def Qc{N:Nat}{l}(p:N<=1000)(n:Nat)(B:II N l n)(m)(y:BX N l n m)(ks)(o:Cl N l (n+1) ks):
  Bel N l (n+1) ks (Bh (Bc n) ks m)/\∀k∈BB n m,k∈Bh (Bc n) ks m:=by
 cases hx:m.ref with
 | none=>
  have e:Bh (Bc n) ks m=Bc n m.sub ks:=by simp[Bh,hx]
  rw[e];let⟨d,v⟩:=B m.sub ks (λf b s t h=>o f b s t oM) (Ia y);refine⟨⟨d.sub,λk c=>?_,λf b s t q g hbk k c=>?_⟩,λk c=>?_⟩
  .rcases d.new k c with h|⟨a,s,t,r,i⟩
   .exact Or.inl h
   .exact Or.inr ⟨a,s,t,oM,i⟩
  .by_cases z:f<n
   .exact d.cl f b s t z g hbk k c
   .rcases d.new b hbk with h|⟨a,H,t',r,i⟩
    .exact d.sub k (o f b s t q g h k c)
    .have:=FU p g i;omega
  .cases n with
   | zero=>simp[BB,hx]at c
   | succ n=>
    simp[BB,hx,List.mem_flatMap]at c;let⟨u,A,c⟩:=c;exact v n rfl u A k c
 | some x=>
  have g:=Pj y hx;by_cases w:x.1∈ks
  .have e:Bh (Bc n) ks m=ks:=by simp[Bh,hx,if_pos w]
   rw[e];exact⟨Bel.refl o,λk c=>by rw[Dm hx]at c;exact o n x.1 x.2 m.sub oM g w k c⟩
  .have e:Bh (Bc n) ks m=Bc n m.sub (x.1::ks):=by simp[Bh,hx,if_neg w]
   rw[e];have E:Cl N l n (x.1::ks):=λf b s t q j d k c=>by
    rcases List.mem_cons.1 d with rfl|d
    .have:=FU p j g;omega
    .exact mM _ (o f b s t oM j d k c)
   let⟨d,v⟩:=B m.sub (x.1::ks) E (Ia y);have C:∀k∈Blk n x.1 m.sub,k∈Bc n m.sub (x.1::ks):=λk c=>by
    rcases Sg c with rfl|⟨G,D,u,A,c⟩
    .exact d.sub _ List.mem_cons_self
    .exact v G D u A k c
   refine⟨⟨λk c=>d.sub k (mM _ c),λk c=>?_,λf b s t q j hbk k c=>?_⟩,λk c=>by rw[Dm hx]at c;exact C k c⟩
   .rcases d.new k c with h|⟨a,s,t,r,i⟩
    .rcases List.mem_cons.1 h with rfl|h
     .exact Or.inr ⟨n,x.2,m.sub,oM,g⟩
     .exact Or.inl h
    .exact Or.inr ⟨a,s,t,oM,i⟩
   .by_cases z:f<n
    .exact d.cl f b s t z j hbk k c
    .have F:f=n:=oM
     subst F;rcases d.new b hbk with h|⟨a,H,t',r,i⟩
     .rcases List.mem_cons.1 h with rfl|h
      .rw[(JP p _ _ _ _ _ _ j g).2]at c;exact C k c
      .exact d.sub k (mM _ (o _ b s t q j h k c))
     .have:=FU p j i;omega
def Np{N:Nat}{l:ϣ}(f:N<=1000)(n:Nat)(c:II N l n):∀(ls:List (Lnk (Tn n))) (ks:Ϥ),(∀m∈ls,BX N l n m)->Cl N l (n+1) ks->
  Bel N l (n+1) ks (ls.foldl (Bh (Bc n)) ks)/\∀m∈ls,∀k∈BB n m,k∈ls.foldl (Bh (Bc n)) ks
 | [],ks,_,hc=>⟨Bel.refl hc,λm b=>by cases b⟩
 | a::ls,ks,h,hc=>by
  let⟨d,i⟩:=Qc f n c a (h a sM) ks hc;let⟨e,j⟩:=Np f n c ls (Bh (Bc n) ks a) (λm b=>h m (by simp[b])) d.cl;refine⟨d.trans e,λm b k g=>?_⟩;rcases List.mem_cons.1 b with rfl|b
  .exact e.sub k (i k g)
  .exact j m b k g
def Ml{N:Nat}{l}(b:N<=1000):∀n,II N l n
 | 0=>λt ks a _=>⟨Bel.refl a,λg e=>by cases e⟩
 | n+1=>λt ks a f=>by
  let⟨c,d⟩:=Np b n (Ml b n) (J t) ks (f n rfl) a;exact⟨c,λg e=>by cases e;exact d⟩
def ClA(N:Nat)(l:ϣ)(ks:Ϥ):Prop:=∀n,Cl N l n ks
def Cu:Root→List Nat
 | .none=>[]
 | .at n l=>BB n l
def BY(N:Nat)(l:List UInt8):Root→Prop
 | .none=>True
 | .at n m=>BX N l n m
def ClA.nil(N:Nat)(l):ClA N l []:=λn m b s t _ _ h=>by cases h
def GJ{N:Nat}{l}(f:N<=1000)(rt)(ks)(u:BY N l rt)(g:ClA N l ks):(∀k∈ks,k∈ω ks rt)/\ClA N l (ω ks rt)/\∀k∈Cu rt,k∈ω ks rt:=by
 cases rt with
 | none=>exact⟨λ_ h=>h,g,λk d=>by cases d⟩
 | «at» n m=>
  let⟨c,q⟩:=Qc f n (Ml f n) m u ks (g (n+1));refine⟨c.sub,λp j b s t r e i k d=>?_,q⟩;rcases c.new b i with h|⟨a,w,t',v,o⟩
  .exact c.sub k (g p j b s t r e h k d)
  .exact c.cl j b s t (oW (FU f e o)) e i k d
def GK{N:Nat}{l:ϣ}(e:N<=1000):∀(rs:List Root)(ks:Ϥ),(∀r∈rs,BY N l r)->ClA N l ks->(∀k∈ks,k∈rs.foldl ω ks)/\ClA N l (rs.foldl ω ks)/\∀r∈rs,∀k∈Cu r,k∈rs.foldl ω ks
 | [],ks,_,hc=>⟨λ_ h=>h,hc,λr b=>by cases b⟩
 | a::rs,ks,h,hc=>by
  let⟨i,j,m⟩:=GJ e a ks (h a sM) hc;let⟨d,f,g⟩:=GK e rs (ω ks a) (λr b=>h r (by simp[b])) j;refine⟨λk c=>d k (i k c),f,λr b k c=>?_⟩;rcases List.mem_cons.1 b with rfl|b
  .exact d k (m k c)
  .exact g r b k c
def EU{N:Nat}{ks}:∀b∈Ar N ks,2<=b/\b<N/\b∉ks:=by
 intro b a;simp[Ar,List.mem_filter,List.mem_range'_1,decide_eq_true_eq]at a;exact⟨a.1.1,oM,a.2⟩
def Nr(N:Nat)(ks):(Ar N ks).Nodup:=List.Pairwise.filter _ List.nodup_range'
def Ty{N:Nat}{l:ϣ}(j:N<=1000)(q:N*128<=l.length)(n:Nat)(L:Lnk (Tn n))(rs:List Root)(s:BX N l n L)(t:OkL n L)(z:n<6)(C:∀r∈rs,BY N l r)
  (o:news n L<=(Ar N (rs.foldl ω (ω [] (.at n L)))).length) (ws:ϥ) (i:ws=(φ n L (Ar N (rs.foldl ω (ω [] (.at n L))))).2.1):
  (∀x∈ws,x.1<N/\x.2.length=128)/\(∃x,(φ n L (Ar N (rs.foldl ω (ω [] (.at n L))))).1.ref=some x/\Laid N (laidAll l ws) n x.1 x.2 (φ n L (Ar N (rs.foldl ω (ω [] (.at n L))))).1.sub)/\
  (∀r∈rs,∀k∈Cu r,τ (laidAll l ws) k=τ l k)/\(∀k,k<2->τ (laidAll l ws) k=τ l k):=by
 let⟨D,u,v⟩:=GJ j (.at n L) [] s (ClA.nil N l);let⟨w,E,y⟩:=GK j rs _ C u;have d:=EU (N:=N) (ks:=rs.foldl ω (ω [] (.at n L)));have A:=Nr N (rs.foldl ω (ω [] (.at n L)));generalize rs.foldl ω (ω [] (.at n L))=ks at *;have e:=FV n L (Ar N ks) o;rw[<-i]at e;have p:∀x∈ws,x.1∈Ar N ks:=λx c=>by
  have h:x.1∈ws.map Prod.fst:=List.mem_map_of_mem c;rw[e]at h;exact mT h
 have g:∀x∈ws,x.1<N/\x.2.length=128:=λx c=>⟨(d x.1 (p x c)).2.1,JV n L _ t x (by rw[<-i];exact c)⟩;have f:∀k,(k∈ks\/k<2)->τ (laidAll l ws) k=τ l k:=λk a=>Mo N k ws l q g (λhm=>by
  obtain⟨x,c,rfl⟩:=List.mem_map.1 hm;have h:=d _ (p x c);rcases a with a|a
  .exact h.2.2 a
  .omega)
 refine⟨g,?_,λr B k a=>f k (Or.inl (y r B k a)),λk a=>f k (Or.inr a)⟩;refine Oa N l (laidAll l ws) n L (Ar N ks) s t z (λb m=>⟨(d b m).1,(d b m).2.1⟩) o (λx c=>?_) (λk a=>f k (Or.inl (w k (v k a))));rw[<-i]at c;refine Sf N ws x l q g ?_ c;rw[e];exact A.sublist (List.take_sublist _ _)
def WN:(prog.info? 263).map (·.size)=some 2:=kR
def MY(d:Nat)(a)(W):Sem.run prog (Op.equalIn (d+1) 82 (ϗ (some a)) (ϗ (some a))) W=.ok true W:=by
 let⟨i,b,c⟩:=Option.map_eq_some_iff.1 WN;simp[Op.equalIn,run_underlying underlying82,run_sizeOf W b,c,run_sameAddr_same]
def Qk(V:Nat)(h)(a rs:Int)(e:h.p=none)(d:h.key=⟨#[]⟩)(W):
  Sem.run prog (Op.equalIn 10000 89 (θ V h) (θ V ⟨⟨#[]⟩,a,rs,none⟩)) W=.ok (decide (h.b=a/\h.s=rs)) W:=by
 have:∀W:World,Sem.run prog (Op.equalIn 9998 85 (ϗ none) (ϗ none)) W=.ok true W:=λW=>GY 9997 W;have:∀W:World,Sem.run prog (Op.equalIn 9997 85 (ϗ none) (ϗ none)) W=.ok true W:=λW=>GY 9996 W;have:=MY 9998 (ϰ V 0);have f:h.ptr=none:=by simp[HL.ptr,e]
 rw[θ,θ,f,d,show HL.ptr ⟨⟨#[]⟩,a,rs,none⟩=none from rfl];go_simp;by_cases b:h.b=a<;>by_cases c:h.s=rs<;>simp[b,c]
def qI2(V q:Nat)(h)(a rs:Int)(c:h.p=some q)(b:h.key=⟨#[]⟩)(W):
  Sem.run prog (Op.equalIn 10000 89 (θ V h) (θ V ⟨⟨#[]⟩,a,rs,none⟩)) W=.ok false W:=by
 have:∀W:World,Sem.run prog (Op.equalIn 9998 85 (ϖ q) (ϗ none)) W=.ok false W:=λW=>MX 9997 _ W;have:=MY 9998 (ϰ V 0);have d:h.ptr=some (ϰ q 0):=by simp[HL.ptr,c]
 rw[θ,θ,d,b,show HL.ptr ⟨⟨#[]⟩,a,rs,none⟩=none from rfl];go_simp
open Go.Maps (Keyed)
section
attribute [local go_sem] Oper.semAt_some
def Kp.qW5{a b}{c:Option Nat}(h:a.grownBy b c):Kp c.toList a b:=kF.grown h (λk d=>Or.inl (by rw[d];simp))
def Kp.qQ3{S}{a b}(h:Kp S a b){l:Nat}(f:l∈S)(o):Kp S a (b.putObj l o):=
 ⟨h.os,h.tape,h.output,by have:=h.size;simp[World.putObj];omega,λk d c=>(World.putObj_heap_other (by intro e;subst e;exact c f)).trans (h.block k d c)⟩
def qK6{nn:Nat}{g:Operand}{ps:Array Tmp}{assign body:Code}{Q:Exit->Act->ϯ}{a:Act}{w}(z:Nat)(lb)(S:List Int->Prop)(N:Nat)(h1:1<=nn)
  (hg:a.eval g=.func (.func z) #[] lb) (eg:ϴ z) (ax:ps.size=1) (az:SeqGives Fence.wide (nn-1) prog z lb (.int .u64) S N w)
  (Jj:List Int->ϯ)
  (H:∀s W F T,Jj s W->Kp T W F->(∀k∈T,w.heap.size<=k/\∀c t j,W.heap[k]?≠some (ϲ c t j))->Jj s F)
  (ah:∀W,Kp [] w W->Jj [] W)
  (X:Int->Act)
  (ao:∀(l:Nat)(x:Int)(W)(K:Act->ϯ),K (X x) W->assign.wpIn (Fence.wide.inRound l) (nn-1-1) prog (Exit.then K (λ_ _ _=>False)) { tmps:=(ps.zip #[.int .u64 x]).foldl (λt (p,v)=>t.setIfInBounds p v) a.tmps,defers:=[] } W)
  (aq:∀(l:Nat)(C:List Int)(x:Int)(W),Jj C W->C.length<N->w.heap.size+2<=W.heap.size->
   body.wpIn (Fence.wide.inRound l) (nn-1-1) prog (λe _ f=>match e with
    | .normal=>Jj (C++[x]) f/\W.heap.size<=f.heap.size/\∀(k:Nat)(o),W.heap[k]?=some o->(∀c t j,o≠Obj.cells c t j)->f.heap[k]?=some o
    | _=>False) (X x) W)
  (ar:∀(W)(u:List Int),S u->Jj u W->W.heap[w.heap.size]?=some (.deferred (some []))->Q .normal { a with defers:={ target:=.collected w.heap.size,args:=#[] }::a.defers } W):
  (Code.rangeFunc g ps assign body).wpIn Fence.wide nn prog Q a w:=by
 apply wpIn_rangeFunc;intro fn au;obtain⟨b,q⟩:∃b:LoopState->Option Code->Loop,b=λst pe=>{ state:=st,pending:=pe,fn,tmps:=a.tmps,params:=ps,assign,body,defers:=w.heap.size }:=⟨_,rfl⟩;let⟨d,A⟩:=eY ((w.alloc (.deferred (some []))).alloc (.loop (b .ready none)));have am:d.heap[w.heap.size+1]?=some (.loop (b .ready none)):=by
  rw[<-A];have:=World.alloc_heap_new (w.alloc (.deferred (some []))) (.loop (b .ready none));rwa [World.size_alloc]at this
 have af:Ϙ d w.heap.size (.deferred (some [])):=by
  rw[<-A];exact(Below.heap_alloc _ _ _ sM).trans (World.alloc_heap_new w _)
 have al:Kp [] w d:=by rw[<-A];exact(kF.alloc _).alloc _
 have ae:Below w.heap.size w d:=by rw[<-A];exact((Below.refl _ w).alloc lR _).alloc sM _
 have a2:d.heap.size=w.heap.size+2:=by rw[<-A];simp
 refine⟨w.heap.size+1,[{ target:=.collected w.heap.size,args:=#[] }],d,{ target:=.fn (.func z) lb,args:=#[.func (.yield (w.heap.size+1)) #[] #[]] },d,z,
  #[.func (.yield (w.heap.size+1)) #[] #[]]++lb,d,?_,?_,?_,?_,λh=>(by cases h),?_⟩
 .rw[<-A,q];exact run_enterLoop_outer _ _ _ _ _
 .simp[resolve,hg];simp[go_sem]
 .intro f' a0;trivial
 .simp[invoke,go_sem,eg]
 .refine (az (w.heap.size+1) (λu W=>Jj u W/\W.heap[w.heap.size+1]?=some (.loop (b .ready none))/\Ϙ W w.heap.size (.deferred (some []))) d ae ?_ ?_ ⟨ah d al,am,af⟩).mono ?_
  .rintro u W F a4 ⟨M,m,G⟩ R ad;have ac:=λr e=>(ad r e).2;refine⟨H u W F _ M (Kp.qW5 R) (λk n=>?_),(grownBy_keeps R ac m rfl).trans m,(grownBy_keeps R ac G rfl).trans G⟩;let⟨h3,o,h4,h5⟩:=ad k (sU n);exact⟨oM,λc t j e=>by rw[h4]at e;cases e;cases h5⟩
  .
   rintro C x W ⟨M,m,G⟩ aw;have a1:=U m;have hy:=run_yield (P:=prog) (args:=#[.int .u64 x]) m (by rw[q];simp[ax]);rw[q]at hy;refine⟨fn,_,assign,body,hy,roundIn_of_wpIn au (ao _ x W _ ?_)⟩;refine⟨_,run_beginRound m (by rw[q]),?_⟩;obtain⟨f,aa,an,O⟩:∃f,f=W.putObj (w.heap.size+1) (.loop { b .ready none with state:=.busy })/\f.heap[w.heap.size+1]?=some (.loop { b .ready none with state:=.busy })/\Kp [w.heap.size+1] W f:=
    ⟨_,rfl,World.putObj_heap_same (U m),kF.qQ3 sM _⟩
   have av:KeepsWalks W f:=by rw[aa];exact KeepsWalks.putObj _ m rfl
   rw[<-aa];have aj:=H _ _ _ _ M O (λk n=>by rw[mS n];exact⟨oM,λc t j e=>by rw[m]at e;cases e⟩);refine wpIn_mono (aq _ C x f aj aw (oW O.size)) ?_;rintro e a3 y B
   cases e with
   | normal=>
    let⟨ak,ay,V⟩:=B;have I:=V _ _ an (λc t j e=>by cases e);have ap:=V _ _ (O.hp G) (λc t j e=>by cases e);have E:=run_endRound (P:=prog) none I;rw[q]at E;refine⟨_,_,E,rfl,?_⟩;have D:Kp [w.heap.size+1] y (y.putObj (w.heap.size+1) (.loop (b .ready none))):=kF.qQ3 sM _;have ab:(Jj (C++[x]) (y.putObj (w.heap.size+1) (.loop (b .ready none)))/\(y.putObj (w.heap.size+1) (.loop (b .ready none))).heap[w.heap.size+1]?=some (.loop (b .ready none))/\(y.putObj (w.heap.size+1) (.loop (b .ready none))).heap[w.heap.size]?=some (.deferred (some [])))/\KeepsWalks W (y.putObj (w.heap.size+1) (.loop (b .ready none))):=
     ⟨⟨H _ _ _ _ ak D (λk n=>by rw[mS n];exact⟨oM,λc t j e=>by rw[I]at e;cases e⟩),World.putObj_heap_same (U I),D.hp ap⟩,
      (av.trans ⟨ay,λk o n ho=>V k o n (λc t j e=>by rw[e]at ho;cases ho)⟩).trans (KeepsWalks.putObj _ I rfl)⟩
    rw[q]at ab |-;exact ab
   | ret=>exact B.elim
   | exit i=>exact B.elim
   | goto l=>exact B.elim
   | panic ch=>exact B.elim
   | outgrown=>exact B.elim
  .
   rintro e L ⟨⟨v,rfl⟩,u,hS,ai,Z,ag⟩;have E:=run_endLoop (P:=prog) Z (by rw[q];simp);rw[q]at E;have D:Kp [w.heap.size+1] L (L.putObj (w.heap.size+1) (.loop { b .ready none with state:=.exhausted })):=kF.qQ3 sM _;refine⟨none,_,E,?_⟩;have:=ar (L.putObj (w.heap.size+1) (.loop { b .ready none with state:=.exhausted })) u hS (H _ _ _ _ ai D (λk n=>by rw[mS n];exact⟨oM,λc t j e=>by rw[Z]at e;cases e⟩)) (D.hp ag);rw[q]at this;exact this
end
section
attribute [local go_sem] Oper.semAt_some
def WM:(prog.info? 78).map (λi=>(i.zero,i.size,i.bytes))=some (some (.int .u64 0),1,8):=kR
def DF(ks:List Int):List Value:=ks.map (.int .u64)
def Zb(w:Ϣ)(a:Value)(t:Ϯ):∀j u,[a][j]?=some u->(w.alloc (ϲ #[a] t)).cell? (((ϰ w.heap.size 0):Addr).add j)=some u:=λj u hj=>by
 rw[Br,Y (μ _ _)];simpa using hj
def Td(args)(W):Sem.run prog (callFunc 239 args) W=.ok (.enter 239 args) W:=by
 simp[go_sem,func239]
def Xo(n:Nat)(p:1<=n)(a M V nn:Nat)(D)(w)(c:w.heap[a]?=some (ϲ #[.map (some M)] 167))(d:RM w V M nn D):
  SeqGives Fence.wide n prog 239 #[ϖ a] (.int .u64) (KeysU D) (Maps.size D) w:=λl Jj W b i k h=>by
 have j:RM W V M nn D:=by
  let⟨g,f,m,e⟩:=d;exact⟨g,f,(b.block M d.lt).trans m,e⟩
 have o:=(b.block a (U c)).trans c;exact Xn n p l a M V nn D Jj k W i (by have:=Y o 0;simpa using this) j h
def Kz{w w'}{S}{base:Nat}{e}{sz:Nat}{v}{n:Nat}{xs:Ϩ}(h:w.ownsRow base e sz v n xs)(hK:Kp S w w')(i:∀k∈S,∀c fr,w.heap[k]?≠some (ϲ c e fr)):w'.ownsRow base e sz v n xs:=by
 refine⟨h.1,?_⟩;rcases h.2 with a|⟨g,cap,cur,a,d,b,f⟩
 .exact Or.inl a
 .exact Or.inr ⟨g,cap,cur,a,d,hK.heap b (λj=>i g j _ _ b),f⟩
def Pp{w:Ϣ}{base:Nat}{e:Ϯ}{sz:Nat}{v:Value}{n:Nat}{xs:Ϩ}(h:w.ownsRow base e sz v n xs):∃b c,v=.slice b n c:=by
 rcases h.2 with⟨a,d⟩|⟨g,cap,cur,a,_⟩
 .exact⟨none,0,by rw[a,d]⟩
 .exact⟨_,cap,a⟩
def QU(B:Nat)(a:Ϣ)(ks:List Int)(W:Ϣ):Prop:=∃v,W.heap[B]?=some (ϲ #[v] 252)/\W.ownsRow (B+1) 78 1 v ks.length (DF ks)/\Kp [B] a W
def RK(g:Nat)(lb)(Z:ϴ g)(S:List Int->Prop)(N:Nat)(hN:N<=1000)(w)(af:∀W,Kp [] w W->SeqGives Fence.wide 8 prog g lb (.int .u64) S N W):
  Ω 268 #[.slice none 0 0,.func (.func g) #[] lb] w λe w'=>∃v ks,e=ϱ v/\S ks/\w'.ownsRow w.heap.size 78 1 v ks.length (DF ks)/\Kp [] w w':=by
 let⟨i0,ac,ag,ah,ai⟩:=info_parts WM;refine(callsIn_wide (n:=9)).1 ?_;refine callsIn_of_wp_marks func268 rfl trivial ?_ rfl;simp only[ntmps268,List.size_toArray,List.length_cons,List.length_nil,Nat.reduceAdd,Nat.reduceSub,Array.replicate_succ,Array.replicate_zero,List.push_toArray,List.append_toArray,List.nil_append,List.cons_append]
 gi_wp2_with fail
 let⟨m,O,aa,G,ak⟩:=alB w (.cells #[ϒ none 0 0] 252);rw[<-O];clear O;refine qK6 g lb S N dC rfl Z rfl (af m G) (QU w.heap.size m) ?JK ?J0 (λx=>{ tmps:=#[ϒ none 0 0,.func (.func g) #[] lb,ϖ w.heap.size,undef,ϒ none 0 0,.int .u64 x,.func (.func g) #[] lb,.int .u64 x,undef,undef,undef,undef,undef],defers:=[] }) ?assign ?body ?done
 case JK=>
  rintro s W W' T ⟨v,F,h2,h3⟩ hK C;exact⟨v,hK.heap F (λhm=>(C _ hm).2 _ _ _ F),Kz h2 hK (λk a c B=>(C k a).2 c _ B),h3.trans hK (λi D L=>absurd (C i D).1 oM)⟩
 case J0=>
  intro W hK;exact⟨_,hK.hp aa,World.ownsRow_nil _ _ _ _,hK.mono sM⟩
 case assign=>
  intro l x W K hK
  gi_wp2
  exact hK
 case body=>
  rintro l j x W ⟨v,f,b,h⟩ aj al;obtain⟨r,t,rfl⟩:=Pp b;have:=U f;have:=ϻ f 0;have:=ρ f 0;have d:=zh (n3 f b h);have P:Hid ((Value.slice r j.length t).ownBlock≠some w.heap.size):=λe=>by
   have:=qN3 b _ e;omega
  have ab:∀{X:Obj} {p:World},(W.alloc X).grownBy p (Value.slice r j.length t).ownBlock->Ϙ p w.heap.size (.cells #[ϒ r j.length t] 252):=λ{X p} hg=>(hg.block _ sO (λe=>P e.symm)).trans (ν _ d.1)
  gi_wp2_with (gi_at_builtin;refine wpListIn_append_own _ rfl _ _ 252 rfl (w.heap.size+1) 78 i0 (.int .u64 0) 1 8 underlying252 ac ag ah ai rfl dC _ _ _ rfl (World.ownsRow.alloc d.2.1 _) (ϰ W.heap.size 0) 1 1 [.int .u64 x] rfl rfl (Zb _ _ _) (by simp[Value.oneCell']) (by unfold maxLen;omega) oM sO ?_;intro v5 p I z _;obtain⟨g5,Q,rfl⟩:=CN I;have u:=ab z;have o5:=Y u 0;have:=ρ u 0;simp only[zG,zH]at o5)
  have:=z.size;have:(W.alloc (.cells #[.int .u64 x] 78)).heap.size=W.heap.size+1:=sM
  have y:Kp [w.heap.size] p (p.setCell (ϰ w.heap.size 0) (ϑ g5 0 (j.length+1) Q)):=(Kp.refl _ _).sc _;have ae:=λk a=>qN3 d.2.1 k a;refine⟨⟨_,ξ u 0 _,?_,?_⟩,?_,?_⟩
  .have e:DF (j++[x])=DF j++[.int .u64 x]:=by simp[DF]
   rw[e,List.length_append];exact Kz I y (λk a c B e=>by rw[List.mem_singleton.1 a,u]at e;cases e)
  .exact (((d.2.2.alloc _).grown z (λk a=>Or.inr (oW (ae k a)))).tr y)
  .have:=y.size;omega
  .intro k o a M;have L:=U a;have ad:k≠w.heap.size:=λe=>by
    rw[e,d.out.1]at a;cases a;exact M _ _ _ _ rfl
   refine y.heap ((z.block k sO (λe=>?_)).trans (ν _ a)) (sU ad);rcases d.2.1.2 with⟨h0,_⟩|⟨gb,cap,cur,R,e2,V,_⟩
   .rw[h0]at e;cases e
   .rw[R]at e;cases e;rw[V]at a;cases a;exact M _ _ _ _ rfl
 case done=>
  rintro W A hS ⟨v,f,b,h⟩ q;obtain⟨r,t,rfl⟩:=Pp b;have:=U f;have o0:=ϻ f 0;let⟨sl,E⟩:=eX A.length;rw[<-E]at o0;have d:Hid (W.ownsRow (w.heap.size+1) 78 1 (ϒ r sl t) A.length (DF A)/\Kp [w.heap.size] m W/\Ϙ W m.heap.size (.deferred (some []))):=⟨by rw[E];exact b,h,q⟩;clear f b h q E
  gi_wp2
  let⟨b,h,q⟩:=d.out;refine⟨sM,.inl ⟨_,_,rfl,run_takeDeferred q,?_⟩⟩;have H:Kp [m.heap.size] W (W.putObj m.heap.size (.deferred none)):=(Kp.refl _ _).qQ3 sM _;exact⟨_,results_tmp rfl _ _ _,_,A,rfl,hS,Ct (Kz b H (λk a c B e=>by rw[List.mem_singleton.1 a,q]at e;cases e)) oM,G.trans (h.tr H) (λi D L=>by simp at D;omega)⟩
def Xp(M:Nat)(w):Ω 173 #[.map (some M)] w λe w'=>e=ϱ (.func (.func 239) #[] #[ϖ w.heap.size])/\w'=w.alloc (ϲ #[.map (some M)] 167):=by
 have:=zM;go_enter func173,ntmps173;go_wp2;go_ret;exact⟨rfl,rfl⟩
def Tr(a M V nn:Nat)(D)(j:Maps.size D<=4)(w)(b:w.heap[a]?=some (ϲ #[.map (some M)] 167))(c:RM w V M nn D):
  Ω 237 #[.func (.func 239) #[] #[ϖ a]] w λe w'=>∃v ks,e=ϱ v/\KeysU D ks/\w'.ownsRow w.heap.size 78 1 v ks.length (DF ks)/\Kp [] w w':=by
 have d:=zh (RK _ _ Td (KeysU D) (Maps.size D) oM w (λW hK=>Xo 8 dC a M V nn D W (hK.hp b) (c.kp hK sM)))
 clear b c;go_enter func237,ntmps237;go_wp2_with fail;refine(show Calls _ _ _ _ _ from d).mono ?_;rintro e k ⟨v,ks,rfl,g,h,i⟩;have f:=zh (n3 g h i);go_wp2;go_ret;exact⟨v,ks,rfl,f⟩
end
def NE:(prog.info? 89).map (λi=>(i.zero,i.size,i.bytes))=some (some (.agg #[ϗ none,ϕ ⟨#[]⟩,ϊ 0,.int .u64 0,ϗ none]),5,48):=kR
def qI1{V:Nat}{v}{y:Ϫ×List MemPlace}(h:EL V v=some y):∃b:HL,b.p=none/\v=θ V b/\y.1=Bq b:=by
 unfold EL at h;split at h
 .rename_i c;split at h
  .rename_i a k x z f;split at h
   .rename_i d;cases h;refine⟨⟨k,x,z,none⟩,rfl,?_,rfl⟩;have g:c=#[.pointer (some a),ϕ k,ϊ x,.int .u64 z,.pointer none]:=by rw[<-Array.toArray_toList (xs:=c),f]
    have e:a=(ϰ V 0):=by cases a;simp at d |-;exact d
    rw[g,e];rfl
   .cases h
  .cases h
 .cases h
def RM.look{w}{V M n:Nat}{D}(h:RM w V M n D){x:Int}(q:Maps.has D (χ x)=true)(e:keyOf prog 78 (.int .u64 x)=some (χ x)):
  ∃a:HL,a.p=none/\(Instr.lookup 167 (.map (some M)) (.int .u64 x) false).run prog w=.ok (θ V a) w/\∀zd,D.atKey (χ x) zd=Bq a:=by
 obtain⟨A,v,o,F,B,rfl⟩:=h;rcases Maps.fit_look false CH Gd (z:=.agg #[.pointer none,ϕ ⟨#[]⟩,ϊ 0,.int .u64 0,.pointer none]) (w:=w) kR o F e with⟨_,r,_⟩|⟨b,y,_,_,u,l,m,_⟩
 .let⟨p,s,t⟩:=List.any_eq_true.1 q;obtain⟨b,d,rfl⟩:=List.mem_map.1 (Go.mem_sorted.1 s);let⟨y,f⟩:=F.reads b d;have g:=WideElems.rd_key f;have c:=WideAt.sameKey_eq t;rw[WideElems.rg_of f]at c;rw[c]at g;exact absurd (CH.inj g e) (r b d)
 .let⟨a,i,j,k⟩:=qI1 l;exact⟨a,i,by rw[u,j];rfl,λzd=>by rw[m zd,k]⟩
def RowU.of{w}{base g cap:Nat}{cur}{ks:List Int}(b:w.heap[g]?=some (ϲ cur 78))(e:cur.size=cap*1)(d:cur.toList.take (ks.length*1)=DF ks):RowU w g ks cap:=by
 refine⟨cur,b,oM,λi c=>?_⟩;have a:(DF ks)[i]?=some (.int .u64 ks[i]):=by simp[DF,c]
 rw[<-d,List.getElem?_take_of_lt oM,Array.getElem?_toList]at a;exact a
def Rh(B:Nat)(D:Ϫ)(v:Value)(ks:List Int)(w:Ϣ):Prop:=KeysU D ks/\((v=.slice none 0 0/\ks=[])\/∃g cap,v=.slice (some (ϰ g 0)) ks.length cap/\B<=g/\ks.length<=cap/\RowU w g ks cap)
def KeysU.perm{D}{ks c:List Int}(h:KeysU D ks)(a:c.Perm ks):KeysU D c:=
 ⟨λx b=>h.1 x (a.mem_iff.1 b),λkl hk=>by let⟨x,b,e⟩:=h.2.1 kl hk;exact⟨x,a.mem_iff.2 b,e⟩,by rw[a.length_eq];exact h.2.2⟩
def qE8(f M V nn:Nat)(D)(z:Maps.size D<=4)(w)(q:w.heap[f]?=some (ϲ #[.map (some M)] 167))(r:RM w V M nn D):
  Ω 172 #[.func (.func 239) #[] #[ϖ f]] w λe w'=>∃v ks,e=ϱ v/\Rh w.heap.size D v ks w'/\Kp [] w w':=by
 have k:=zh (Tr f M V nn D z w q r);clear q r;go_enter func172,ntmps172;go_wp2_with fail;refine(show Calls _ _ _ _ _ from k).mono ?_;rintro e u ⟨v,ks,rfl,h,n,o⟩;have b:=zh (n2 h o);rcases n.2 with⟨rfl,y⟩|⟨g,cap,cur,rfl,A,p,j,C,s,t⟩
 .have B:=List.eq_nil_of_length_eq_zero y;go_wp2_with fail;refine(qE6 u).mono ?_;rintro e G ⟨rfl,rfl⟩;go_wp2;go_ret;exact⟨_,ks,rfl,⟨b.1,.inl ⟨rfl,B⟩⟩,b.2⟩
 .have m:=zh (qE7 g cap ks u (RowU.of (base:=0) p s t) j (by have:=h.2.2;omega));let⟨F,i⟩:=eX ks.length;rw[<-i]at m |-;have l:=zh (n2 i j);clear h n o p j C s t i k;go_wp2_with fail;refine(show Calls _ _ _ _ _ from m).mono ?_;rintro e G ⟨rfl,E,a,d,c⟩;have x:=zh (n3 a d c);clear a d c;go_wp2;go_ret;let⟨a,d,c⟩:=x.out;exact⟨.slice (some (ϰ g 0)) F cap,E,rfl,⟨b.1.perm a,.inr ⟨g,cap,by rw[a.length_eq,<-l.out.1],A,by rw[a.length_eq];exact l.2,d⟩⟩,b.2.trans c sO⟩
structure ReadH(D:Ϫ)(hs:List HL):Prop where
 len:hs.length<=Maps.size D
 are:∀h∈hs,h.p=none/\∃x,Maps.has D (χ x)=true/\∀zd,D.atKey (χ x) zd=Bq h
 all:∀kl,Maps.has D kl=true->∃h∈hs,h.p=none/\∀zd,D.atKey kl zd=Bq h
def Qg(V:Nat)(hs)(h):CQ V (hs++[h])=CQ V hs++tcs V h:=by simp[CQ]
def qF2(St nn:Nat)(lk:Int)(s)(D)(w)(G:w.heap[St]?=some (η lk s))(N:RM w s.V s.M nn D)(h4:Maps.size D<=4):
  Ω 113 #[ϖ St] w λe w'=>∃v a,e=ϱ v/\w'.ownsRow w.heap.size 89 5 v a.length (CQ s.V a)/\ReadH D a/\Kp [] w w':=by
 let⟨i0,ab,af,ag,ah⟩:=info_parts NE;have aa:=U G;have ai:=ϻ G 10;have K:=zh N;clear N;go_enter func113,ntmps113;go_wp2_with fail;refine(Xp s.M w).mono ?_;rintro e r ⟨rfl,I⟩;have L:Ϙ r w.heap.size (ϲ #[.map (some s.M)] 167):=by rw[I];exact μ _ _
 have E:Kp [] w r:=by rw[I];exact(Kp.refl _ _).alloc _
 clear I;go_wp2_with fail;refine(qE8 w.heap.size s.M s.V nn D h4 r L (K.out.kp E sM)).mono ?_;rintro e m ⟨v,ks,rfl,⟨hku,hv⟩,hK2⟩;have A:=zh (E.tr hK2);have ad:=A.out.size;obtain⟨n,o,ae⟩:∃n o,v=.slice n ks.length o:=by
  rcases hv with⟨b,k⟩|⟨g,cap,b,_⟩
  .exact⟨none,0,by rw[b,k];rfl⟩
  .exact⟨_,cap,b⟩
 subst ae;let⟨c,y⟩:=eX ks.length;have C:Hid (c=ks.length/\((Value.slice n c o=.slice none 0 0/\ks=[])\/∃g cap,Value.slice n c o=.slice (some (ϰ g 0)) c cap/\r.heap.size<=g/\ks.length<=cap/\RowU m g ks cap)):=⟨y,by rw[y];exact hv⟩;rw[<-y];have:c<=4:=by have:=hku.2.2;omega
 clear y hv L E hK2;go_wp2_with fail
 go_loopw [3,13] (λlv i wr=>∃(j:Nat)(a:List HL),j<=c/\i=.int .i64 j/\a.length=j/\Hid (wr.ownsRow m.heap.size 89 5 lv j (CQ s.V a))/\Hid (∀q (b:q<a.length) (k:q<ks.length),a[q].p=none/\∀zd,D.atKey (χ ks[q]) zd=Bq a[q])/\Hid (Kp [] m wr)) (λ_ i _=>c-(intOf i).toNat)
 case atStart=>exact⟨0,[],Nat.zero_le _,rfl,rfl,World.ownsRow_nil _ _ _ _,λq b=>by simp at b,Kp.refl _ _⟩
 case round=>
  obtain⟨j,a,aj,rfl,t,B,z,f⟩:=hrel;by_cases ak:j<c
  .have:(j:Int)<(c:Int):=oM
   have p:j<ks.length:=by have:=C.out.1;omega
   obtain⟨g,cap,hve,hgb,hcap,⟨cur,hc,hsz,hcur⟩⟩:∃g cap,Value.slice n c o=.slice (some (ϰ g 0)) c cap/\r.heap.size<=g/\ks.length<=cap/\RowU m g ks cap:=by
    rcases C.out.2 with⟨_,k⟩|h
    .rw[k]at p;simp at p
    .exact h
   cases hve;have V:=Y (f.out.hp hc) j;rw[hcur j p]at V;have:=U (f.out.hp hc);have M:=A.out.tr f.out;have F:=M.hp G;have:=U F;have:=ϻ F 10;let⟨l,H,T,O⟩:=(K.out.kp M sM).look (hku.1 _ (List.getElem_mem p)).1 (hku.1 _ (List.getElem_mem p)).2;have S:l.ptr=none:=by simp[HL.ptr,H]
   rw[θ,S]at T;have W:=zh (n2 H O);let⟨kj,Q⟩:=eX (ks[j]);rw[<-Q]at V T;clear hc hcur F O H Q;clear aa ai
   go_wp2_with (at_builtin;refine wpList_append_own _ rfl _ _ 175 rfl m.heap.size 89 i0 (.agg #[.pointer none,.string ⟨#[]⟩,ϊ 0,.int .u64 0,.pointer none]) 5 48 underlying175 ab af ag ah rfl dC _ _ _ rfl (B.out.alloc _) (ϰ wr.heap.size 0) 1 1 [ϖ s.V,.string l.key,ϊ l.b,.int .u64 l.s,.pointer none] rfl rfl ?_ (by simp[Value.oneCell']) (by unfold maxLen;omega) oM (by have:=f.out.size;simp;omega) ?_)
   .intro q u hu;rw[Br,Y (μ _ _)];simpa using hu
   .intro v1 w3 R P _;have Z:Hid (w3.ownsRow m.heap.size 89 5 v1 (j+1) (CQ s.V (a++[l]))):=by
     show World.ownsRow _ _ _ _ _ _ _;rw[Qg,tcs,S];exact R
    have X:=zh ((f.out.alloc _).grown P (λq d=>Or.inr (by have:=qN3 B.out q d;omega)));clear R P;go_wp2;refine⟨⟨j+1,a++[l],oM,by go_num,by simp[t],Z,λq b k=>?_,X⟩,by simp[intOf];omega⟩;by_cases d:q<a.length
    .rw[List.getElem_append_left d];exact z.out q d k
    .have e:q=j:=by simp at b;omega
     subst e;rw[List.getElem_append_right oM];simpa [t] using W.out
  .have:¬(j:Int)<(c:Int):=oM
   have ac:j=ks.length:=by have:=C.out.1;omega
   subst ac;go_wp2;go_ret;refine⟨_,rfl,a,by rw[t];exact Ct B.out ad,⟨by rw[t];exact hku.2.2,λh hm=>?_,λkl hk=>?_⟩,A.out.tr f.out⟩
   .obtain⟨q,d,rfl⟩:=List.getElem_of_mem hm;have b:=z.out q d oM;exact⟨b.1,ks[q]'oM,(hku.1 _ (List.getElem_mem oM)).1,b.2⟩
   .obtain⟨x,hx,rfl⟩:=hku.2.1 kl hk;obtain⟨q,d,rfl⟩:=List.getElem_of_mem hx;have b:=z.out q oM d;exact⟨a[q]'oM,List.getElem_mem oM,b.1,b.2⟩
def Sto.cmt(s:Sto)(qb qs bl:Int):Sto:={ s with N:=upN (upN s.N),rb:=qb,rs:=qs,bl:=bl }
def Ao:Root→List Nat→HL×List (Nat×List UInt8)
 | .none,_=>(⟨⟨#[]⟩,0,0,none⟩,[])
 | .at n L,fr=>(lhl (φ n L fr).1,(φ n L fr).2.1)
def Fh(s:Sto):HL:=⟨⟨#[]⟩,s.rb,s.rs,none⟩
def OkR:Root→Prop
 | .none=>True
 | .at n L=>OkL n L
def Ok{N:Nat}{rt}{a}(g:OkR rt)(f:rt.news<=a.length)(e:∀b∈a,b<N):∀x∈(Ao rt a).2,x.1<N/\x.2.length=128:=by
 cases rt with
 | none=>intro x c;simp[Ao]at c
 | «at» n L=>
  intro x c;refine⟨e x.1 ?_,JV n L a g x c⟩;have d:x.1∈((φ n L a).2.1).map Prod.fst:=List.mem_map_of_mem c;rw[FV n L a f]at d;exact mT d
def OO{α:Type}(f:α->Nat)(c:Nat):∀(l:List α),(∀x∈l,c<=f x)->c*l.length<=qM2 f l
 | [],_=>by simp[qM2]
 | x::l,h=>by
  have:=h x sM;have:=OO f c l λy a=>h y (by simp[a]);rw[Au,lC,Nat.mul_succ];omega
def VK{α a:Type}(f:α->List a)(l:List α):(l.flatMap f).length=qM2 (λx=>(f x).length) l:=by simp[qM2,List.length_flatMap]
def NA:∀(n:Nat)(lo)(t),Good n lo t->cnt n t*3 ^ n<=(cont n t).length
 | 0,lo,t,h=>by simp[cnt,cont]
 | n+1,lo,t,h=>by
  have a:∀x∈J t,3 ^ (n+1)<=(cont n x.sub).length:=λx hx=>by
   have:=NA n x.key x.sub (h.all x hx).1;have:3*3 ^ n<=cnt n x.sub*3 ^ n:=Nat.mul_le_mul_right _ ((h.all x hx).2.1);rw[Nat.pow_succ];omega
  have b:(cont (n+1) t).length=qM2 (λx:Lnk (Tn n)=>(cont n x.sub).length) (J t):=VK (λx:Lnk (Tn n)=>cont n x.sub) (J t);have c:cnt (n+1) t=(J t).length:=rfl;rw[b,c,Nat.mul_comm];exact OO (λx:Lnk (Tn n)=>(cont n x.sub).length) (3 ^ (n+1)) (J t) a
def NB:∀(n:Nat) (L:Lnk (Tn n)),Good n L.key L.sub->L.key.size<=8->n<256->OkL n L
 | 0,L,h,hk,hn=>⟨hk,λ_=>by
   have:qM2 ζ (prs L.sub)<=126:=h.fits;have:=Ca ζ (prs L.sub) λx _=>by unfold ζ;omega
   exact⟨λp b=>(h.all p b).1,oM,oM⟩⟩
 | n+1,L,h,hk,hn=>⟨hk,λ_=>by
   have:qM2 ι (J L.sub)<=126:=h.fits;have:=Ca ι (J L.sub) λx _=>by unfold ι;omega
   exact⟨hn,λm a=>NB n m (h.all m a).1 (h.all m a).2.2 oM,oM,oM⟩⟩
def PD{N:Nat}{l}{w}:∀(n:Nat)(h)(L),RL (Laid N l) n w h L->BX N l n L
 | 0,h,L,hr=>λx d=>by
  have a:=hr.2;rw[d]at a;exact a.2.2.2
 | n+1,h,L,hr=>by
  refine⟨λx d=>?_,λhn m hm=>?_⟩
  .have a:=hr.2;rw[d]at a;exact a.2.2.2
  .have a:=hr.2;rw[hn]at a;let⟨_,_,q,_,f,_,e,_,b⟩:=a;obtain⟨i,c,rfl⟩:=gO hm;exact PD n (e[i]'(by rw[b.1];exact c)) _ (b.2 i (by rw[b.1];exact c) c)
def Gs{N:Nat}{l}{E}{w}{h}{r}(b:RR E w h r)(a:E.O=Laid N l:=by rfl):BY N l r:=by
 cases r with
 | none=>trivial
 | «at» n L=>exact PD n h L (by have h:RL E.O n w h L:=b;rw[a]at h;exact h)
def JT{X:Type}(f:Lnk X->Ϥ->Lnk X×ϥ×Ϥ)(R:Lnk X->Lnk X->Prop):∀(ls:List (Lnk X)) (fr),(∀l∈ls,∀fr,R l (f l fr).1)->Both R ls (Aj f ls fr).1
 | [],fr,_=>⟨rfl,λi h=>by simp at h⟩
 | l::ls,fr,h=>by
  let⟨a,b⟩:=JT f R ls (f l fr).2.2 λx hx=>h x (by simp[hx]);refine⟨by simp[Aj,a],λi c d=>?_⟩
  cases i with
  | zero=>exact h l sM fr
  | succ i=>exact b i (sU c) (by simpa [Aj] using d)
def JW:∀(n:Nat) (L:Lnk (Tn n)) (a:Ϥ),(φ n L a).1.key=L.key
 | 0,L,a=>by unfold φ;split<;>rfl
 | n+1,L,a=>by unfold φ;split<;>rfl
def Om:∀(n:Nat) (L:Lnk (Tn n)) (a:Ϥ),cnt n (φ n L a).1.sub=cnt n L.sub
 | 0,L,a=>by unfold φ;split<;>rfl
 | n+1,L,a=>by
  unfold φ;split
  .rfl
  .exact (JT (φ n) (λ_ _=>True) (J L.sub) a λ_ _ _=>trivial).1.symm
def Mr{α:Type}(f:α->Nat):∀(a b:List α),Both (λx y=>f x=f y) a b->qM2 f b=qM2 f a
 | [],[],_=>rfl
 | [],_::_,h=>by have:=h.1;simp at this
 | _::_,[],h=>by have:=h.1;simp at this
 | x::a,y::b,h=>by
  have c:=h.2 0 sM sM;simp[zF]at c;have e:=Mr f a b ⟨sU h.1,λi g j=>by have d:=h.2 (i+1) (by simp;exact g) (by simp;exact j);simp[zE]at d;exact d⟩;rw[Au,Au,c,e]
def Oo:∀(n:Nat)(L)(fr)(lo),Good n lo L.sub->Good n lo (φ n L fr).1.sub
 | 0,L,fr,lo,h=>by unfold φ;split<;>exact h
 | n+1,L,fr,lo,h=>by
  unfold φ;split
  .exact h
  .have c:=JT (φ n) (λa b=>b.key=a.key/\cnt n b.sub=cnt n a.sub/\cont n b.sub=cont n a.sub/\(Good n a.key a.sub->Good n a.key b.sub)) (J L.sub) fr λl m fr=>⟨JW n l fr,Om n l fr,JU n l fr,Oo n l fr l.key⟩;have d:=c.1;refine⟨?_,?_,?_,?_⟩
   .intro l m;have o:(Aj (φ n) (J L.sub) fr).1.head?=some l:=m
    cases hx:(Aj (φ n) (J L.sub) fr).1 with
    | nil=>rw[hx]at o;cases o
    | cons y ys=>
     rw[hx]at o c d;cases o
     cases hz:J L.sub with
     | nil=>rw[hz]at d;simp at d
     | cons z zs=>
      have t:=c.2 0 (by rw[hz];simp) sM;simp[zF]at t;rw[t.1];have:=h.head z (by show(J L.sub).head?=some z;rw[hz];rfl);simp[hz,zF];exact this
   .intro l m;obtain⟨i,f,rfl⟩:=gO m;have g:i<(J L.sub).length:=by rw[d];exact f
    let⟨k,p,q,r⟩:=c.2 i g f;have:=h.all _ (gM g);refine⟨?_,?_,?_⟩
    .rw[k];exact r this.1
    .rw[p];exact this.2.1
    .rw[k];exact this.2.2
   .rw[List.pairwise_iff_getElem];intro i j f u A;have g:i<(J L.sub).length:=by rw[d];exact f
    have v:j<(J L.sub).length:=by rw[d];exact u
    let⟨k,p,q,r⟩:=c.2 i g f;let⟨s,B,C,D⟩:=c.2 j v u;have:=(pG h.pair) i j g v A;refine⟨?_,?_⟩
    .rw[k,s];exact this.1
    .rw[q,s];exact this.2
   .have e:=Mr ι (J L.sub) (Aj (φ n) (J L.sub) fr).1 ⟨d,λi w x=>by show 11+_=11+_;rw[(c.2 i w x).1]⟩;show qM2 ι (Aj (φ n) (J L.sub) fr).1<=126;rw[e];exact h.fits
def KW{X:Type}(f:X->Ϥ->Ϥ)(g:X->Nat)(a:∀t ks,(f t ks).length+1<=ks.length+g t):∀(ls:List (Lnk X)) (ks),(ls.foldl (Bh f) ks).length<=ks.length+qM2 (λm=>g m.sub) ls
 | [],ks=>by simp[qM2]
 | m::ls,ks=>by
  have b:=KW f g a ls (Bh f ks m);have c:(Bh f ks m).length<=ks.length+g m.sub:=by
   unfold Bh;split
   .have:=a m.sub ks;omega
   .rename_i x _;split
    .omega
    .have:=a m.sub (x.1::ks);simp at this;omega
  rw[List.foldl_cons,Au];omega
def Mm:∀(n:Nat)(t)(ks),(Bc n t ks).length+1<=ks.length+Am n t
 | 0,t,ks=>by simp[Bc,Am]
 | n+1,t,ks=>by
  have:=KW (Bc n) (Am n) (Mm n) (J t) ks;have e:Am (n+1) t=1+qM2 (λm:Lnk (Tn n)=>Am n m.sub) (J t):=rfl;rw[e];simp[Bc];omega
def IU(ks)(r):(ω ks r).length<=ks.length+AE r:=by
 cases r with
 | none=>simp[ω,AE]
 | «at» n L=>
  simpa [ω,AE,qM2] using(KW (Bc n) (Am n) (Mm n) [L] ks)
def Hb:∀(a ks:Ϥ),a.Nodup->a.length<=(a.filter (λk=>decide (k∉ks))).length+ks.length
 | [],ks,_=>by simp
 | x::a,ks,h=>by
  let⟨g,c⟩:=List.nodup_cons.1 h;by_cases b:x∈ks
  .have i:=Hb a (ks.erase x) c;have e:a.filter (λk=>decide (k∉ks.erase x))=a.filter (λk=>decide (k∉ks)):=List.filter_congr λy hy=>by
    have f:y≠x:=λe=>g (e ▸ hy);simp[List.mem_erase_of_ne f]
   have d:(x::a).filter (λk=>decide (k∉ks))=a.filter (λk=>decide (k∉ks)):=by rw[List.filter_cons_of_neg (by simp[b])]
   have:=List.length_erase_of_mem b;have:1<=ks.length:=List.length_pos_of_mem b;rw[e]at i;rw[d,lC];omega
  .have:=Hb a ks c;rw[List.filter_cons_of_pos (by simp[b]),lC,lC];omega
def VZ(N:Nat)(ks):N-2<=(Ar N ks).length+ks.length:=by
 simpa [Ar] using(Hb (List.range' 2 (N-2)) ks List.nodup_range')
def Fm{r}(h:RGood r):2*AE r<=r.cont.length+1:=by
 cases r with
 | none=>simp[AE]
 | «at» n l=>
  have:=Gj n _ _ h.2.1;have:=h.2.2;show 2*Am n l.sub<=(cont n l.sub).length+1;omega
def Lie(N:Nat)(l:List UInt8)(rb rs:Int):Root→Prop
 | .none=>rb=0∧rs=0
 | .at n L=>∃b:Nat,rb=(b:Int)∧L.ref=some (b,rs)∧Laid N l n b rs L.sub
def Lie.bnd{N:Nat}{l}{a rs:Int}{r}(h:Lie N l a rs r)(d:N<=1000):0<=a/\a<=1000/\0<=rs:=by
 cases r with
 | none=>obtain⟨rfl,rfl⟩:=h;decide
 | «at» n L=>obtain⟨b,rfl,_,c⟩:=h;have:=c.at;omega
def Lie.sum{N:Nat}{l}{c rs:Int}{r}(h:Lie N l c rs r):rs<18446744073709551616:=by
 cases r with
 | none=>obtain⟨rfl,rfl⟩:=h;decide
 | «at» n L=>obtain⟨b,rfl,_,a⟩:=h;have:=a.at;omega
def Lie.rr{N:Nat}{l:ϣ}{a rs:Int}{r:Root}(h:Lie N l a rs r)(f:RGood r){E:Env}(w:Ϣ)(e:E.O=Laid N l:=by rfl):RR E w ⟨⟨#[]⟩,a,rs,none⟩ r:=by
 cases r with
 | none=>obtain⟨rfl,rfl⟩:=h;rfl
 | «at» n L=>
  obtain⟨b,rfl,c,d⟩:=h;refine⟨f.1.symm,?_⟩;rw[c,e];exact⟨rfl,rfl,rfl,d⟩
def Lie.old{N:Nat}{l}{e rs:Int}{r}(h:Lie N l e rs r):BY N l r:=by
 cases r with
 | none=>trivial
 | «at» n L=>
  obtain⟨b,rfl,c,d⟩:=h
  cases n with
  | zero=>intro x a;rw[c]at a;cases a;exact d
  | succ n=>exact⟨λx a=>by rw[c]at a;cases a;exact d,λa=>by rw[c]at a;cases a⟩
def Lie.move{N:Nat}{l l'}{c rs:Int}{r}(h:Lie N l c rs r)(f:∀k∈Cu r,τ l' k=τ l k):Lie N l' c rs r:=by
 cases r with
 | none=>exact h
 | «at» n L=>
  let⟨b,d,a,e⟩:=h;refine⟨b,d,a,e.move _ _ _ _ λk g=>f k ?_⟩;show k∈BB n L;rw[Dm a];exact g
def GQ{N:Nat}{l}:∀(n b:Nat)(s:Int)(t),Laid N l n b s t->∀k∈Blk n b t,2<=k
 | 0,b,s,t,h,k,a=>by simp[Blk]at a;have:=h.at;omega
 | n+1,b,s,t,h,k,a=>by
  have:=h.at;let⟨g,j,o,q,c,p⟩:=h;simp[Blk,mC,List.mem_flatMap]at a;rcases a with rfl|⟨m,f,a⟩
  .omega
  .obtain⟨i,d,rfl⟩:=gO f;have e:=(c.2 i (by rw[c.1];exact d) d).2
   cases hx:(J t)[i].ref with
   | none=>rw[hx]at a;cases a
   | some x=>
    rw[hx]at a e;exact GQ n x.1 x.2 _ e.2.2.2 k a
def Lie.ge{N:Nat}{l}{f rs:Int}{r}(h:Lie N l f rs r):∀k∈Cu r,2<=k:=by
 cases r with
 | none=>intro k a;cases a
 | «at» n L=>
  obtain⟨b,rfl,d,e⟩:=h;intro k a;have c:k∈BB n L:=a;rw[Dm d]at c;exact GQ n b rs L.sub e k c
def Lie.head{N:Nat}{l}{a rs:Int}{r}(h:Lie N l a rs r)(c:N*128<=l.length)(d:2<=N)(i:Nat)(e:i<2)(x y z:Int):Lie N (Ap l i (Ae x y z)) a rs r:=
 h.move λk b=>Dl l _ i k N (BI _ _ _) c oM (oW (h.ge k b))
def Pi{N:Nat}{l l':ϣ}(b:∀k,2<=k->τ l' k=τ l k):∀(n:Nat) (L:Lnk (Tn n)),BX N l n L->BX N l' n L
 | 0,L,h=>λx a=>(h x a).move _ _ _ _ λk hm=>b k (GQ 0 x.1 x.2 L.sub (h x a) k hm)
 | n+1,L,h=>⟨λx a=>(h.1 x a).move _ _ _ _ λk hm=>b k (GQ (n+1) x.1 x.2 L.sub (h.1 x a) k hm),λhn m hm=>Pi b n m (h.2 hn m hm)⟩
def Pk{N:Nat}{l l'}(a:∀k,2<=k->τ l' k=τ l k){r}(h:BY N l r):BY N l' r:=by
 cases r with
 | none=>trivial
 | «at» n L=>exact Pi a n L h
def Lie.one{N:Nat}{l}{i rs:Int}{r r'}(f:N<=1000)(h:Lie N l i rs r)(c:Lie N l i rs r'):r.cont=r'.cont/\Cu r=Cu r':=by
 cases r with
 | none=>
  obtain⟨rfl,rfl⟩:=h
  cases r' with
  | none=>exact⟨rfl,rfl⟩
  | «at» n L=>let⟨b,q,_,a⟩:=c;have:=a.at;omega
 | «at» n L=>
  obtain⟨b,rfl,k,a⟩:=h
  cases r' with
  | none=>let⟨e,_⟩:=c;have:=a.at;omega
  | «at» n' L'=>
   let⟨j,s,m,d⟩:=c;have o:b=j:=oM
   subst o;have p:=FU f a d;subst p;have g:=(JP f n b rs rs L.sub L'.sub a d).2;refine⟨?_,?_⟩
   .show cont n L.sub=cont n L'.sub;rw[g]
   .show BB n L=BB n L';rw[Dm k,Dm m,g]
def nw{X:Type}(l:Lnk X):Nat:=if l.ref.isSome then 0 else 1
def Hd:(n:Nat)→Lnk (Tn n)→Prop
 | 0,_=>True
 | n+1,l=>(l.ref.isSome=true→qM2 (news n) (J l.sub)=0)∧∀m∈J l.sub,Hd n m
def Kq{X:Type}{l:Lnk X}(h:l.ref=none):nw l=1:=by simp[nw,h]
def Hv{n:Nat}(key:Ϧ)(ls:List (Lnk (Tn n))):news (n+1) ⟨key,none,ls⟩=1+qM2 (news n) ls:=by simp[news];rfl
def Hd.sum{n:Nat}{l}(h:Hd (n+1) l):qM2 (news n) (J l.sub)+nw l=news (n+1) l:=by
 unfold news nw;split
 .rename_i e;rw[h.1 e]
 .rw[Nat.add_comm]
def YV:∀(n:Nat) (l:Lnk (Tn n)),nw l<=news n l
 | 0,l=>lR
 | n+1,l=>by unfold news nw;split<;>omega
def Hj{α:Type}(f:α->Nat)(l:List α):(∃a,Aq f l=[a]/\a=l)\/∃a b,Aq f l=[a,b]/\a++b=l:=by
 unfold Aq;split
 .exact .inl ⟨l,rfl,rfl⟩
 .exact .inr ⟨_,_,rfl,tD _ _⟩
def FY(key)(ps):qM2 (news 0) (AI key ps)=(AI key ps).length/\(AI key ps).length<=2:=by
 unfold AI;rcases Hj ζ ps with⟨a,e,_⟩|⟨a,b,e,_⟩<;>rw[e]
 .exact⟨rfl,Nat.le_succ 1⟩
 .exact⟨rfl,Nat.le_refl 2⟩
def GS{n:Nat}(key)(ls):qM2 (news (n+1)) (AA n key ls)=(AA n key ls).length+qM2 (news n) ls/\(AA n key ls).length<=2:=by
 unfold AA;rcases Hj ι ls with⟨a,e,c⟩|⟨a,b,e,c⟩
 .rw[e];refine⟨?_,Nat.le_succ 1⟩;show qM2 (news (n+1)) [⟨key,none,a⟩]=1+_;rw[Au,AJ,Hv,c,Nat.add_zero]
 .rw[e];refine⟨?_,Nat.le_refl 2⟩;show qM2 (news (n+1)) [⟨key,none,a⟩,⟨_,none,b⟩]=2+_;rw[Au,Au,AJ,Hv,Hv,<-c,AL];omega
def qK0:∀(n:Nat) (l:Lnk (Tn n)) (p:KV),(AN n l p).length<=2
 | 0,l,p=>(FY _ _).2
 | n+1,l,p=>by
  simp[AN];split
  .exact (GS _ _).2
  .exact zL _
def QA:∀(n:Nat)(l)(p),Hd n l->qM2 (news n) (AN n l p)+nw l<=(AN n l p).length+2*n+news n l
 | 0,l,p,h=>by
  have:=(FY l.key (BL p l.sub)).1;show qM2 (news 0) (AI l.key (BL p l.sub))+nw l<=(AI l.key (BL p l.sub)).length+0+nw l;omega
 | n+1,l,p,h=>by
  have:=h.sum;have e:AN (n+1) l p=match (J l.sub)[Af (J l.sub) p.k]? with
    | some m=>AA n l.key ((J l.sub).take (Af (J l.sub) p.k)++AN n m p++(J l.sub).drop (Af (J l.sub) p.k+1))
    | none=>[]:=rfl
  rw[e]
  cases hx:(J l.sub)[Af (J l.sub) p.k]? with
  | none=>have:=YV (n+1) l;simp[qM2];omega
  | some m=>
   let⟨c,d⟩:=gS hx;have:=QA n m p (h.2 m (mO hx));have:=qK0 n m p;have a:=(GS l.key ((J l.sub).take (Af (J l.sub) p.k)++AN n m p++(J l.sub).drop (Af (J l.sub) p.k+1))).1;have b:=Da (news n) (J l.sub) (Af (J l.sub) p.k);rw[dG c,Au,d]at b;rw[AL,AL]at a;simp only;omega
def Xj:∀{n:Nat} {a b},Hd n a->Hd n b->qM2 (news n) (Bf n a.key a.sub b.sub)+nw a+nw b<=2+news n a+news n b
 | 0,a,b,_,_=>by
  let⟨c,d⟩:=FY a.key (List.append (α:=KV) a.sub b.sub);show qM2 (news 0) (AI a.key (List.append (α:=KV) a.sub b.sub))+nw a+nw b<=2+nw a+nw b;omega
 | n+1,a,b,ha,hb=>by
  let⟨c,d⟩:=GS a.key (J a.sub++J b.sub);have:=ha.sum;have:=hb.sum;rw[AL]at c;show qM2 (news (n+1)) (AA n a.key (J a.sub++J b.sub))+nw a+nw b<=_;omega
def Kh(n:Nat)(ls)(i:Nat):Av n ls i=ls\/∃P a b Q,ls=P++a::b::Q/\Av n ls i=P++Bf n a.key a.sub b.sub++Q/\((ls[i]?=some a/\cnt n a.sub<3)\/(ls[i]?=some b/\cnt n b.sub<3)):=by
 unfold Av
 cases hx:ls[i]? with
 | none=>exact .inl rfl
 | some x=>
  simp only;by_cases d:3<=cnt n x.sub
  .exact .inl (if_pos d)
  .rw[if_neg d]
   cases ha:ls[min i (ls.length-2)]? with
   | none=>exact .inl rfl
   | some a=>
    cases hb:ls[min i (ls.length-2)+1]? with
    | none=>exact .inl rfl
    | some b=>
     let⟨g,e⟩:=gS ha;let⟨h,f⟩:=gS hb;let⟨k,j⟩:=gS hx;refine .inr ⟨ls.take (min i (ls.length-2)),a,b,ls.drop (min i (ls.length-2)+2),?_,rfl,?_⟩
     .rw[<-e,<-f,<-dG h,<-dG g,tD]
     .by_cases c:min i (ls.length-2)=i
      .rw[c,hx]at ha;cases ha;exact .inl ⟨rfl,oM⟩
      .have c:min i (ls.length-2)+1=i:=oM
       rw[c,hx]at hb;cases hb;exact .inr ⟨rfl,oM⟩
def Yi{n:Nat}{A W B}{m}(o:∀x∈A++W++B,Hd n x)(q:Made n m 1 W):
  qM2 (news n) (Av n (A++W++B) A.length)+W.length<=qM2 (news n) (A++W++B)+2:=by
 have p:W.length<=2/\∀x,(A++W++B)[A.length]?=some x->x.ref=none/\(cnt n x.sub<3->W.length=1):=by
  rcases q with⟨a,rfl,g,d,c⟩|⟨a,b,rfl,g,d,c,r,s⟩
  .refine⟨sM,λx f=>?_⟩;rw[show(A++[a]++B)[A.length]?=some a by simp]at f;cases f;exact⟨d,λ_=>rfl⟩
  .refine⟨sM,λx f=>?_⟩;rw[show(A++[a,b]++B)[A.length]?=some a by simp]at f;cases f;exact⟨d,λh=>by omega⟩
 let⟨t,k⟩:=p;rcases Kh n (A++W++B) A.length with e|⟨P,a,b,Q,g,d,c⟩
 .rw[e];omega
 .rw[d];rw[g]at o c k |-;have:=Xj (o a sM) (o b sM);rw[AL,AL,AL,Au,Au];rcases c with⟨c,l⟩|⟨c,l⟩
  .let⟨i,j⟩:=k _ c;have:=Kq i;have:=j l;omega
  .let⟨i,j⟩:=k _ c;have:=Kq i;have:=j l;omega
def lf:(n:Nat)→Tn n→Nat
 | 0,_=>1
 | n+1,ls=>qM2 (fun l:Lnk (Tn n)=>lf n l.sub) (J ls)
def lfs(n:Nat)(ls:List (Lnk (Tn n))):Nat:=qM2 (fun l=>lf n l.sub) ls
def Mt{n:Nat}(key)(ls):lfs (n+1) (AA n key ls)=lfs n ls:=by
 unfold AA;rcases Hj ι ls with⟨a,e,c⟩|⟨a,b,e,c⟩
 .rw[e];show qM2 (λl=>lf (n+1) l.sub) [(⟨key,none,a⟩:Lnk (Tn (n+1)))]=_;rw[Au,AJ,<-c];rfl
 .rw[e];show qM2 (λl=>lf (n+1) l.sub) [(⟨key,none,a⟩:Lnk (Tn (n+1))),⟨_,none,b⟩]=_;rw[Au,Au,AJ,<-c,lfs,AL];rfl
def Xi:∀{n:Nat} {a b:Lnk (Tn n)},lfs n (Bf n a.key a.sub b.sub)<=lf n a.sub+lf n b.sub
 | 0,a,b=>by
  have:∀ls:List (Lnk (Tn 0)),lfs 0 ls=ls.length:=λls=>by induction ls with
   | nil=>rfl
   | cons x r ih=>rw[lfs,Au,<-lfs,ih];show 1+r.length=r.length+1;omega
  show lfs 0 (AI a.key (List.append (α:=KV) a.sub b.sub))<=1+1;rw[this];exact(FY a.key (List.append (α:=KV) a.sub b.sub)).2
 | n+1,a,b=>by
  show lfs (n+1) (AA n a.key (J a.sub++J b.sub))<=_;rw[Mt,lfs,AL];exact lR
def Yh(n:Nat)(ls)(i:Nat):lfs n (Av n ls i)<=lfs n ls:=by
 rcases Kh n ls i with e|⟨P,a,b,Q,c,d,_⟩
 .rw[e];exact lR
 .have:=Xi (a:=a) (b:=b);rw[d,c];simp[lfs,AL,Au]at this |-;omega
def Ms{n:Nat}{key}{ls}(h:∀m∈ls,Hd n m):∀x∈AA n key ls,Hd (n+1) x:=by
 unfold AA;rcases Hj ι ls with⟨a,e,d⟩|⟨a,b,e,d⟩
 .rw[e];intro x c;rw[mS c];exact⟨λh=>(by cases h),λm hm=>h m (by rw[<-d];exact hm)⟩
 .rw[e];intro x c;rcases List.mem_cons.1 c with rfl|c
  .exact⟨λh=>(by cases h),λm hm=>h m (by rw[<-d];exact List.mem_append_left _ hm)⟩
  .rw[mS c];exact⟨λh=>(by cases h),λm hm=>h m (by rw[<-d];exact List.mem_append_right _ hm)⟩
def Xh:∀{n:Nat} {a b:Lnk (Tn n)},Hd n a->Hd n b->∀x∈Bf n a.key a.sub b.sub,Hd n x
 | 0,a,b,_,_=>λ_ _=>trivial
 | n+1,a,b,ha,hb=>Ms (ls:=J a.sub++J b.sub) λm c=>(mA c).elim (ha.2 m) (hb.2 m)
def Ye{n:Nat}{ls}{i:Nat}(h:∀x∈ls,Hd n x):∀x∈Av n ls i,Hd n x:=by
 rcases Kh n ls i with e|⟨P,a,b,Q,d,f,_⟩
 .rw[e];exact h
 .rw[f];rw[d]at h;intro x c;rcases mA c with c|c
  .rcases mA c with c|c
   .exact h x (by simp[c])
   .exact Xh (h a sM) (h b sM) x c
  .exact h x (by simp[c])
def QB:∀(n:Nat) (l:Lnk (Tn n)) (k:Ϧ),Hd n l->∀x∈Ax n l k,Hd n x
 | 0,l,k,h=>λ_ _=>trivial
 | n+1,l,k,h=>by
  show ∀x∈(match (J l.sub)[Af (J l.sub) k]? with
    | some m=>AA n l.key (Av n ((J l.sub).take (Af (J l.sub) k)++Ax n m k++(J l.sub).drop (Af (J l.sub) k+1)) (Af (J l.sub) k))
    | none=>[]),Hd (n+1) x
  cases b:(J l.sub)[Af (J l.sub) k]? with
  | none=>intro x b;cases b
  | some m=>
   refine Ms (Ye λx a=>?_);rcases mA a with a|a
   .rcases mA a with a|a
    .exact h.2 x (mT a)
    .exact QB n m k (h.2 m (mO b)) x a
   .exact h.2 x (mD a)
def QC:∀(n:Nat)(l)(k),Hd n l->Good n l.key l.sub->kl k l.key=false->l.key.size<=8->(∃q∈cont n l.sub,q.k=k)->min n 1<cnt n l.sub->
  qM2 (news n) (Ax n l k)+nw l<=(Ax n l k).length+2*n+news n l/\lfs n (Ax n l k)<=lf n l.sub
 | 0,l,k,ho,h,hk,hz,c,h1=>by
  have w:Ax 0 l k=AI l.key ((prs l.sub).take (Ah (prs l.sub) k)++(prs l.sub).drop (Ah (prs l.sub) k+1)):=rfl;have e:=(FY l.key ((prs l.sub).take (Ah (prs l.sub) k)++(prs l.sub).drop (Ah (prs l.sub) k+1))).1;have o:qM2 ζ ((prs l.sub).take (Ah (prs l.sub) k)++(prs l.sub).drop (Ah (prs l.sub) k+1))<=126:=by
   have f:qM2 ζ (prs l.sub)<=126:=h.fits;have:=Da ζ (prs l.sub) (Ah (prs l.sub) k);have v:=Da ζ ((prs l.sub).drop (Ah (prs l.sub) k)) 1;rw[List.drop_drop]at v;rw[AL];omega
  rw[w];refine⟨by show _<=_+0+nw l;omega,?_⟩;unfold AI Aq;rw[if_pos o];exact lR
 | n+1,l,k,ho,h,hk,hz,c,h1=>by
  have f:1<(J l.sub).length:=by have f:min (n+1) 1<(J l.sub).length:=h1;omega
  have F:Row0 n l.key (J l.sub):=⟨h.head,λm d=>⟨(h.all m d).1,(h.all m d).2.2⟩,h.pair⟩;let⟨A,m,B,e,g,t,C,D⟩:=Gy (k:=k) F (by intro e;rw[e]at f;simp at f) hk;have r:=λx a=>h.all x (by show x∈J l.sub;rw[e];exact a);have i:=λx a=>ho.2 x (by rw[e];exact a);have d:=r m sM;have E:=λb s q c=>CX (D b s) ((Cq n b.key b.sub (r b (by simp[s])).1).2 q c).2;have u:∃q∈cont n m.sub,q.k=k:=by
   let⟨q,c,j⟩:=c;have c:q∈(J l.sub).flatMap (λl=>cont n l.sub):=c;rw[e]at c;let⟨x,a,p⟩:=mF c;rcases mA a with a|a
   .exact absurd j (BM (C x a q p))
   .rcases List.mem_cons.1 a with rfl|a
    .exact⟨q,p,j⟩
    .exact absurd j.symm (BM (E x a q p))
  let⟨N,O,L⟩:=Fs n m k d.1 t d.2.2 u oM;let⟨M,K⟩:=QC n m k (i m sM) d.1 t d.2.2 u oM;have o:=Yi (A:=A) (B:=B) (W:=Ax n m k) (m:=m) (λx a=>by
   rcases mA a with a|a
   .rcases mA a with a|a
    .exact i x (by simp[a])
    .exact (λx a=>QB n m k (i m sM) x a) x a
   .exact i x (by simp[a])) L
  have I:Ax (n+1) l k=AA n l.key (Av n (A++Ax n m k++B) A.length):=by
   have z:(J l.sub)[Af (J l.sub) k]?=some m:=by rw[<-g,e];simp
   have H:(J l.sub).take (Af (J l.sub) k)=A:=by rw[<-g,e];simp
   have y:(J l.sub).drop (Af (J l.sub) k+1)=B:=by
    rw[<-g,e,show A++m::B=(A++[m])++B by simp];exact List.drop_left' sM
   show(match (J l.sub)[Af (J l.sub) k]? with
    | some m=>AA n l.key (Av n ((J l.sub).take (Af (J l.sub) k)++Ax n m k++(J l.sub).drop (Af (J l.sub) k+1)) (Af (J l.sub) k))
    | none=>[])=_
   rw[z,H,y,g]
  have G:=ho.sum;have:=(GS l.key (Av n (A++Ax n m k++B) A.length)).1;rw[e,AL,Au]at G;rw[AL,AL]at o;rw[I,Mt];refine⟨oM,lT (Yh n (A++Ax n m k++B) A.length) ?_⟩;show _<=lfs n (J l.sub);rw[e];simp[lfs,AL,Au]at K |-;omega
def Nz:∀(n:Nat)(lo)(t),Good (n+1) lo t->(J t).length*3 ^ n<=lf (n+1) t
 | n,lo,t,h=>by
  have key:∀ls:List (Lnk (Tn n)),(∀x∈ls,3 ^ n<=lf n x.sub)->ls.length*3 ^ n<=qM2 (λl:Lnk (Tn n)=>lf n l.sub) ls:=by
   intro ls
   induction ls with
   | nil=>intro _;simp[qM2]
   | cons a r ih=>
    intro e;have c:=ih λx b=>e x (by simp[b]);have d:=e a sM;rw[lC,Nat.succ_mul,Au];omega
  refine key (J t) λx b=>?_;let⟨c,d,_⟩:=h.all x b
  cases n with
  | zero=>exact lR
  | succ n=>
   have:=Nz n x.key x.sub c;have:3*3 ^ n<=(J x.sub).length*3 ^ n:=Nat.mul_le_mul_right _ d;rw[Nat.pow_succ];omega
def Root.lf:Root→Nat
 | .none=>0
 | .at n l=>YtdohpenfkdckiaaGreatDoor.lf n l.sub
def Root.lev:Root→Nat
 | .none=>0
 | .at n l=>n
def Root.hd:Root→Prop
 | .none=>True
 | .at n l=>Hd n l
def PF{n:Nat}{l}(h:RGood (.at (n+1) l)):2*3 ^ n<=Root.lf (.at (n+1) l):=by
 have a:2<=(J l.sub).length:=by have:min (n+1) 1<(J l.sub).length:=h.2.2;omega
 exact lT (Nat.mul_le_mul_right _ a) (Nz n _ _ h.2.1)
def Hq{r}(h:RGood r)(c:r.lf<=1400):r.lev<=6:=by
 cases r with
 | none=>exact zL _
 | «at» n l=>
  cases n with
  | zero=>exact zL _
  | succ n=>
   have:=PF h;show n+1<=6;rcases Nat.lt_or_ge n 6 with a|a
   .omega
   .have b:3 ^ 6<=3 ^ n:=Nat.pow_le_pow_right oM a;simp at b;omega
def XR{r}(h:RGood r)(c:r.lf<=485):r.lev<=5:=by
 cases r with
 | none=>exact zL _
 | «at» n l=>
  cases n with
  | zero=>exact zL _
  | succ n=>
   have:=PF h;show n+1<=5;rcases Nat.lt_or_ge n 5 with a|a
   .omega
   .have b:3 ^ 5<=3 ^ n:=Nat.pow_le_pow_right oM a;simp at b;omega
def qH7:∀(n:Nat)(l),l.ref=none->(Di n l).news<=news n l/\((Di n l).lev=n\/(Di n l).news+1<=news n l)/\(Di n l).lev<=n/\(Di n l).lf<=lf n l.sub
 | 0,l,h=>by
  have e:Di 0 l=match prs l.sub with | []=>.none | _::_=>.at 0 l:=rfl
  rw[e]
  cases prs l.sub with
  | nil=>exact⟨zL _,.inl rfl,zL _,zL _⟩
  | cons x r=>exact⟨lR,.inl rfl,lR,lR⟩
 | n+1,l,h=>by
  have e:Di (n+1) l=match J l.sub with | []=>.none | [m]=>.at n m | _::_::_=>.at (n+1) l:=rfl
  have a:news (n+1) l=1+qM2 (news n) (J l.sub):=by simp[news,h]
  have b:lf (n+1) l.sub=lfs n (J l.sub):=rfl;rw[e,a,b]
  cases hx:J l.sub with
  | nil=>exact⟨zL _,.inr (by show 0+1<=_;omega),zL _,zL _⟩
  | cons x r=>
   cases r with
   | nil=>
    rw[Au,AJ,lfs,Au,AJ];exact⟨by show news n x<=_;omega,.inr (by show news n x+1<=_;omega),Nat.le_succ n,lR⟩
   | cons y r=>
    refine⟨?_,.inl rfl,lR,?_⟩
    .show news (n+1) l<=_;rw[a,hx];exact lR
    .show lfs n (J l.sub)<=_;rw[hx];exact lR
def Lg{n:Nat}{l}{d:Nat}{W}(e:Made n l d W)(c:∀w∈W,w.key.size<=8):
  (W.length=1/\(AR n W).news<=qM2 (news n) W/\((AR n W).lev=n\/(AR n W).news+1<=qM2 (news n) W)/\(AR n W).lev<=n/\(AR n W).lf<=lfs n W)\/
  (W.length=2/\(AR n W).news=qM2 (news n) W+1/\(AR n W).lev=n+1/\(AR n W).lf=lfs n W):=by
 rcases e with⟨a,rfl,e1,e2,e3⟩|⟨a,b,rfl,e1,e2,e3,f,g⟩
 .rw[Au,AJ,lfs,Au,AJ];exact .inl ⟨rfl,qH7 n a e2⟩
 .have h2:qM2 ι [a,b]<=126:=by
   have:=c a sM;have:=c b sM;simp[qM2,ι];omega
  have Tz:Hid (∀{p:Prop},(_h:p:=by
   refine .inr ⟨rfl,?_,rfl,rfl⟩;show news (n+1) ⟨⟨#[]⟩,none,[a,b]⟩=_;rw[Hv,Nat.add_comm])->p):=λh=>h;exact QS
def BW(c:Nat)(r:Root):Prop:=r.news<=12*c+(if r.lev=6 then 1 else 0)
def Nf{n:Nat}{l}{d c:Nat}{W}(g:Made n l d W)(i:∀w∈W,w.key.size<=8)(q:qM2 (news n) W+nw l<=W.length+2*n+news n l)(m:BW c (.at n l))(p:n<=6)(k:n=6->l.ref=none)(o:(AR n W).lev<=6):BW (c+1) (AR n W):=by
 have h:news n l<=12*c+(if n=6 then 1 else 0):=m;unfold BW;by_cases a:n=6
 .have:=Kq (k a);rw[if_pos a]at h;rcases Lg g i with⟨b,e,f,j,_⟩|⟨b,e,f,_⟩
  .split<;>omega
  .omega
 .rw[if_neg a]at h;rcases Lg g i with⟨b,e,f,j,_⟩|⟨b,e,f,_⟩<;>split<;>omega
def Vp{r}{p}{c:Nat}(h:RGood r)(m:r.hd)(d:AD p)(i:BW c r)(k:r.lev<=6)(g:∀l,r=.at 6 l->l.ref=none)(j:(r.put p).lev<=6):BW (c+1) (r.put p):=by
 cases r with
 | none=>
  have a:=KD (r:=.none) (p:=p) trivial d;have b:=Fo a.1;have f:=JJ p Root.none.cont;rw[a.2]at b;have:Root.none.cont.length=0:=rfl;unfold BW;omega
 | «at» n l=>
  let⟨a,b,f⟩:=h;let⟨q,t,s⟩:=Gz n l p b d (by rw[a];exact CW _) (by rw[a];decide) oM;exact Nf s (λw o=>(q.all w o).2) (QA n l p m) i k (λe=>by subst e;exact g l rfl) j
def Nd{r}{k}{c:Nat}(h:RGood r)(x:r.hd)(j:BW c r)(o:r.lf<=1400)(u:∀l,r=.at 6 l->l.ref=none):BW (c+1) (r.del k)/\(r.del k).lf<=r.lf:=by
 have v:=Hq h o;have b:=(MS (k:=k) h).1
 cases r with
 | none=>exact⟨zL _,lR⟩
 | «at» n l=>
  let⟨a,g,i⟩:=h;unfold Root.del at b |-;by_cases d:(cont n l.sub).any (λq=>decide (q.k=k))=true
  .simp only[d,if_true]at b |-;have p:∃q∈cont n l.sub,q.k=k:=by simpa using d
   let⟨s,A,t⟩:=Fs n l k g (by rw[a];exact CW _) (by rw[a];decide) p i;let⟨y,z⟩:=QC n l k x g (by rw[a];exact CW _) (by rw[a];decide) p i;have m:(AR n (Ax n l k)).lf<=lf n l.sub:=by
    rcases Lg t (λw f=>(s.all w f).2) with⟨_,_,_,_,h5⟩|⟨_,_,_,h5⟩<;>omega
   exact⟨Nf t (λw f=>(s.all w f).2) y j v (λe=>by subst e;exact u l rfl) (Hq b (lT m o)),m⟩
  .simp only[d];refine⟨?_,lR⟩;have:news n l<=12*c+(if n=6 then 1 else 0):=j;show news n l<=12*(c+1)+(if n=6 then 1 else 0);omega
def RowC(w:Ϣ)(base:Nat)(v:Value)(ms:List (List KV)):Prop:=∃xs,RowM w base v ms.length xs/\Both (SPR w) xs ms
section
variable {S:Ϥ} {w w':Ϣ} {base:Nat} {v:Value} {ms:List (List KV)}
def RowC.kp(h:RowC w base v ms)(hK:Kp S w w')(f:∀i c t d,w.heap[i]?=some (ϲ c t d)->i∈S->t≠126/\t≠284):RowC w' base v ms:=by
 let⟨xs,g,j,l⟩:=h;exact⟨xs,g.kp hK λk c t d e m=>(f k c t d e m).1,j,λi a b=>(l i a b).qM3 hK λq hq c t d e hm=>(f q c t d e hq).2 (mS hm)⟩
def RowC.qM4(h:RowC w base v ms)(hK:Kp [] w w'):RowC w' base v ms:=h.kp hK λ_ _ _ _ _ a=>by cases a
def RowC.nil(w)(base:Nat):RowC w base (.slice none 0 0) []:=⟨[],⟨λu a=>(by cases a),wN _ _ _ _⟩,rfl,λi h=>by cases h⟩
def RowC.form(h:RowC w base v ms):∃p c,v=.slice p ms.length c:=by
 let⟨xs,a,b⟩:=h;exact a.form
def Both.snoc{α c:Type}{R:α->c->Prop}{a:List α}{b:List c}{x:α}{y:c}(h:Both R a b)(j:R x y):Both R (a++[x]) (b++[y]):=by
 have f:=h.1;refine⟨by simp[f],λi g k=>?_⟩;by_cases d:i<a.length
 .rw[gL d,gL oM];exact h.2 i d oM
 .have e:i=a.length:=by simp at g;omega
  subst e;rw[gR lR,gR oM];simpa [f] using j
end
def WA(base:Nat)(mp)(t:Nat)(qN4 lv)(n:Int)(e Z I:Bool)(ms:List (List KV))(ps)(w)(A:RowC w base (.slice mp ms.length t) ms)(q:SPR w lv ps)(B:ps.length<=100000)(P:∀m∈ms,m.length<=100000)(ac:ms.length<=5000000000):
  Ω 190 #[.agg #[ϊ n,.slice mp ms.length t,ϐ e,qN4,ϐ Z,ϐ I],lv] w λr w'=>r=ϱ (ϐ (decide (ps∈ms)))/\Kp [] w w':=by
 obtain⟨lp,lc,rfl⟩:=q.form;obtain⟨pn,C⟩:=eX ps.length;rw[<-C]at q B |-;obtain⟨k,z⟩:=eX ms.length;rw[<-z]at A ac |-;have u:=hid z;have HC:=hid A;have HL:=hid (And.intro q (And.intro B P));have ae:=hid C;clear A q B P z C;go_enter func190,ntmps190;go_wp2_with fail;obtain⟨w0,R,ab,s,ah⟩:=AZ w (ϲ #[ϊ n,.slice mp k t,.bool e,qN4,.bool Z,.bool I] 123);rw[<-R];clear R
 go_loopw [5] (λi wr=>∃(j:Nat),j<=k/\i=.int .i64 j/\Hid (ps∉ms.take j)/\Hid (Kp [] w0 wr)) (λi _=>k-(intOf i).toNat)
 case atStart=>exact⟨0,zL _,rfl,by show ps∉_;simp,Kp.refl _ _⟩
 case round=>
  obtain⟨j,hj,rfl,F,a⟩:=hrel;have x:=a.out.hp ab;have:=U x;have:=ϻ x 1;clear x;by_cases ag:j<k
  .have f:j<ms.length:=by have:=u.out;omega
   obtain⟨xs,T,af,V⟩:=(HC.qM4 s).qM4 a.out;have N:j<xs.length:=oM
   obtain⟨g,cur,ad,hg,y,M⟩:=Ib (c:=t) (p:=mp) (n:=ms.length) (by have h:=T.2;rw[<-u.out]at h |-;exact h) oM;have o:=V j N f;obtain⟨X,W,D⟩:=o.form;have L:cur[j]?=some (.slice X (ms[j]).length W):=by
    have K:=congrArg (λl=>l[j]?) M;simp only[Nat.mul_one,List.getElem?_take_of_lt f,gQ N,D]at K;simpa using K
   subst ad;have H:=Y y j;rw[L]at H;have:=U y;rw[D]at o;obtain⟨un,Q⟩:=eX ((ms[j]).length);rw[<-Q]at H o;have b:=hid (show Ω 201 #[.slice X un W,.slice lp pn lc] wr λe w'=>e=ϱ (.bool (decide (ms[j]=ps)))/\Kp [] wr w' from PI _ _ _ ps wr o (((HL.1.qM4 s).qM4 a)) (HL.2.2 _ (gM f)) (by have h:=HL.out.2.1;rw[ae.out]at h;exact h));have:(j:Int)<(k:Int):=oM
   have G:=hid (show ms.take (j+1)=ms.take j++[ms[j]] from tA f);have E:=hid (gM f);obtain⟨mj,O⟩:=eX (ms[j]);rw[<-O]at b G E;clear T af V o L M y D Q O hg;by_cases d:mj=ps
   .rw[decide_eq_true d]at b;subst d
    go_wp2_with (go_at_call 201;refine(show Calls _ _ _ _ _ from b).mono ?_;rintro r w' ⟨rfl,hK⟩)
    go_ret;exact⟨by rw[decide_eq_true E.out];rfl,(s.tr a).tr hK⟩
   .rw[decide_eq_false d]at b;have aa:=hid d;clear d
    go_wp2_with (go_at_call 201;refine(show Calls _ _ _ _ _ from b).mono ?_;rintro r w' ⟨rfl,hK⟩)
    refine⟨⟨j+1,oM,by go_num,?_,a.tr hK⟩,by simp[intOf];omega⟩;show ps∉_;rw[G.out,List.mem_append,List.mem_singleton];exact λh=>h.elim F λh=>aa h.symm
  .have:¬(j:Int)<(k:Int):=oM
   go_wp2;go_ret;refine⟨?_,s.tr a⟩;have h:=F.out;rw[tL (by have:=u.out;omega)]at h;rw[decide_eq_false h];rfl
def CF(l:List KV)(i:Int):Option KV:=if i<0 then none else l[i.toNat]?
def VE(l):(l.find? λ_=>true)=CF l 0:=by
 cases l with
 | nil=>rfl
 | cons a l=>rfl
def XC(l):AX (λ_=>true) l=CF l ((l.length:Int)-1):=by
 rcases List.eq_nil_or_concat l with rfl|⟨a,x,rfl⟩
 .rfl
 .rw[List.concat_eq_append,Ex,Od (by rfl),CF,if_neg sM];simp only[Option.some_or,lA,List.length_singleton];rw[show(((a.length+1:Nat):Int)-1).toNat=a.length by omega];simp
def qD6(l)(k):(l.find? λq=>!kl q.k k)=CF l (Ah l k:Nat):=by
 rw[Js,CF,if_neg oM,Int.toNat_natCast];rfl
def Ih{l}(c:Sorted l){i j:Nat}(a:i<l.length)(b:j<l.length)(h:i<j):kl l[i].k l[j].k=true:=pG c i j a b h
def KR{l}(c:Sorted l){j:Nat}(a:j<l.length):Ah l l[j].k=j:=by
 rw[Ah,List.findIdx_eq a];refine⟨by simp[Cx],λi b=>?_⟩;simp[Ih c oM a b]
def YM{l}(c:Sorted l){j:Nat}(b:j<l.length):(l.find? λq=>kl l[j].k q.k)=CF l ((Ah l l[j].k:Nat)+1):=by
 rw[KR c b,CF,if_neg oM,show((j:Int)+1).toNat=j+1 by omega];have f:∀i (a:i<l.length),i<=j->kl l[j].k l[i].k=false:=λi a hle=>by
  by_cases e:i=j
  .subst e;exact Cx _
  .exact Dt (Ih c a b oM)
 rw[Js];by_cases d:j+1<l.length
 .congr 1
  rw[List.findIdx_eq d];exact⟨Ih c b d oM,λi a=>f i oM oM⟩
 .have:l.findIdx (λq=>kl l[j].k q.k)=l.length:=List.findIdx_eq_length.2 λq hq=>by
   obtain⟨i,a,rfl⟩:=gO hq;simp[f i a oM]
  rw[this,gN lR,gN oM]
def ZW{l}(c:Sorted l){j:Nat}(d:j<l.length):AX (λk=>kl k l[j].k) l=CF l ((Ah l l[j].k:Nat)-1):=by
 rw[KR c d];have g:l.findIdx (λq=>!kl q.k l[j].k)=j:=KR c d;rw[Oe (f:=λk=>kl k l[j].k) (λa b h hb=>Dp h hb) c (i:=j-1) (by rw[g]) oM];by_cases e:j=0
 .subst e;rw[if_neg (by simp[Cx]),CF,if_pos oM]
 .rw[if_pos (Ih c oM d oM),CF,if_neg oM,show((j:Int)-1).toNat=j-1 by omega,gQ oM]
end Go.Proofs.YtdohpenfkdckiaaGreatDoor
