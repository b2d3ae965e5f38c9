import Derived.Test.YtdohpenfkdckiaaGreatDoorJ24
import Derived.Test.YtdohpenfkdckiaaGreatDoorJ33
import Derived.Test.YtdohpenfkdckiaaGreatDoorJ34
import Derived.Test.YtdohpenfkdckiaaGreatDoorJ35
set_option linter.all false
set_option maxRecDepth 100000
set_option maxHeartbeats 20000000
namespace Go.Proofs.YtdohpenfkdckiaaGreatDoor.Gw
open Go.Proofs.Tryz
open Go.ChangeShapes Go.WideShapes Go.RowKit Go.Deep
theorem kK1{W}(h:laidMetH prog Rows.spoilsRow.laid W):W.cell? ⟨0,0,none⟩=some qF5:=by
 have i:laidMet prog (Rows.spoilsRow.laid.filter λx=>x.2.handleName?.isNone) W/\handlesMet prog [("errors.errorType",Rows.laid_errors_errorType)] W:=h;obtain⟨l,u,k,c,d,e,f,a⟩:=i.2 _ (List.mem_singleton.2 rfl);have g:=(Option.some.inj c).symm;subst g;obtain rfl:=Option.some.inj (kD2.symm.trans d);have b:k∈(List.range 413).filter λt=>prog.rowNamed t [101,114,114,111,114]:=List.mem_filter.2 ⟨List.mem_range.2 (by rw[<-kD3];exact e),f⟩;rw[zB4] at b;obtain rfl:=mS b;have j:typeHandle prog 38=.pointer (some ⟨5,38,none⟩):=kR
 rw[j] at a;simpa [qF5] using World.var?_cell kC9 a 0
theorem kK5(os:Os)(H:Type)(enc:TypeId × Value->H):
  ∃ (w:World) (a:Tape) (i:Input),w.os=os/\(w.forCall a i).Shaped prog/\i.vars=[]/\Input.okWide prog (w.forCall a i) .any w.heap.size 9 i/\
   ((Rows.spoilsSpec.pre enc prog f9 [] false (w.forCall a i).memory i.args/\laidMetH prog Rows.spoilsRow.laid (w.forCall a i).memory)/\sizedMet enc prog f9 (OpenSpec.ofChange Rows.spoilsSpec) false (w.forCall a i).memory i.args)/\({}:Assume).holds prog (lone (Frame.enter prog 9 i.args .normal) [] (w.forCall a i)):=
 ChangeSpec.witness_at (enc:=enc) (C:=checked) (os:=os) (X:=λw _=>laidMetH prog Rows.spoilsRow.laid w) false ({ World.laidAll prog os (Rows.spoilsRow.laid.filter λx=>x.2.handleName?.isNone) with heap:=(World.laidAll prog os (Rows.spoilsRow.laid.filter λx=>x.2.handleName?.isNone)).heap.modify 0 λo=>match o with | .cells _ t frozen=>.cells #[qF5] t frozen | o=>o }) #[.slice none 0 0] 8 rfl kR kR kR kR kR (laidMetH_of_parts (laidMet_of_run' 8 kR kR) kR)
end Go.Proofs.YtdohpenfkdckiaaGreatDoor.Gw
namespace Go.Proofs.YtdohpenfkdckiaaGreatDoor.Gw
open Go.Proofs.Tryz
open Go.RowKit
theorem zJ5(I:DInv)(base c:Nat)(T:Int)(i:List I.G)(k x y a b:Int)(s t)(w)(h:WOk I base T w c i)
  (H:∀ w,WOk I base T w c i->Calls prog 78 #[.pointer (some ⟨c,0,none⟩),.agg #[.int .i64 k,.int .i64 x,.int .i64 y,.int .i64 a,.int .i64 b,.string s,.string t]] w λe d=>e=.returned (.bool true)/\(∃ ds',WOk I base (T+2) d c ds')/\Below base w d):
  Calls prog 40 #[.pointer (some ⟨c,0,none⟩),.agg #[.int .i64 k,.int .i64 x,.int .i64 y,.int .i64 a,.int .i64 b,.string s,.string t]] w λe d=>e=.returned (.bool true)/\(∃ ds',WOk I base (T+2) d c ds')/\Below base w d:=by
 have f:Kp [] w (w.alloc (.cells #[ϊ k,ϊ x,ϊ y,ϊ a,ϊ b,.string s,.string t] 66)):=kF.alloc _;have g:=H _ (h.same f (iR _));have m:=zh (f.below h.hbs sM);clear H h f;go_enter func40,ntmps40;go_wp2_with fail;refine g.mono ?_;rintro e n ⟨rfl,⟨ds',h1⟩,h2⟩;have j:=zh h1;have l:=zh h2;clear h1 h2 g;go_wp2;go_ret;exact⟨rfl,⟨ds',j⟩,m.trans l⟩
theorem xR5(I:DInv)(base d:Nat)(T:Int)(c:List I.G)(k x y a b:Int)(s t)(w)(h:WOk I base T w d c)
  (H:∀ w,Calls prog 78 #[.pointer (some ⟨d,0,none⟩),.agg #[.int .i64 k,.int .i64 x,.int .i64 y,.int .i64 a,.int .i64 b,.string s,.string t]] w λe f=>e=.returned (.bool false)/\Kp [] w f) (p:c.length=0\/k<1):
  Calls prog 40 #[.pointer (some ⟨d,0,none⟩),.agg #[.int .i64 k,.int .i64 x,.int .i64 y,.int .i64 a,.int .i64 b,.string s,.string t]] w λe f=>e=.returned (.bool true)/\(∃ ds',WOk I base (T+2) f d ds')/\Below base w f:=by
 have o:=H (w.alloc (.cells #[ϊ k,ϊ x,ϊ y,ϊ a,ϊ b,.string s,.string t] 66));have g:=zh h;clear H h;go_enter func40,ntmps40;go_wp2_with fail;refine o.mono ?_;rintro e z ⟨rfl,l⟩;have j:Hid (Kp [] w z):=(kF.alloc _).tr l;have i:=zh (g.same j (iR _));have m:=l.heap (υ w (.cells #[ϊ k,ϊ x,ϊ y,ϊ a,ϊ b,.string s,.string t] 66)) sM;obtain⟨M,nk,B,xs,L,A,n,q,r,u⟩:=i.out.hW;have D:=ζ n;have C:=ζ m;have v:=ξ n 1;simp only[qD6,zG,zH,zI] at v;have K:=ϻ m 0;clear q r u l o m n;by_cases J:(c.length:Int)=0
 .clear p;go_wp2;go_ret;exact⟨rfl,⟨c,i.same kF oM⟩,j.below g.hbs sM⟩
 .have G:k<1:=oM
  clear p;have F:¬20<k:=oM
  have E:k<10:=oM
  go_wp2
  all_goals
   go_ret;exact⟨rfl,⟨c,i.same kF oM⟩,j.below g.hbs sM⟩
def zV8(I:DInv)(k:Int):Prop:=∀ (base Wb:Nat) (T:Int) (ds:List I.G) (x y a b:Int) (s t:ByteArray) (w:World),WOk I base T w Wb ds→T≤60000→I64 x→I64 a→I64 b→1≤ds.length→
 Calls prog 124 #[.pointer (some ⟨Wb,0,none⟩),.agg #[.int .i64 k,.int .i64 x,.int .i64 y,.int .i64 a,.int .i64 b,.string s,.string t]] w fun e w'=>e=.returned (.bool true)∧(∃ ds',WOk I base (T+2) w' Wb ds')∧Below base w w'
theorem jE4(I:DInv):zV8 I 5:=λbase c T d x y a b s t w h j i e f g=>jY5 I base c T d x y a b s t w h oM i e f g
theorem kL2(I:DInv)(ks:List Int)(u:∀ k∈ks,k=4\/(5<=k/\k<=9/\zV8 I k)\/(10<=k/\k<=20))(O:DOps I ks):zL1 I ks:=by
 intro base c T d o w h r q m;obtain⟨k,x,y,a,b,s,t⟩:=o;obtain⟨i,l⟩:=r;simp only at i |-;by_cases f:k<1
 .exact xR5 I base c T d k x y a b s t w h (λe=>jZ5 c k x y a b s t e f) (Or.inr f)
 by_cases j:k=3\/k=4
 .exact zJ5 I base c T d k x y a b s t w h (λe f=>jZ3 I base c T d k x y a b s t e f oM j)
 rcases i with i|i
 .have j:k=1\/k=2:=oM
  rcases j with rfl|rfl
  .exact zJ5 I base c T d 1 x y a b s t w h (λe f=>jZ4 I base c T d x y a b s t e f oM)
  .exact zJ5 I base c T d 2 x y a b s t w h (λe f=>jZ6 I base c T d x y a b s t e f)
 .rcases u k i with g|⟨g,p,v⟩|g
  .exact absurd (.inr g) j
  .exact zJ5 I base c T d k x y a b s t w h (λe f=>jZ7 I base c T d k x y a b s t e f g p λw2 g1 g2=>v base c T d x y a b s t w2 g1 m l.x l.a l.b g2)
  by_cases n:d.length=0
  .exact xR5 I base c T d k x y a b s t w h (λe=>xN1 c k x y a b s t e oM) (Or.inl n)
  .exact kL1 I ks O base c T d k x y a b s t w h q m l i g.1 g.2 n
end Go.Proofs.YtdohpenfkdckiaaGreatDoor.Gw
namespace Go.Proofs.YtdohpenfkdckiaaGreatDoor
open Go.Proofs.Tryz
open Go.RowKit
theorem qX3(x:List UInt8)(a b:Nat)(h:a+b<=24):(x.drop a).take b=((x.take 24).drop a).take b:=by rw[List.drop_take,List.take_take,Nat.min_eq_left oM]
theorem xQ5(N a rs:Int):(toB (qG9 N a rs)).take 24=toB (qJ2 N a rs):=by
 have h:(toB (qJ2 N a rs)).length=24:=by rw[qN9,zT4]
 rw[qG9,qI0,List.take_append_of_le_length oM,tL oM]
theorem xQ3(N a rs:Int):(toB (qG9 N a rs)).drop 24=toB (qB5 8 (fnv (qJ2 N a rs))):=by
 have h:(toB (qJ2 N a rs)).length=24:=by rw[qN9,zT4]
 rw[qG9,qI0,List.drop_append_of_le_length oM,dL oM,nA]
theorem xQ1(N a rs:Int):∀ x∈qJ2 N a rs,0<=x/\x<256:=λx hx=>xQ2 N a rs x (by rw[qG9];exact List.mem_append_left _ hx)
theorem kP0{l l'}{i:Nat}{N a rs c d f:Int}(h:ω l i=qB6 N a rs)(b:HeadOk i N a rs)(k:One (ω l i) (ω l' i))(r:Valid l' i c d f):c=N/\d=a/\f=rs:=by
 obtain⟨s,t,u,v,n⟩:=r;have j:(ω l i).take 32=toB (qG9 N a rs):=by rw[h,xF5]
 have o:(ω l i).take 24=toB (qJ2 N a rs):=by rw[<-xQ5,<-j,List.take_take];rfl
 have p:(ω l' i).take 24=toB (qJ2 c d f):=by rw[<-xQ5,n,List.take_take];rfl
 have key:(ω l i).take 24=(ω l' i).take 24:=by
  rcases (k.take 32).cut 24 with e|e
  .rw[List.take_take,List.take_take] at e;exact e
  .rw[j,<-n,xQ3,xQ3] at e;have q:=qS7 (qK9 8 _) (qK9 8 _) e;have g:=congrArg qG6 q;have m:(256:Int) ^ 8=18446744073709551616:=dC
   rw[qP1 8 _ dC (qR3 _) (by rw[m];exact qZ3 _),qP1 8 _ dC (qR3 _) (by rw[m];exact qZ3 _)] at g;refine (k.take 24).sum ?_;rw[o,p,qM8 _ (xQ1 _ _ _),qM8 _ (xQ1 _ _ _)];exact g
 refine⟨?_,?_,?_⟩
 .rw[<-s,qX3 _ 8 8 dC,<-key,<-qX3 _ 8 8 dC,h,xF3 N a rs b.n0 b.n1]
 .rw[<-t,qX3 _ 6 2 dC,<-key,<-qX3 _ 6 2 dC,h,xF2 N a rs b.b0 b.b1]
 .rw[<-u,qX3 _ 16 8 dC,<-key,<-qX3 _ 16 8 dC,h,xF4 N a rs b.s0 b.s1]
theorem zG7{N:Nat}{l}:∀ {n b:Nat} {s:Int} {t},Laid N l n b s t->s=fnv (qE3 (ω l b))
 | 0,b,s,t,h=>by
  obtain⟨_,_,c,d,a,e,f⟩:=h;rw[d,qM8 _ (qG5 0 _ [] oM oM sO a sM)];exact c
 | n+1,b,s,t,h=>by
  obtain⟨_,_,c,g,d,a,e,f,i,j⟩:=h;rw[e,qM8 _ (qG5 _ [] g oM oM sO sM f)];exact a
theorem xG9{N:Nat}{l l'}(d:N<=1000)(z:∀ k,k<N->One (ω l k) (ω l' k)):∀ (n b j:Nat) (s:Int) (t) (t0),Laid N l j b s t0->Laid N l' n b s t->Laid N l n b s t
 | 0,b,j,s,t,t0,h0,h=>by
  have e:=(z b h.at.2.1).sum (by rw[<-zG7 h0,<-zG7 h]);obtain⟨u,v,w,a,x⟩:=h;exact⟨u,v,w,by rw[e];exact a,x⟩
 | n+1,b,j,s,t,t0,h0,h=>by
  have e:=(z b h.at.2.1).sum (by rw[<-zG7 h0,<-zG7 h]);obtain⟨u,v,w,C,a,x,y,c,T,U⟩:=h;obtain⟨ac,ab,R,S⟩:=zO8 d h0;have o:=qS7 S (qG5 ((n+1:Nat):Int) [] C oM oM sO sM c) (by rw[<-R,e,y]);obtain⟨aa,_⟩:=qU4 o;obtain rfl:j=n+1:=oM
  obtain⟨k1,k2,k3,D,E,k5,W,H,k8,k9⟩:=h0;have O:=qS7 (qG5 ((n+1:Nat):Int) [] D oM oM sO sM H) (qG5 ((n+1:Nat):Int) [] C oM oM sO sM c) (by rw[<-W,e,y]);obtain⟨_,V,r,r',G⟩:=qU4 O;simp only[List.flatMap_nil,nA] at G;have P:=zQ0 D C _ _ (λp B=>Laid.links E H d p B) (λp B=>Laid.links a c d p B) (by simpa using V) G;subst P;refine⟨u,v,w,D,⟨a.1,λi m K=>?_⟩,x,by rw[e];exact y,c,T,U⟩;have Z:=a.2 i m K;have L:i<(η t0).length:=by rw[<-E.1];exact m
  have r2:=E.2 i m L;obtain⟨Y,f⟩:=Z;obtain⟨q2,g⟩:=r2;refine⟨Y,?_⟩
  cases x1:(η t)[i].ref with
  | none=>rw[x1] at f;obtain⟨_,_,q,_,A⟩:=f;exact A.elim
  | some y1=>
   cases x2:(η t0)[i].ref with
   | none=>rw[x2] at g;obtain⟨_,_,q,_,A⟩:=g;exact A.elim
   | some y2=>
    rw[x1] at f;rw[x2] at g;obtain⟨M,I,X,J⟩:=f;obtain⟨b2,s2,_,F⟩:=g;have o:y1.1=y2.1:=oM
    have Q:y1.2=y2.2:=by rw[<-I,s2]
    rw[<-o,<-Q] at F;exact⟨M,I,X,xG9 d z n y1.1 n y1.2 _ _ F J⟩
theorem jT2{N:Nat}{l l'}{i rs:Int}{r r0}(f:N<=1000)(m:∀ k,k<N->One (ω l k) (ω l' k))(c:Lie N l i rs r0)(h:Lie N l' i rs r):r.cont=r0.cont:=by
 cases r with
 | none=>
  obtain⟨rfl,rfl⟩:=h
  cases r0 with
  | none=>rfl
  | «at» n L=>
   obtain⟨b,e,_,a⟩:=c;have:=a.at;omega
 | «at» n L=>
  obtain⟨b,e,q,a⟩:=h
  cases r0 with
  | none=>
   obtain⟨rfl,rfl⟩:=c;have:=a.at;omega
  | «at» n0 L0=>
   obtain⟨j,p,s,d⟩:=c;obtain rfl:b=j:=oM
   have g:=xG9 f m n b n0 rs L.sub L0.sub d a;obtain rfl:n=n0:=qW3 f g d;have o:=(zG6 f n b rs rs L.sub L0.sub g d).2;show cont n L.sub=cont n L0.sub;rw[o]
theorem zY0{N:Nat}{l}:∀ (n b:Nat) (s:Int) (t),Laid N l n b s t->∀ k∈Blk n b t,k<N
 | 0,b,s,t,h,k,a=>by simp[Blk] at a;have:=h.at;omega
 | n+1,b,s,t,h,k,a=>by
  have q:=h.at;obtain⟨g,j,o,r,c,p⟩:=h;simp only[Blk,mC,List.mem_flatMap] at a;rcases a with rfl|⟨m,f,a⟩
  .omega
  .obtain⟨i,d,rfl⟩:=gO f;have e:=(c.2 i (by rw[c.1];exact d) d).2
   cases hx:(η t)[i].ref with
   | none=>rw[hx] at a;cases a
   | some x=>
    rw[hx] at a e;exact zY0 n x.1 x.2 _ e.2.2.2 k a
theorem Lie.moved{N:Nat}{l l'}{d rs:Int}{r}(h:Lie N l d rs r)(g:∀ k,k<N->ω l' k=ω l k):Lie N l' d rs r:=by
 refine h.move λk a=>g k ?_
 cases r with
 | none=>cases a
 | «at» n L=>
  obtain⟨b,rfl,e,f⟩:=h;have c:k∈qH8 n L:=a;rw[qO1 e] at c;exact zY0 n b rs L.sub f k c
def Hd0(n:Nat)(l:List UInt8)(ws:List (List KV)):Prop:=(∀ i,i<2→ω l i=List.replicate 128 0)∨∀ i,i<2→∃ M rb rs r,ω l i=qB6 M rb rs∧HeadOk i M rb rs∧Lie n l rb rs r∧r.cont∈ws
def Kn(wild emp bit:Bool)(n:Nat)(l:List UInt8)(q:Option Root)(mays weres:List (List KV)):Prop:=wild=true∨((∀ r,q=some r→r.cont∈mays)∧(q=none→emp=true∨mays=[])∧(bit=false→8≤n→n≤400→Hd0 n l weres))
theorem zV0{m i:Nat}(h:i<m):ω (List.replicate (m*128) 0) i=List.replicate 128 0:=by
 simp only[ω,List.drop_replicate,List.take_replicate]
 congr 1
 omega
theorem zV1{l:List UInt8}{i:Nat}{p:List UInt8}(h:One (List.replicate 128 0) (ω l i)):IsHd l i none:=λN q rs o=>by
 have k:=o.2.2.2.2;rw[qG9,qI0] at k;have e:∀ j,j<2->(ω l i)[j]?=(toB qJ6)[j]?:=λj hj=>by
  have g:=congrArg (λx=>x[j]?) k;simp only[qJ2,qI0,aA] at g;rw[List.getElem?_append_left (by simp[qN9,qJ6];omega),List.getElem?_take_of_lt oM] at g;exact g.symm
 have c:=e 0 oM;have d:=e 1 oM;simp[toB,qJ6] at c d;rcases h with h|⟨a,x,y,b,_,m,n⟩
 .rw[<-h] at c;simp at c
 .have f:∀ z∈a++x::b,z=0:=λz f=>(List.mem_replicate.1 (m ▸ f)).2;rw[n] at c d
  cases a with
  | nil=>
   cases b with
   | nil=>simp at d
   | cons b0 b=>simp at d;have:=f b0 sM;rw[this] at d;simp at d
  | cons a0 a=>simp at c;have:=f a0 sM;rw[this] at c;simp at c
theorem jT3(m:Nat)(h:8<=m):Lies m (List.replicate (m*128) 0) 0 none:=
 .inl ⟨rfl,zV1 (p:=[]) (.inl (zV0 oM).symm),zV1 (p:=[]) (.inl (zV0 oM).symm),rfl⟩
theorem xJ7(n:Nat)(l):∃ q,(8<=n->n<=400->∃ N,Lies n l N q)/\(∀ r,q=some r->r.cont.length<=25200)/\(¬(8<=n/\n<=400)->q=none):=by
 by_cases c:8<=n/\n<=400
 .obtain⟨N,q,h⟩:=Lies.is n l;refine⟨q,λ_ _=>⟨N,h⟩,λr e=>?_,λh=>absurd c h⟩;subst e;rcases h with⟨e,_⟩|⟨d,rs,_,a,b⟩
  .cases e
  .exact (qW5 a b c.2).2
 .exact⟨none,λa b=>absurd ⟨a,b⟩ c,λr e=>(by cases e),λ_=>rfl⟩
theorem kL4{n k:Nat}{l}(b:n*128<=l.length)(a:k<n):ω (l.take (n*128)) k=ω l k:=by
 unfold ω;rw[List.drop_take,List.take_take]
 congr 1
 omega
theorem Lies.move{n:Nat}{l l'}{N:Int}{q:Option Root}(h:Lies n l N q)(m:2<=n)(c:∀ k,k<n->ω l' k=ω l k):Lies n l' N q:=by
 have d:∀ k,k<2->(ω l' k).take 32=(ω l k).take 32:=λk a=>by rw[c k oM]
 rcases h with⟨b,a,g,i⟩|⟨j,rs,b,a⟩
 .exact .inl ⟨b,a.sec (d 0 oM),g.sec (d 1 oM),i⟩
 .refine .inr ⟨j,rs,b.same d,?_⟩
  cases q with
  | some r=>exact⟨a.1.moved c,a.2⟩
  | none=>exact λr e f=>a r (e.moved λk h=>(c k h).symm) f
theorem Hd0.move{n:Nat}{l l'}{c:List (List KV)}(h:Hd0 n l c)(m:2<=n)(b:∀ k,k<n->ω l' k=ω l k):Hd0 n l' c:=by
 rcases h with h|h
 .exact .inl λi a=>by rw[b i oM];exact h i a
 .refine .inr λi a=>?_;obtain⟨M,j,rs,r,d,e,f,g⟩:=h i a;exact⟨M,j,rs,r,by rw[b i oM];exact d,e,f.moved b,g⟩
theorem Hd0.more{n:Nat}{l}{a:List (List KV)}(h:Hd0 n l a)(m):Hd0 n l (a++[m]):=by
 rcases h with h|h
 .exact .inl h
 .refine .inr λi f=>?_;obtain⟨M,g,rs,r,b,c,d,e⟩:=h i f;exact⟨M,g,rs,r,b,c,d,List.mem_append_left _ e⟩
theorem Kn.move{wl em bt:Bool}{n:Nat}{l l'}{q:Option Root}{c d:List (List KV)}(h:Kn wl em bt n l q c d)(j:∀ k,k<n->ω l' k=ω l k):Kn wl em bt n l' q c d:=
 h.imp id λ⟨f,g,i⟩=>⟨f,g,λe a b=>(i e a b).move oM j⟩
theorem Kn.turn{wl em bt:Bool}{n:Nat}{l l'}{q q':Option Root}{o g:List (List KV)}(h:Kn wl em bt n l q o g)(D:n*128<=l.length)(E:n*128<=l'.length)(d:∀ k,k<n->One (ω l k) (ω l' k))(c:8<=n->n<=400->∃ N,Lies n l' N q')(A:¬(8<=n/\n<=400)->q'=none):Kn (wl || bt) true true n l' q' (o++g) g:=by
 rcases h with h|⟨B,C,t⟩
 .exact .inl (by rw[h];rfl)
 cases bt with
 | true=>exact .inl sM
 | false=>
  refine .inr ⟨λr e=>?_,λ_=>.inl rfl,λe=>by cases e⟩;subst e;have a:=Classical.byContradiction λa=>by have:=A a;cases this
  obtain⟨N,⟨e,_⟩|⟨rb,rs,hh,c⟩⟩:=c a.1 a.2
  .cases e
  obtain⟨i,j,_,m⟩:=hh.valid;refine List.mem_append_right _ ?_;rcases t rfl a.1 a.2 with f|f
  .exact absurd m (zV1 (p:=[]) (by have:=d i oM;rw[f i j] at this;exact this) _ _ _)
  .obtain⟨M,b,s,F,u,v,w,x⟩:=f i j;obtain⟨_,y,z⟩:=kP0 u v (d i oM) m;rw[y,z] at c;rw[jT2 oM d w c.1];exact x
theorem jE3(St:Nat)(s)(h)(w)(d:w.heap[St]?=some (ν 1 s))
  (k:∀ W:World,Sem.run prog (Op.equalIn 10000 89 (τ s.V h) (τ s.V ⟨⟨#[]⟩,s.rb,s.rs,none⟩)) W=.ok true W):
  Calls prog 70 #[.pointer (some ⟨St,0,none⟩),τ s.V h] w λe m=>e=.returned (.tuple #[])/\Kp [] w m:=by
 have j:=zh d;clear d;rw[τ,show τ s.V ⟨⟨#[]⟩,s.rb,s.rs,none⟩=.agg #[ϖ s.V,.string ⟨#[]⟩,ϊ s.rb,.int .u64 s.rs,.pointer none] from rfl] at k;rw[τ];go_enter func70,ntmps70;go_wp2_with fail;obtain⟨n,g,f,a,p⟩:=qD5 w (.cells (ϟ s.V h) 89);rw[<-g];clear g;refine (zA8 St 1 s n (a.hp j)).mono ?_;rintro e q ⟨rfl,b⟩;rw[show τ s.V ⟨⟨#[]⟩,s.rb,s.rs,none⟩=.agg #[ϖ s.V,.string ⟨#[]⟩,ϊ s.rb,.int .u64 s.rs,.pointer none] from rfl];have c:=b.hp f;have o:=ζ c;have t:=ξ c;have i:=zh (a.tr b);clear a b f c;go_wp2;refine bodyPost_ret (results_none results70 _ _ _) rfl ?_;exact⟨rfl,i.alloc _⟩
section
variable {w:World} {db St A C N nM:Nat} {s:Sto} {D:DataW Unit} {l:List UInt8} {wr:Int} {nw:Root}
theorem LiveT.lie{E':SEnv}{x:Nat}{t:Tx}{r:Root}{i:N<=1000}{m:N*128<=l.length}{g:C≠A}{j:s.V≠A}(h:LiveT (EL s.V A N C l wr i m g j) w x A N t s r)(k:t.h.p=none):Lie N l t.h.b t.h.s r:=by
 have c:=h.rr
 cases r with
 | none=>rw[show t.h=_ from c];exact⟨rfl,rfl⟩
 | «at» n L=>
  have a:=c.2
  cases hx:L.ref with
  | none=>
   rw[hx] at a;obtain⟨_,_,q,e,_⟩:=a;rw[k] at e;cases e
  | some x=>
   rw[hx] at a;obtain⟨d,b,_,f⟩:=a;refine⟨x.1,d,?_,?_⟩
   .rw[hx,b]
   .rw[b];exact f
theorem Sh.commits(a:Sh w db St A C N nM s D l wr nw){x:Nat}{t}{r}(d:LiveT a.E w x A N t s r)(L:t.St=St)(M:t.wrt=true)(G:0<=t.nr)(H:t.nr<=1000000000):
  Calls prog 31 #[.pointer (some ⟨x,0,none⟩)] w λe g=>∃ v k,e=.returned v/\ErrV g v k/\g.heap[x]?=some (qA5 t.ended)/\Kp [St,x,s.M,A,C] w g/\((k=none/\∃ b f wr' m,Sh g db St A C N nM b (D.del (ι t.nr)) f wr' m/\m.cont=r.cont/\(f=l\/Hd2 N f nw.cont m.cont)/\b.bg=s.bg/\b.wr=(s.left t.nr).wr/\b.V=s.V/\b.M=s.M/\f.length=l.length/\zC9 N (D.del (ι t.nr)) l f/\(wr'=wr\/(wr'=nx (nk (nx wr) r.news)/\r.lev<=5)))\/(k=some 3/\Sh g db St A C N nM (s.left t.nr) (D.del (ι t.nr)) l wr nw/\∀ U,zC7 N (D.del (ι t.nr)) l U->N<2+r.news+qD2 r+qD2 nw+meas Prod.snd U)):=by
 have ac:=a.hM.tidy qM3;have ag:=Maps.size_del (k:=ι t.nr) ac;have af:=a.m4;have u:∀ k,Maps.has (D.del (ι t.nr)) k=true->Maps.has D k=true/\∀ zd,(D.del (ι t.nr)).atKey k zd=D.atKey k zd:=λk j=>by
  by_cases e:k=ι t.nr
  .rw[e,Maps.has_del_same] at j;cases j
  .rw[Maps.has_del_other e] at j;exact⟨j,λzd=>Maps.atKey_del_other e zd⟩
 have K:(∀ W:World,Sem.run prog (Op.equalIn 10000 89 (τ s.V t.h) (τ s.V ⟨⟨#[]⟩,s.rb,s.rs,none⟩)) W=.ok false W)->Ω 31 #[ϖ x] w λe g=>∃ v k,e=ϱ v/\ErrV g v k/\Ϙ g x (qA5 t.ended)/\Kp [St,x,s.M,A,C] w g/\((k=none/\∃ b f wr' m,Sh g db St A C N nM b (D.del (ι t.nr)) f wr' m/\m.cont=r.cont/\(f=l\/Hd2 N f nw.cont m.cont)/\b.bg=s.bg/\b.wr=(s.left t.nr).wr/\b.V=s.V/\b.M=s.M/\f.length=l.length/\zC9 N (D.del (ι t.nr)) l f/\(wr'=wr\/(wr'=nx (nk (nx wr) r.news)/\r.lev<=5)))\/(k=some 3/\Sh g db St A C N nM (s.left t.nr) (D.del (ι t.nr)) l wr nw/\∀ U,zC7 N (D.del (ι t.nr)) l U->N<2+r.news+qD2 r+qD2 nw+meas Prod.snd U)):=λz=>by
  refine (kF2 a x t r d L M G H z u oM).mono ?_;rintro e g ⟨v,k,P,Q,R,S,T⟩;refine⟨v,k,P,Q,R,S,T.imp ?_ id⟩;rintro⟨V,b,f,m,Z,F,b4,b5,b6,b7,b8,b9,X,Y⟩;exact⟨V,b,f,_,m,Z,F,.inr (by rw[F];exact b4),b5,b6,b7,b8,b9,X,.inr ⟨rfl,Y⟩⟩
 cases hp:t.h.p with
 | some q=>exact K (λW=>kN9 s.V q t.h s.rb s.rs hp d.key W)
 | none=>
  by_cases n:t.h.b=s.rb/\t.h.s=s.rs
  .have z:∀ W:World,Sem.run prog (Op.equalIn 10000 89 (τ s.V t.h) (τ s.V ⟨⟨#[]⟩,s.rb,s.rs,none⟩)) W=.ok true W:=λW=>by rw[xS4 s.V t.h s.rb s.rs hp d.key W];simp[n]
   have aa:Lie N l s.rb s.rs r:=by
    have h:=LiveT.lie (E':=a.E) d hp;rw[n.1,n.2] at h;exact h
   subst L;obtain⟨cA,hA⟩:=a.hA;have J:=(qD3 a.hSt a.hM).symm;have ad:=qD3 d.hx a.hM;have ab:=(OffD.one d.hSt dC).cons ((OffD.one d.hx dC).cons (λk j c ty fr e=>by rw[mS j] at e;exact absurd rfl (qD3 e a.hM)));obtain⟨n1,n2,n3,n4⟩:=a.neDb;refine (xR8 x nM s.V t s D [] (λk b W E=>k=none/\b=s.left t.nr/\Kp [] W E) w d.hx d.over a.hSt a.po a.hM G H J d.xS ad a.hM.lt d.on M sM ?_).mono ?_
   .intro W hK O p I;refine (jE3 t.St (s.left t.nr) t.h W p z).mono ?_;rintro e E ⟨rfl,o⟩;exact⟨none,s.left t.nr,sM,rfl,⟨rfl,rfl,o⟩,o.mono sM,o.hp p⟩
   .rintro e g ⟨k,b,v,rfl,hv,hs2,hKw,W,E,B,hK,O,p,I,⟨rfl,rfl,hR⟩,_,hs1,hB0,hB1,hKB⟩;have ah:=ζ d.hx;have ae:=a.hM.lt;refine⟨v,none,rfl,hv,hKB.heap (hR.hp O) (by simp[d.xS];omega),hKw.mono (by intro i hi _;simp at hi |-;omega),.inl ⟨rfl,s.left t.nr,l,wr,nw,?_,(Lie.one a.N1 a.lie aa).1,.inl rfl,rfl,rfl,rfl,rfl,rfl,λ_ _ _ _ _ _ h=>h,.inl rfl⟩⟩;refine a.turn hKw (by simp[n1,n4];exact qA1 a.hDb d.hx dC) (qD0 (qD0 (qD0 a.dev hK ab) hR (by intro k j;cases j)) hKB (qR0 hs1 hB1)) ⟨rfl,rfl,rfl,rfl,rfl,rfl⟩ hs2 ((I.kp hR sM).kp hKB (by simp[J];omega)) oM a.n1 a.bg0 (λk j=>a.kb k (u k j).1) (λy h g1 g2 g3=>?_);obtain⟨f1,f2⟩:=u _ g1;exact a.rd y h f1 (λzd=>(f2 zd).symm.trans (g2 zd)) g3
  .exact K (λW=>by rw[xS4 s.V t.h s.rb s.rs hp d.key W];simp[n])
end
end Go.Proofs.YtdohpenfkdckiaaGreatDoor
