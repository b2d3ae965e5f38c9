import Derived.Test.YtdohpenfkdckiaaGreatDoorJ23
import Derived.Test.YtdohpenfkdckiaaGreatDoorJ27
set_option linter.all false
set_option maxRecDepth 100000
set_option maxHeartbeats 20000000
namespace Go.Proofs.YtdohpenfkdckiaaGreatDoor.Gw
open Go.Proofs.Tryz
open Go.ChangeShapes Go.WideShapes Go.RowKit Go.Deep
theorem jH5{W}(h:laidMetH prog Rows.commitsRow.laid W):W.cell? ⟨0,0,none⟩=some qE9:=by
 have i:laidMet prog (Rows.commitsRow.laid.filter λx=>x.2.handleName?.isNone) W/\handlesMet prog [("errors.errorType",Rows.laid_errors_errorType)] W:=h;obtain⟨l,u,k,c,d,e,f,a⟩:=i.2 _ (List.mem_singleton.2 rfl);have g:=(Option.some.inj c).symm;subst g;obtain rfl:=Option.some.inj (kK3.symm.trans d);have b:k∈(List.range 413).filter λt=>prog.rowNamed t [101,114,114,111,114]:=List.mem_filter.2 ⟨List.mem_range.2 (by rw[<-kK4];exact e),f⟩;rw[kK1] at b;obtain rfl:=mS b;have j:typeHandle prog 38=.pointer (some ⟨5,38,none⟩):=kR
 rw[j] at a;simpa [qE9] using World.var?_cell kJ9 a 0
theorem jH9(os:Os)(H:Type)(enc:TypeId × Value->H):
  ∃ (w:World) (a:Tape) (i:Input),w.os=os/\(w.forCall a i).Shaped prog/\i.vars=[]/\Input.okWide prog (w.forCall a i) .any w.heap.size 6 i/\
   ((Rows.commitsSpec.pre enc prog f6 [] false (w.forCall a i).memory i.args/\laidMetH prog Rows.commitsRow.laid (w.forCall a i).memory)/\sizedMet enc prog f6 (OpenSpec.ofChange Rows.commitsSpec) false (w.forCall a i).memory i.args)/\({}:Assume).holds prog (lone (Frame.enter prog 6 i.args .normal) [] (w.forCall a i)):=
 ChangeSpec.witness_at (enc:=enc) (C:=checked) (os:=os) (X:=λw _=>laidMetH prog Rows.commitsRow.laid w) false ({ World.laidAll prog os (Rows.commitsRow.laid.filter λx=>x.2.handleName?.isNone) with heap:=(World.laidAll prog os (Rows.commitsRow.laid.filter λx=>x.2.handleName?.isNone)).heap.modify 0 λo=>match o with | .cells _ t frozen=>.cells #[qE9] t frozen | o=>o }) #[.slice none 0 0] 8 rfl kR kR kR kR kR (laidMetH_of_parts (laidMet_of_run' 8 kR kR) kR)
end Go.Proofs.YtdohpenfkdckiaaGreatDoor.Gw
namespace Go.Proofs.YtdohpenfkdckiaaGreatDoor
open Go.Proofs.Tryz
open Go.RowKit
theorem xI6{α:Type}(f:α->Nat)(c:Nat):∀ (l:List α),(∀ x∈l,c<=f x)->c*l.length<=meas f l
 | [],_=>by simp[meas]
 | x::l,h=>by
  have b:=h x sM;have d:=xI6 f c l λy a=>h y (by simp[a]);rw[qC1,lC,Nat.mul_succ];omega
theorem jN8{α a:Type}(f:α->List a)(l:List α):(l.flatMap f).length=meas (λx=>(f x).length) l:=by simp[meas,List.length_flatMap]
theorem xD2:∀ (n:Nat) (lo) (t),Good n lo t->cnt n t*3 ^ n<=(cont n t).length
 | 0,lo,t,h=>by simp[cnt,cont]
 | n+1,lo,t,h=>by
  have a:∀ x∈η t,3 ^ (n+1)<=(cont n x.sub).length:=λx hx=>by
   have f:=xD2 n x.key x.sub (h.all x hx).1;have b:=(h.all x hx).2.1;have g:3*3 ^ n<=cnt n x.sub*3 ^ n:=Nat.mul_le_mul_right _ b;rw[Nat.pow_succ];omega
  have c:=xI6 (λx:Lnk (Tn n)=>(cont n x.sub).length) (3 ^ (n+1)) (η t) a;have d:(cont (n+1) t).length=meas (λx:Lnk (Tn n)=>(cont n x.sub).length) (η t):=jN8 (λx:Lnk (Tn n)=>cont n x.sub) (η t);have e:cnt (n+1) t=(η t).length:=rfl;rw[d,e,Nat.mul_comm];exact c
theorem xD3:∀ (n:Nat) (L:Lnk (Tn n)),Good n L.key L.sub->L.key.size<=8->n<256->OkL n L
 | 0,L,h,hk,hn=>⟨hk,λ_=>by
   have b:meas ρ (prs L.sub)<=126:=h.fits;have c:=qK1 ρ (prs L.sub) λx _=>by unfold ρ;omega
   exact⟨λp d=>(h.all p d).1,oM,oM⟩⟩
 | n+1,L,h,hk,hn=>⟨hk,λ_=>by
   have b:meas qA2 (η L.sub)<=126:=h.fits;have c:=qK1 qA2 (η L.sub) λx _=>by unfold qA2;omega
   exact⟨hn,λm a=>xD3 n m (h.all m a).1 (h.all m a).2.2 oM,oM,oM⟩⟩
theorem xM6{N:Nat}{l}{w}:∀ (n:Nat) (h) (L),RL (Laid N l) n w h L->qJ8 N l n L
 | 0,h,L,hr=>λx d=>by
  have a:=hr.2;rw[d] at a;exact a.2.2.2
 | n+1,h,L,hr=>by
  refine⟨λx d=>?_,λhn m hm=>?_⟩
  .have a:=hr.2;rw[d] at a;exact a.2.2.2
  .have a:=hr.2;rw[hn] at a;obtain⟨_,_,q,_,f,_,e,_,b⟩:=a;obtain⟨i,c,rfl⟩:=gO hm;exact xM6 n (e[i]'(by rw[b.1];exact c)) _ (b.2 i (by rw[b.1];exact c) c)
theorem zH3{V A N C:Nat}{l}{wr:Int}{b:N<=1000}{e:N*128<=l.length}{a:C≠A}{c:V≠A}{w}{h}{r}(d:RR (EL V A N C l wr b e a c).toEnv w h r):qL3 N l r:=by
 cases r with
 | none=>trivial
 | «at» n L=>exact xM6 n h L d
theorem zO2{X:Type}(f:Lnk X->List Nat->Lnk X × List (Nat × List UInt8) × List Nat)(R:Lnk X->Lnk X->Prop):∀ (ls:List (Lnk X)) (fr),(∀ l∈ls,∀ fr,R l (f l fr).1)->Both R ls (qB2 f ls fr).1
 | [],fr,_=>⟨rfl,λi h=>by simp at h⟩
 | l::ls,fr,h=>by
  obtain⟨a,b⟩:=zO2 f R ls (f l fr).2.2 λx hx=>h x (by simp[hx]);refine⟨by simp[qB2,a],λi c d=>?_⟩
  cases i with
  | zero=>exact h l sM fr
  | succ i=>exact b i (by simpa using c) (by simpa [qB2] using d)
theorem zO7:∀ (n:Nat) (L:Lnk (Tn n)) (a:List Nat),(ψ n L a).1.key=L.key
 | 0,L,a=>by unfold ψ;split<;>rfl
 | n+1,L,a=>by unfold ψ;split<;>rfl
theorem xG2:∀ (n:Nat) (L:Lnk (Tn n)) (a:List Nat),cnt n (ψ n L a).1.sub=cnt n L.sub
 | 0,L,a=>by unfold ψ;split<;>rfl
 | n+1,L,a=>by
  unfold ψ;split
  .rfl
  .exact (zO2 (ψ n) (λ_ _=>True) (η L.sub) a λ_ _ _=>trivial).1.symm
theorem zX2{α:Type}(f:α->Nat):∀ (a b:List α),Both (λx y=>f x=f y) a b->meas f b=meas f a
 | [],[],_=>rfl
 | [],_::_,h=>by have:=h.1;simp at this
 | _::_,[],h=>by have:=h.1;simp at this
 | x::a,y::b,h=>by
  have c:=h.2 0 sM sM;simp only[zF] at c;have e:=zX2 f a b ⟨by simpa using h.1,λi g j=>by have d:=h.2 (i+1) (by simp;exact g) (by simp;exact j);simp only[zE] at d;exact d⟩;rw[qC1,qC1,c,e]
theorem xG3:∀ (n:Nat) (L) (fr) (lo),Good n lo L.sub->Good n lo (ψ n L fr).1.sub
 | 0,L,fr,lo,h=>by unfold ψ;split<;>exact h
 | n+1,L,fr,lo,h=>by
  unfold ψ;split
  .exact h
  .have c:=zO2 (ψ n) (λa b=>b.key=a.key/\cnt n b.sub=cnt n a.sub/\cont n b.sub=cont n a.sub/\(Good n a.key a.sub->Good n a.key b.sub)) (η L.sub) fr λl m fr=>⟨zO7 n l fr,xG2 n l fr,zO4 n l fr,xG3 n l fr l.key⟩;have d:=c.1;refine⟨?_,?_,?_,?_⟩
   .intro l m;have o:(qB2 (ψ n) (η L.sub) fr).1.head?=some l:=m
    cases hx:(qB2 (ψ n) (η L.sub) fr).1 with
    | nil=>rw[hx] at o;cases o
    | cons y ys=>
     rw[hx] at o c d;cases o
     cases hz:η L.sub with
     | nil=>rw[hz] at d;simp at d
     | cons z zs=>
      have t:=c.2 0 (by rw[hz];simp) sM;simp only[zF] at t;rw[t.1];have:=h.head z (by show (η L.sub).head?=some z;rw[hz];rfl);simp only[hz,zF];exact this
   .intro l m;obtain⟨i,f,rfl⟩:=gO m;have g:i<(η L.sub).length:=by rw[d];exact f
    obtain⟨k,p,q,r⟩:=c.2 i g f;have:=h.all _ (gM g);refine⟨?_,?_,?_⟩
    .rw[k];exact r this.1
    .rw[p];exact this.2.1
    .rw[k];exact this.2.2
   .rw[List.pairwise_iff_getElem];intro i j f u A;have g:i<(η L.sub).length:=by rw[d];exact f
    have v:j<(η L.sub).length:=by rw[d];exact u
    obtain⟨k,p,q,r⟩:=c.2 i g f;obtain⟨s,B,C,D⟩:=c.2 j v u;have:=(pG h.pair) i j g v A;refine⟨?_,?_⟩
    .rw[k,s];exact this.1
    .rw[q,s];exact this.2
   .have e:=zX2 qA2 (η L.sub) (qB2 (ψ n) (η L.sub) fr).1 ⟨d,λi w x=>by show 11+_=11+_;rw[(c.2 i w x).1]⟩;show meas qA2 (qB2 (ψ n) (η L.sub) fr).1<=126;rw[e];exact h.fits
theorem zT2{X:Type}(f:X->List Nat->List Nat)(g:X->Nat)(a:∀ t ks,(f t ks).length+1<=ks.length+g t):∀ (ls:List (Lnk X)) (ks),(ls.foldl (qG3 f) ks).length<=ks.length+meas (λm=>g m.sub) ls
 | [],ks=>by simp[meas]
 | m::ls,ks=>by
  have b:=zT2 f g a ls (qG3 f ks m);have c:(qG3 f ks m).length<=ks.length+g m.sub:=by
   unfold qG3;split
   .have:=a m.sub ks;omega
   .rename_i x _;split
    .omega
    .have:=a m.sub (x.1::ks);simp at this;omega
  rw[List.foldl_cons,qC1];omega
theorem zW8:∀ (n:Nat) (t) (ks),(qG0 n t ks).length+1<=ks.length+qB6 n t
 | 0,t,ks=>by simp[qG0,qB6]
 | n+1,t,ks=>by
  have h:=zT2 (qG0 n) (qB6 n) (zW8 n) (η t) ks;have e:qB6 (n+1) t=1+meas (λm:Lnk (Tn n)=>qB6 n m.sub) (η t):=rfl;rw[e];simp only[qG0];omega
theorem zJ7(ks)(r):(qA4 ks r).length<=ks.length+qC9 r:=by
 cases r with
 | none=>simp[qA4,qC9]
 | «at» n L=>
  have h:=zT2 (qG0 n) (qB6 n) (zW8 n) [L] ks;simpa [qA4,qC9,meas] using h
theorem zE2:∀ (a ks:List Nat),a.Nodup->a.length<=(a.filter (λk=>decide (k ∉ ks))).length+ks.length
 | [],ks,_=>by simp
 | x::a,ks,h=>by
  obtain⟨i,c⟩:=List.nodup_cons.1 h;by_cases b:x∈ks
  .have d:=zE2 a (ks.erase x) c;have e:a.filter (λk=>decide (k ∉ ks.erase x))=a.filter (λk=>decide (k ∉ ks)):=List.filter_congr λy hy=>by
    have g:y≠x:=λe=>i (e ▸ hy);simp[List.mem_erase_of_ne g]
   have f:(x::a).filter (λk=>decide (k ∉ ks))=a.filter (λk=>decide (k ∉ ks)):=by rw[List.filter_cons_of_neg (by simp[b])]
   have j:=List.length_erase_of_mem b;have l:1<=ks.length:=List.length_pos_of_mem b;rw[e] at d;rw[f,lC];omega
  .have d:=zE2 a ks c;rw[List.filter_cons_of_pos (by simp[b]),lC,lC];omega
theorem jP4(N:Nat)(ks):N-2<=(qB9 N ks).length+ks.length:=by
 have h:=zE2 (List.range' 2 (N-2)) ks List.nodup_range';simpa [qB9] using h
theorem qW7{r}(h:RGood r):2*qC9 r<=r.cont.length+1:=by
 cases r with
 | none=>simp[qC9]
 | «at» n l=>
  have a:=zA5 n _ _ h.2.1;have b:=h.2.2;show 2*qB6 n l.sub<=(cont n l.sub).length+1;omega
open Go.Maps (Keyed)
def Lie(N:Nat)(l:List UInt8)(rb rs:Int):Root→Prop
 | .none=>rb=0∧rs=0
 | .at n L=>∃ b:Nat,rb=(b:Int)∧L.ref=some (b,rs)∧Laid N l n b rs L.sub
theorem Lie.bnd{N:Nat}{l}{rb rs:Int}{r}(h:Lie N l rb rs r)(c:N<=1000):0<=rb/\rb<=1000/\0<=rs:=by
 cases r with
 | none=>obtain⟨rfl,rfl⟩:=h;decide
 | «at» n L=>obtain⟨b,rfl,_,a⟩:=h;have:=a.at;omega
theorem Lie.sum{N:Nat}{l}{rb rs:Int}{r}(h:Lie N l rb rs r):rs<18446744073709551616:=by
 cases r with
 | none=>obtain⟨rfl,rfl⟩:=h;decide
 | «at» n L=>obtain⟨b,rfl,_,a⟩:=h;have:=a.at;omega
theorem Lie.rr{N:Nat}{l}{rb rs:Int}{r}(h:Lie N l rb rs r)(g:RGood r){V A C:Nat}{wr:Int}{e:N<=1000}{i:N*128<=l.length}{d:C≠A}{f:V≠A}(w):RR (EL V A N C l wr e i d f).toEnv w ⟨⟨#[]⟩,rb,rs,none⟩ r:=by
 cases r with
 | none=>obtain⟨rfl,rfl⟩:=h;rfl
 | «at» n L=>
  obtain⟨b,rfl,a,c⟩:=h;refine⟨g.1.symm,?_⟩;rw[a];exact⟨rfl,rfl,rfl,c⟩
theorem Lie.old{N:Nat}{l}{rb rs:Int}{r}(h:Lie N l rb rs r):qL3 N l r:=by
 cases r with
 | none=>trivial
 | «at» n L=>
  obtain⟨b,rfl,c,d⟩:=h
  cases n with
  | zero=>intro x a;rw[c] at a;cases a;exact d
  | succ n=>exact⟨λx a=>by rw[c] at a;cases a;exact d,λa=>by rw[c] at a;cases a⟩
theorem Lie.move{N:Nat}{l l'}{rb rs:Int}{r}(h:Lie N l rb rs r)(e:∀ k∈qO2 r,qB3 l' k=qB3 l k):Lie N l' rb rs r:=by
 cases r with
 | none=>exact h
 | «at» n L=>
  obtain⟨b,c,a,d⟩:=h;refine⟨b,c,a,d.move _ _ _ _ λk f=>e k ?_⟩;show k∈qI4 n L;rw[qP1 a];exact f
theorem zC9{N:Nat}{l}:∀ (n b:Nat) (s:Int) (t),Laid N l n b s t->∀ k∈Blk n b t,2<=k
 | 0,b,s,t,h,k,a=>by simp[Blk] at a;have:=h.at;omega
 | n+1,b,s,t,h,k,a=>by
  have q:=h.at;obtain⟨g,j,o,r,c,p⟩:=h;simp only[Blk,mC,List.mem_flatMap] at a;rcases a with rfl|⟨m,f,a⟩
  .omega
  .obtain⟨i,d,rfl⟩:=gO f;have e:=(c.2 i (by rw[c.1];exact d) d).2
   cases hx:(η t)[i].ref with
   | none=>rw[hx] at a;cases a
   | some x=>
    rw[hx] at a e;exact zC9 n x.1 x.2 _ e.2.2.2 k a
theorem Lie.ge{N:Nat}{l}{rb rs:Int}{r}(h:Lie N l rb rs r):∀ k∈qO2 r,2<=k:=by
 cases r with
 | none=>intro k a;cases a
 | «at» n L=>
  obtain⟨b,rfl,d,e⟩:=h;intro k a;have c:k∈qI4 n L:=a;rw[qP1 d] at c;exact zC9 n b rs L.sub e k c
theorem Lie.head{N:Nat}{l}{rb rs:Int}{r}(h:Lie N l rb rs r)(b:N*128<=l.length)(c:2<=N)(i:Nat)(d:i<2)(x y z:Int):Lie N (qD0 l i (qB8 x y z)) rb rs r:=
 h.move λk a=>qY1 l _ i k N (qJ1 _ _ _) b oM (by have:=h.ge k a;omega)
theorem xK4{N:Nat}{l c:List UInt8}(b:∀ k,2<=k->qB3 c k=qB3 l k):∀ (n:Nat) (L:Lnk (Tn n)),qJ8 N l n L->qJ8 N c n L
 | 0,L,h=>λx a=>(h x a).move _ _ _ _ λk hm=>b k (zC9 0 x.1 x.2 L.sub (h x a) k hm)
 | n+1,L,h=>⟨λx a=>(h.1 x a).move _ _ _ _ λk hm=>b k (zC9 (n+1) x.1 x.2 L.sub (h.1 x a) k hm),λhn m hm=>xK4 b n m (h.2 hn m hm)⟩
theorem kE1{N:Nat}{l l'}(a:∀ k,2<=k->qB3 l' k=qB3 l k){r}(h:qL3 N l r):qL3 N l' r:=by
 cases r with
 | none=>trivial
 | «at» n L=>exact xK4 a n L h
theorem Lie.one{N:Nat}{l}{rb rs:Int}{r r'}(f:N<=1000)(h:Lie N l rb rs r)(c:Lie N l rb rs r'):r.cont=r'.cont/\qO2 r=qO2 r':=by
 cases r with
 | none=>
  obtain⟨rfl,rfl⟩:=h
  cases r' with
  | none=>exact⟨rfl,rfl⟩
  | «at» n L=>obtain⟨b,p,_,a⟩:=c;have:=a.at;omega
 | «at» n L=>
  obtain⟨b,rfl,j,a⟩:=h
  cases r' with
  | none=>obtain⟨e,_⟩:=c;have:=a.at;omega
  | «at» n' L'=>
   obtain⟨i,q,k,d⟩:=c;have m:b=i:=oM
   subst m;have o:=qZ3 f a d;subst o;have g:=(zN9 f n b rs rs L.sub L'.sub a d).2;refine⟨?_,?_⟩
   .show cont n L.sub=cont n L'.sub;rw[g]
   .show qI4 n L=qI4 n L';rw[qP1 j,qP1 k,g]
def qP7:(n:Nat)→Nat→Tn n→List (Nat × List KV)
 | 0,b,t=>[(b,prs t)]
 | n+1,_,t=>(η t).flatMap (fun m=>match m.ref with | some x=>qP7 n x.1 m.sub | none=>[])
theorem qV8{N:Nat}{l}{n b:Nat}{s:Int}{t}(h:Laid N l (n+1) b s t):∀ m∈η t,∃ x,m.ref=some x/\Laid N l n x.1 x.2 m.sub:=by
 obtain⟨_,_,_,g,c,_⟩:=h;intro m f;obtain⟨i,d,rfl⟩:=gO f;have a:=(c.2 i (by rw[c.1];exact d) d).2
 cases hx:(η t)[i].ref with
 | none=>rw[hx] at a;obtain⟨_,_,q,_,e⟩:=a;exact e.elim
 | some x=>rw[hx] at a;exact⟨x,rfl,a.2.2.2⟩
theorem jO3{α b:Type}{l:List α}{f g:α->List b}(h:∀ a∈l,f a=g a):l.flatMap f=l.flatMap g:=by rw[List.flatMap_def,List.flatMap_def,List.map_congr_left h]
theorem xH0{N:Nat}{l}:∀ (n b:Nat) (s:Int) (t),Laid N l n b s t->(qP7 n b t).flatMap Prod.snd=cont n t
 | 0,b,s,t,h=>by
  show prs t++[]=prs t;rw[aN]
 | n+1,b,s,t,h=>by
  have a:=qV8 h;show ((η t).flatMap _).flatMap Prod.snd=(η t).flatMap λm=>cont n m.sub;rw[List.flatMap_assoc];refine jO3 λm d=>?_;obtain⟨x,e,c⟩:=a m d;rw[e];exact xH0 n x.1 x.2 m.sub c
theorem xG9{N:Nat}{l}:∀ (n b:Nat) (s:Int) (t),Laid N l n b s t->∀ y∈qP7 n b t,y.1<N/\qB3 l y.1=toB (qA5 0 y.2 [])/\(∀ p∈y.2,qC6 p)/\2+meas ρ y.2<=128
 | 0,b,s,t,h,y,a=>by
  obtain⟨k,c,o,d,e,f,q⟩:=h;rw[mS a];exact⟨c,d,e,f⟩
 | n+1,b,s,t,h,y,a=>by
  obtain⟨m,i,a⟩:=mF a;obtain⟨x,j,g⟩:=qV8 h m i;rw[j] at a;exact xG9 n x.1 x.2 m.sub g y a
theorem xH1{N:Nat}{l}:∀ (n b:Nat) (s:Int) (t) (lo),Laid N l n b s t->Good n lo t->1<=cnt n t->∀ y∈qP7 n b t,y.2≠[]
 | 0,b,s,t,lo,h,hg,hc,y,a=>by
  rw[mS a];intro e;have:(prs t).length=0:=by rw[show prs t=[] from e];rfl
  have i:1<=(prs t).length:=hc;omega
 | n+1,b,s,t,lo,h,hg,hc,y,a=>by
  obtain⟨m,c,a⟩:=mF a;obtain⟨x,g,f⟩:=qV8 h m c;rw[g] at a;have d:=hg.all m c;exact xH1 n x.1 x.2 m.sub m.key f d.1 oM y a
theorem xJ8{N:Nat}{l}:∀ (n b:Nat) (s:Int) (t) (lo),Laid N l n b s t->Good n lo t->min n 1<cnt n t->qB6 n t+1<=2*(qP7 n b t).length
 | 0,b,s,t,lo,h,hg,hc=>by simp[qB6,qP7]
 | n+1,b,s,t,lo,h,hg,hc=>by
  have i:=qV8 h;have g:∀ m∈η t,3<=cnt n m.sub/\Good n m.key m.sub:=λm c=>⟨(hg.all m c).2.1,(hg.all m c).1⟩;have p:1<(η t).length:=by
   have d:min (n+1) 1=1:=oM
   rw[d] at hc;exact hc
  have key:∀ ls:List (Lnk (Tn n)),(∀ m∈ls,∃ x,m.ref=some x/\Laid N l n x.1 x.2 m.sub)->(∀ m∈ls,3<=cnt n m.sub/\Good n m.key m.sub)->meas (λm:Lnk (Tn n)=>qB6 n m.sub) ls+ls.length<=2*(ls.flatMap (λm=>match m.ref with | some x=>qP7 n x.1 m.sub | none=>[])).length:=by
   intro ls
   induction ls with
   | nil=>intro _ _;simp[qD6]
   | cons a ls ih=>
    intro d e;have q:=ih (λm c=>d m (by simp[c])) (λm c=>e m (by simp[c]));obtain⟨x,k,j⟩:=d a sM;obtain⟨o,f⟩:=e a sM;have r:=xJ8 n x.1 x.2 a.sub a.key j f oM;rw[qC1,lC,fC,lA,k];simp only;omega
  have d:=key (η t) i g;show 1+meas (λm:Lnk (Tn n)=>qB6 n m.sub) (η t)+1<=2*((η t).flatMap _).length;omega
theorem zL9{a:List Nat}{N:Nat}(h:a.Nodup)(d:∀ x∈a,x<N):a.length<=N:=by
 have b:=zE2 a (List.range N) h;have c:a.filter (λk=>decide (k ∉ List.range N))=[]:=by
  rw[List.filter_eq_nil_iff];intro x e;have:=d x e;simp[List.mem_range,this]
 rw[c,List.length_range] at b;simpa using b
theorem jZ4(b:List (Nat × List KV))(h:∀ y∈b,y.2.length<=63):(b.flatMap Prod.snd).length<=b.length*63:=by
 induction b with
 | nil=>simp
 | cons a b ih=>
  have:=ih (λy c=>h y (by simp[c]));have:=h a sM;rw[fC,lA,lC,Nat.add_mul];omega
theorem qZ8(ps)(h:∀ p∈ps,qC6 p):2*ps.length<=meas ρ ps:=by
 induction ps with
 | nil=>simp
 | cons a ps ih=>
  have:=ih (λp b=>h p (by simp[b]));have c:=(h a sM).1;have d:ρ a=1+a.k.size+a.v.size:=rfl;rw[qC1,lC];omega
theorem qZ9{N:Nat}{l}{rb rs:Int}{r}(h:Lie N l rb rs r)(C:RGood r)(Q:N<=400):qC9 r<=800/\r.cont.length<=25200:=by
 cases r with
 | none=>exact⟨zL _,zL _⟩
 | «at» n L=>
  obtain⟨b,rfl,O,d⟩:=h;obtain⟨_,f,w⟩:=C;have c:=xG9 n b rs L.sub d;have H:=xH1 n b rs L.sub L.key d f oM;have j:=xH0 n b rs L.sub d;have m:=(qK9 n L.key L.sub f).1;rw[<-j] at m;have I:=(List.pairwise_flatMap.1 m).2;have G:((qP7 n b L.sub).map Prod.fst).Nodup:=by
   refine List.pairwise_map.2 (I.imp_of_mem λ{x y} o a J=>?_);intro e;obtain⟨U,s,g,V⟩:=c x o;obtain⟨W,M,i,X⟩:=c y a;rw[e,M] at s;have S:=qZ8 x.2 g;have T:=qZ8 y.2 i;have t:=zB4 (qK3 0 y.2 [] oM oM sO i sM) (qK3 0 x.2 [] oM oM sO g sM) s;obtain⟨_,D,q,q',u⟩:=zA4 t;have v:=zG7 y.2 x.2 _ _ i g (by simpa using D) u;obtain⟨p,k⟩:=List.exists_mem_of_ne_nil _ (H x o);have:=J p k p (by rw[v];exact k);rw[qL5] at this;cases this
  have E:=zL9 G (λz K=>by
   obtain⟨y,a,rfl⟩:=List.mem_map.1 K;exact (c y a).1)
  rw[List.length_map] at E;have R:=xJ8 n b rs L.sub L.key d f w;have F:=jZ4 (qP7 n b L.sub) (λy a=>by have:=qZ8 y.2 (c y a).2.2.1;have:=(c y a).2.2.2;omega);rw[j] at F;have A:qC9 (.at n L)=qB6 n L.sub:=rfl;have B:(Root.at n L).cont=cont n L.sub:=rfl;have P:(qP7 n b L.sub).length*63<=400*63:=Nat.mul_le_mul_right _ oM;rw[A,B];omega
theorem xJ4{n:Nat}{m}{x:Nat × Int}(h:m.ref=some x):news n m=0:=by cases n<;>simp[news,h]
theorem zR0{N:Nat}{l}:∀ (n:Nat) (L),qJ8 N l n L->Hd n L
 | 0,L,h=>trivial
 | n+1,L,h=>by
  refine⟨λe=>?_,λm b=>zR0 n m (zG5 h n rfl m b)⟩;obtain⟨x,f⟩:=Option.isSome_iff_exists.1 e;have d:=qV8 (h.1 x f);have key:∀ ls:List (Lnk (Tn n)),(∀ m∈ls,news n m=0)->meas (news n) ls=0:=λls=>by
   induction ls with
   | nil=>intro _;rfl
   | cons a r ih=>intro c;rw[qC1,c a sM,ih λm b=>c m (by simp[b])]
  refine key _ λm b=>?_;obtain⟨y,g,_⟩:=d m b;exact xJ4 g
def ol:(n:Nat)→Lnk (Tn n)→List (Nat × List KV)
 | 0,l=>match l.ref with | some x=>[(x.1,prs l.sub)] | none=>[]
 | n+1,l=>(η l.sub).flatMap (ol n)
theorem xC0{α d:Type}{f g:α->List d}:∀ (l:List α),(∀ a∈l,(f a).Sublist (g a))->(l.flatMap f).Sublist (l.flatMap g)
 | [],_=>List.Sublist.refl _
 | a::l,h=>by
  rw[fC,fC];exact (h a sM).append (xC0 l λb c=>h b (by simp[c]))
theorem xK3:∀ (n:Nat) (l:Lnk (Tn n)),((ol n l).flatMap Prod.snd).Sublist (cont n l.sub)
 | 0,l=>by
  unfold ol;split
  .show (prs l.sub++[]).Sublist (prs l.sub);rw[aN];exact List.Sublist.refl _
  .exact List.nil_sublist _
 | n+1,l=>by
  show (((η l.sub).flatMap (ol n)).flatMap Prod.snd).Sublist ((η l.sub).flatMap λm=>cont n m.sub);rw[List.flatMap_assoc];exact xC0 _ λm _=>xK3 n m
theorem zQ6{N:Nat}{l}:∀ (n:Nat) (L),qJ8 N l n L->∀ y∈ol n L,y.1<N/\qB3 l y.1=toB (qA5 0 y.2 [])/\(∀ p∈y.2,qC6 p)/\2+meas ρ y.2<=128/\y.1∈qI4 n L
 | 0,L,h,y,a=>by
  unfold ol at a
  cases hx:L.ref with
  | none=>rw[hx] at a;cases a
  | some x=>
   rw[hx] at a;rw[mS a];obtain⟨r,j,s,k,o,q,t⟩:=h x hx;exact⟨j,k,o,q,by rw[qP1 hx];simp[Blk]⟩
 | n+1,L,h,y,a=>by
  obtain⟨m,b,a⟩:=mF a;obtain⟨e,f,g,i,c⟩:=zQ6 n m (zG5 h n rfl m b) y a;refine⟨e,f,g,i,?_⟩
  cases hx:L.ref with
  | none=>simp only[qI4,hx,List.mem_flatMap];exact⟨m,b,c⟩
  | some x=>
   rw[qP1 hx];obtain⟨z,d,_⟩:=qV8 (h.1 x hx) m b;simp only[Blk,mC,List.mem_flatMap];refine .inr ⟨m,b,?_⟩;rw[d];rw[qP1 d] at c;exact c
theorem xK2:∀ (n:Nat) (l) (lo),Good n lo l.sub->1<=cnt n l.sub->∀ y∈ol n l,y.2≠[]
 | 0,l,lo,hg,hc,y,a=>by
  unfold ol at a;split at a
  .rw[mS a];intro e;have b:1<=(prs l.sub).length:=hc;rw[show prs l.sub=[] from e] at b;exact absurd b dC
  .cases a
 | n+1,l,lo,hg,hc,y,a=>by
  obtain⟨m,d,a⟩:=mF a;have c:=hg.all m d;exact xK2 n m m.key c.1 oM y a
theorem xH8:∀ (n:Nat) (l),Hd n l->lf n l.sub<=(ol n l).length+news n l
 | 0,l,_=>by
  unfold ol lf news;cases l.ref<;>simp
 | n+1,l,h=>by
  have f:=h.sum;have key:∀ ls:List (Lnk (Tn n)),(∀ m∈ls,Hd n m)->meas (λm:Lnk (Tn n)=>lf n m.sub) ls<=(ls.flatMap (ol n)).length+meas (news n) ls:=λls=>by
   induction ls with
   | nil=>intro _;simp[meas]
   | cons a r ih=>
    intro b;have d:=ih λm c=>b m (by simp[c]);have e:=xH8 n a (b a sM);rw[qC1,qC1,fC,lA];omega
  have:=key (η l.sub) h.2;show meas (λm:Lnk (Tn n)=>lf n m.sub) (η l.sub)<=((η l.sub).flatMap (ol n)).length+_;omega
theorem kE0{N:Nat}{l}{n:Nat}{L}(s:qJ8 N l n L)(d:Good n L.key L.sub)(m:1<=cnt n L.sub):((ol n L).map Prod.fst).Nodup:=by
 have c:=zQ6 n L s;have r:=xK2 n L L.key d m;have v:=(qK9 n L.key L.sub d).1.sublist (xK3 n L);have t:=(List.pairwise_flatMap.1 v).2;refine List.pairwise_map.2 (t.imp_of_mem λ{x y} g w u=>?_);intro e;obtain⟨C,h,a,D,_⟩:=c x g;obtain⟨E,z,b,F,_⟩:=c y w;rw[e,z] at h;have A:=qZ8 x.2 a;have B:=qZ8 y.2 b;have i:=zB4 (qK3 0 y.2 [] oM oM sO b sM) (qK3 0 x.2 [] oM oM sO a sM) h;obtain⟨_,o,q,q',j⟩:=zA4 i;have k:=zG7 y.2 x.2 _ _ b a (by simpa using o) j;obtain⟨p,f⟩:=List.exists_mem_of_ne_nil _ (r x g);have:=u p f p (by rw[k];exact f);rw[qL5] at this;cases this
theorem xH6{N:Nat}{l:List UInt8}{r:Root}(f:qL3 N l r)(k:RGood r)(c:List Nat)(j:c.Nodup)(h:∀ b∈c,b<N)(t:∀ b∈c,b ∉ qO2 r):r.lf+c.length<=N+r.news:=by
 cases r with
 | none=>
  have:=zL9 j h;show 0+c.length<=N+0;omega
 | «at» n L=>
  have m:=kE0 f k.2.1 (by have:=k.2.2;omega);have i:=zQ6 n L f;have u:=xH8 n L (zR0 n L f);have o:=List.nodup_append.2 ⟨m,j,λa q b s e=>by
   obtain⟨y,g,rfl⟩:=List.mem_map.1 q;exact t b s (by rw[<-e];exact (i y g).2.2.2.2)⟩
  have p:=zL9 o (λx d=>by
   rcases mA d with d|d
   .obtain⟨y,g,rfl⟩:=List.mem_map.1 d;exact (i y g).1
   .exact h x d)
  rw[lA,List.length_map] at p;show lf n L.sub+c.length<=N+news n L;omega
theorem xH7{N:Nat}{l}{r}(b:qL3 N l r)(a:RGood r):r.lf<=N+r.news:=by
 have:=xH6 b a [] List.nodup_nil sM sM;simpa using this
theorem zQ9{N:Nat}{l}{r}(a:qL3 N l r):∀ L,r=.at 6 L->L.ref=none:=λL e=>by
 subst e
 cases hx:L.ref with
 | none=>rfl
 | some x=>have:=(xK5 a hx).at;omega
theorem zQ7{N:Nat}{l}{r}(a:qL3 N l r):r.hd:=by
 cases r with
 | none=>trivial
 | «at» n L=>exact zR0 n L a
def Old:(n:Nat)→Lnk (Tn n)→Prop
 | 0,l=>l.ref.isSome=true
 | n+1,l=>l.ref.isSome=true∧∀ m∈η l.sub,Old n m
theorem Old.some{n:Nat}{l}(h:Old n l):l.ref.isSome=true:=by
 cases n with
 | zero=>exact h
 | succ n=>exact h.1
theorem xF2{N:Nat}{l}:∀ (n b:Nat) (s:Int) (t),Laid N l (n+1) b s t->∀ m∈η t,Old n m
 | n,b,s,t,h,m,hm=>by
  obtain⟨f,g,j,o,c,k⟩:=h;obtain⟨i,d,rfl⟩:=gO hm;have a:=(c.2 i (by rw[c.1];exact d) d).2
  cases hx:(η t)[i].ref with
  | none=>
   rw[hx] at a;obtain⟨_,_,q,_,e⟩:=a;exact e.elim
  | some x=>
   rw[hx] at a
   cases n with
   | zero=>show (η t)[i].ref.isSome=true;rw[hx];rfl
   | succ n=>exact⟨by rw[hx];rfl,xF2 n x.1 x.2 _ a.2.2.2⟩
variable {κ:Nat}
theorem jO9(D A n C:Nat)(g f:Int)(l)(O P:Option (Int × Int × Int))(N rb rs:Int)(w)(hD:w.heap[D]?=some (.cells #[.iface 27 (.pointer (some ⟨A,0,none⟩))] 206))(h:w.heap[A]?=some (qA8 κ n C (.slice none 0 0) g f))
  (h8:8<=n) (bh:n<=400) (hC:w.heap[C]?=some (.cells (enc l) 115)) (W:n*128<=l.length) (F:C≠A) (bd:qL2 l 0 O) (be:qL2 l 1 P) (hz:qN4 (qK2 O P)=qI8 N rb rs) (bt:0<=N) (bu:N<=999999000) (i j:Nat) (hi:(N+1) % 2=(i:Int)) (hj:(N+1+1) % 2=(j:Int)):
  Calls prog 138 #[.pointer (some ⟨D,0,none⟩)] w λe X=>e=.returned (.tuple #[])/\
   (∃ c,X.heap[A]?=some (qA8 κ n C (.slice none 0 0) c (nx (nx f))))/\X.heap[C]?=some (.cells (enc (qD0 (qD0 l i (qB8 (N+1) 0 0)) j (qB8 (N+1+1) 0 0))) 115)/\Kp [A,C] w X:=by
 have br:=ζ hD;have hA:=ζ h;have bq:=ζ hC;have c0:=ξ hD 0;simp at c0;have Z:=hid (show (N+1) % 2=(i:Int)/\(N+1+1) % 2=(j:Int) from⟨hi,hj⟩);have bz:i<2:=oM
 have b0:j<2:=oM
 clear hi hj;go_enter func138,ntmps138;go_wp2_with fail;refine (zR1 A n C (.slice none 0 0) g f _ h h8 bh).mono ?_;rintro e w1 ⟨V,rfl,bx,K,G⟩;have aa:=G.hp h;have Q:=G.hp hC;have S:Kp [A,C] w w1:=G.mono sM;have y:V≠A:=oM
 have L:V≠C:=oM
 clear G;go_wp2_with fail;have M:=hid (zP9 V A n C g f l O P w1 K aa h8 oM Q W F y bd be);rw[hz,qI8] at M;clear bd be hz;refine (show Calls _ _ _ _ _ from M).mono ?_;rintro e w2 ⟨rfl,ab,E⟩;clear M;have a5:=E.heap K (by simp[y]);have ak:=E.heap Q (by simp[F]);have ay:=S.tr E;have bw:=ζ K;have bm:=E.size;have bl:=S.size;clear E S aa Q K c0;go_wp2;obtain⟨H,R⟩:=eX w2.heap.size;rw[<-R];have x:w.heap.size<=H:=oM
 have av:A≠H:=oM
 have aw:C≠H:=oM
 have ax:V≠H:=oM
 obtain⟨k,ba,az,ac,al,a6,z⟩:∃ k,k=w2.alloc (.cells #[.int .u64 N,ϊ rb,.int .u64 rs] 166)/\Kp [A,C] w k/\Ϙ k A (qA8 κ n C (.slice none 0 0) (nx (nx g)) f)/\Ϙ k C (.cells (enc l) 115)/\Ϙ k V (qE4 A n)/\Ϙ k H (.cells #[.int .u64 N,ϊ rb,.int .u64 rs] 166):=
  ⟨_,rfl,ay.alloc _,ν _ ab,ν _ ak,ν _ a5,by rw[R];exact υ _ _⟩
 rw[<-ba];clear ba ay ab ak a5 R bm bl;have p:=zh av;have q:=zh aw;have r:=zh ax;clear av aw ax;have a:=ξ z 0;have b:=ξ z 1;have d:=ξ z 2;simp at a b d;refine wp_loop_rounds 3 ?_;rw[rounds_succ];go_wp2_with fail;refine (zG3 N rb rs 0 0 _ oM oM).mono ?_;rintro e bf ⟨rfl,ai⟩;have s:=Kp.of_below ai lR;have ad:=s.hp ac;have am:=s.hp al;have a7:=s.hp a6;have u:=s.hp z;have a0:=az.tr s;clear ai s ac al a6 z az a b d;have a:=ξ u 0;have b:=ξ u 1;have d:=ξ u 2;simp at a b d;have Y:=φ u;go_wp2_with fail;obtain⟨m,bb,a1,ae,an,T,ar⟩:∃ m,m=((bf.setCell ⟨H,0,none⟩ (.int .u64 (N+1))).setCell ⟨H,1,none⟩ (ϊ 0)).setCell ⟨H,2,none⟩ (.int .u64 0)/\Kp [A,C] w m/\Ϙ m A (qA8 κ n C (.slice none 0 0) (nx (nx g)) f)/\Ϙ m C (.cells (enc l) 115)/\Ϙ m V (qE4 A n)/\Ϙ m H (.cells #[.int .u64 (N+1),ϊ 0,.int .u64 0] 166):=
  ⟨_,rfl,((a0.setCell (Or.inr x) _).setCell (Or.inr x) _).setCell (Or.inr x) _,(qB1 p _ _).trans ((qB1 p _ _).trans ((qB1 p _ _).trans ad)),(qB1 q _ _).trans ((qB1 q _ _).trans ((qB1 q _ _).trans am)),(qB1 r _ _).trans ((qB1 r _ _).trans ((qB1 r _ _).trans a7)),μ (μ (μ u 0 _) 1 _) 2 _⟩
 rw[<-bb];clear bb a0 ad am a7 u a b d Y;refine (zN0 V A n C (nx (nx g)) f i (N+1) 0 0 l _ T ae oM oM an W F y L Z.1 oM oM oM oM).mono ?_;rintro e bo ⟨rfl,af,ao,I⟩;have a8:=I.heap T (by simp[y,L]);have B:=I.ho ar;have a2:=a1.tr I;clear I a1 ae an T ar;have a:=ξ B 0;have b:=ξ B 1;have d:=ξ B 2;simp at a b d;have bn:n*128<=(qD0 l i (qB8 (N+1) 0 0)).length:=qU7 l _ i n (qJ1 _ _ _) W oM;go_wp2_with fail;rw[rounds_succ];go_wp2_with fail;refine (zG3 (N+1) 0 0 0 0 _ oM oM).mono ?_;rintro e bg ⟨rfl,aj⟩;have t:=Kp.of_below aj lR;have ag:=t.hp af;have ap:=t.hp ao;have a9:=t.hp a8;have v:=t.hp B;have a3:=a2.tr t;clear aj t af ao a8 B a2 a b d;have a:=ξ v 0;have b:=ξ v 1;have d:=ξ v 2;simp at a b d;have Y:=φ v;go_wp2_with fail;obtain⟨o,bc,a4,ah,aq,U,au⟩:∃ o,o=((bg.setCell ⟨H,0,none⟩ (.int .u64 ((N+1)+1))).setCell ⟨H,1,none⟩ (ϊ 0)).setCell ⟨H,2,none⟩ (.int .u64 0)/\Kp [A,C] w o/\Ϙ o A (qA8 κ n C (.slice none 0 0) (nx (nx (nx (nx g)))) (nx f))/\Ϙ o C (.cells (enc (qD0 l i (qB8 (N+1) 0 0))) 115)/\Ϙ o V (qE4 A n)/\Ϙ o H (.cells #[.int .u64 ((N+1)+1),ϊ 0,.int .u64 0] 166):=
  ⟨_,rfl,((a3.setCell (Or.inr x) _).setCell (Or.inr x) _).setCell (Or.inr x) _,(qB1 p _ _).trans ((qB1 p _ _).trans ((qB1 p _ _).trans ag)),(qB1 q _ _).trans ((qB1 q _ _).trans ((qB1 q _ _).trans ap)),(qB1 r _ _).trans ((qB1 r _ _).trans ((qB1 r _ _).trans a9)),μ (μ (μ v 0 _) 1 _) 2 _⟩
 rw[<-bc];clear bc a3 ag ap a9 v a b d Y;refine (zN0 V A n C (nx (nx (nx (nx g)))) (nx f) j ((N+1)+1) 0 0 _ _ U ah oM oM aq bn F y L Z.2 oM oM oM oM).mono ?_;rintro e bp ⟨rfl,bi,bj,J⟩;have bv:=J.heap U (by simp[y,L]);have bs:=J.ho au;have bk:=a4.tr J;clear J a4 ah aq U au;go_wp2_with fail;rw[rounds_succ];go_wp2
 go_end0
 exact⟨rfl,⟨_,bi⟩,bj,bk⟩
end Go.Proofs.YtdohpenfkdckiaaGreatDoor
