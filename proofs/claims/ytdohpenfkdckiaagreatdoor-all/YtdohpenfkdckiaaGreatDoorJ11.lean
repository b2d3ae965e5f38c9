import Derived.Test.YtdohpenfkdckiaaGreatDoorJ10
import Derived.Test.YtdohpenfkdckiaaGreatDoorRows
import Derived.ChangeSame
import Derived.ChangeVars
import Derived.JoinedOf
import Derived.RowKit
import Derived.LaidLaws
import Derived.LaidHandle
import Derived.Deep.Slices
import Derived.Stop.Joined
import Derived.Lay
set_option linter.all false
set_option maxRecDepth 100000
set_option maxHeartbeats 0
namespace Go.Proofs.YtdohpenfkdckiaaGreatDoor
open Go.Proofs.Tryz Go.RowKit
def BK(pk:Option Addr)(nk ck:Nat)(pd:Option Addr)(nd cd:Nat):Obj:=.cells #[.slice pk nk ck,.slice pd nd cd] 70
def E0{S}{w w'}{a d:Nat}{e}{v}{n:Nat}{f:Ϩ}(h:w.ownsRow a e d v n f)(hK:Kp S w w')(q:Ed w S e):w'.ownsRow a e d v n f:=by refine⟨h.1,?_⟩;rcases h.2 with k|⟨g,i,j,l,m,b,o⟩;exact .inl k;refine .inr ⟨g,i,j,l,m,hK.heap b λr=>?_,o⟩;let⟨s,u,t,c,p⟩:=q g r;rw[b]at c;cases c;exact p rfl
def Ed.nil(w)(t):Ed w [] t:=λ_ h=>by cases h
def OW{w w'}{b:Nat}{S}(h:w.cell? (ϰ 0 0)=some BW)(hK:Kp S w w')(e:0<b)(f:b<=w.heap.size)(c:∀k,k∈S->b<=k):w'.cell? (ϰ 0 0)=some BW:=
 (hK.cell (a:=(ϰ 0 0)) sO (λd=>by have:=c _ d;simp at this;omega)).trans h
def Zu{a:Type}(R:a->a->Prop):∀l:List a,l.length<=1->l.Pairwise R
 |[],_=>List.Pairwise.nil|[_],_=>List.pairwise_singleton _ _|_::_::_,h=>by simp at h
def J1{w:Ϣ}{b d:Nat}{e:Ϯ}{p:Ϭ}{n c:Nat}{f:Ϩ}(h:w.ownsRow b e d (.slice p n c) n f)(i:1<=n):∃g a,p=some (ϰ g 0)/\b<=g/\w.heap[g]?=some (ϲ a e (0,0))/\a.toList.take (n*d)=f:=by rcases h.2 with⟨h0,h1⟩|⟨g,cap,a,h1,h2,h3,h4,h5,h6,h7⟩;omega;cases h1;exact⟨g,a,rfl,h2,h3,h7⟩
def Zf(c:Nat)(k x y a b:Int)(s t)(w)(f:k<5):Ω 124 #[ϖ c,.agg #[ϊ k,ϊ x,ϊ y,ϊ a,ϊ b,ϕ s,ϕ t]] w λe d=>e=ϱ (ϐ false)/\Kp [] w d:=by go_enter func124,ntmps124;go_wp2;go_ret;exact⟨rfl,kF.alloc _⟩
def Zd(c:Nat)(k x y a b:Int)(s t)(w)(f:9<k):Ω 124 #[ϖ c,.agg #[ϊ k,ϊ x,ϊ y,ϊ a,ϊ b,ϕ s,ϕ t]] w λe d=>e=ϱ (ϐ false)/\Kp [] w d:=by go_enter func124,ntmps124;go_wp2;go_ret;exact⟨rfl,kF.alloc _⟩
def Zm(c:Nat)(k x y a b:Int)(s t)(w)(g:k<1):Ω 78 #[ϖ c,.agg #[ϊ k,ϊ x,ϊ y,ϊ a,ϊ b,ϕ s,ϕ t]] w λe f=>e=ϱ (ϐ false)/\Kp [] w f:=by
 have:¬k=1:=oM
 have:¬k=2:=oM
 have:¬k=3:=oM
 have:¬k=4:=oM
 go_enter func78,ntmps78;go_wp2_with fail;refine mR (Zf c k x y a b s t _ oM) ?_;rintro h d;go_wp2;go_ret;exact⟨rfl,(kF.alloc _).tr d⟩
def Qx(c:Nat)(k x y a b:Int)(s t)(w)(f:9<k):Ω 78 #[ϖ c,.agg #[ϊ k,ϊ x,ϊ y,ϊ a,ϊ b,ϕ s,ϕ t]] w λe g=>e=ϱ (ϐ false)/\Kp [] w g:=by
 have:¬k=1:=oM
 have:¬k=2:=oM
 have:¬k=3:=oM
 have:¬k=4:=oM
 go_enter func78,ntmps78;go_wp2_with fail;refine mR (Zd c k x y a b s t _ f) ?_;rintro h d;go_wp2;go_ret;exact⟨rfl,(kF.alloc _).tr d⟩
def Lq:(prog.info? 3).map (λi=>(i.zero,i.size,i.bytes))=some (some (ϊ 0),1,8):=kR
def Ik:(prog.info? 119).map (λi=>(i.zero,i.size,i.bytes))=some (some (ϗ none),1,8):=kR
def Mo(w)(b g:Nat)(v)(n:Nat)(f:Ϩ)(u)(t e ty)(z)(o:prog.underlying t=some (.slice e))(d:(prog.info? e).map (λi=>(i.zero,i.size,i.bytes))=some (some z,1,8))(q:z.cells.size=1) (h:w.ownsRow b e 1 v n f) (x:n<=1000000) (l:w.heap[g]?=some (ϲ #[u] e)) (p:u.oneCell'=true) (k:b<=w.heap.size):∃c a,Sem.run prog (Builtin.append_ #[t,t] ty #[v,.slice (some (ϰ g 0)) 1 1]) w=.ok c a/\a.ownsRow b e 1 c (n+1) (f++[u])/\w.grownBy a v.ownBlock:=by let⟨i0,d,hz0,hz1,hz2⟩:=bF d;let⟨c,a,m,r,s,y⟩:=dR (P:=prog) w b t ty e i0 _ 1 8 o d hz0 hz1 hz2 q dC v n _ h (ϰ g 0) 1 1 [u] sM (λj v hv=>by rw[Cp,Y l];simpa using hv) (sU p) (by unfold maxLen;omega) oM k;exact⟨c,a,m,r,s⟩
def MY(Z)(n:Nat)(h:Z.size=n)(a:∀v∈Z.toList,v=.int .u8 0):Z=enc (List.replicate n 0):=by apply Array.ext';have e:=List.eq_replicate_iff.2 ⟨sU h,a⟩;rw[e];simp[enc,AT]
def Vl(a:Int):∃m:Nat,m<1000/\(∀w,Ω 122 #[ϊ a] w λe b=>e=ϱ (ϊ m)/\b=w)/\(∀w,Ω 41 #[ϊ a] w λe b=>e=ϱ (ϖ (w.heap.size+1))/\b=(w.alloc (ϲ (enc (List.replicate (m*128) 0)) 115)).alloc (Fc m w.heap.size (.slice none 0 0) 0 0)):=by by_cases f:a<0;refine⟨0,oM,λw=>Ua a w f,λw=>(YI w a f).mono ?_⟩;rintro e b ⟨rfl,Z,c,d,rfl⟩;exact⟨rfl,by rw[MY Z _ c d]⟩;have g:=jI a (show(1000:Int)≠0 by decide);have:=Int.emod_lt_of_pos a (show(0:Int)<1000 by decide);refine⟨(a % 1000).toNat,oM,λw=>(T9 a w f).mono ?_,λw=>(P9 (a % 1000).toNat w oM a oM oM).mono ?_⟩;rintro e b ⟨rfl,rfl⟩;exact⟨by rw[iG g],rfl⟩;rintro e b ⟨rfl,Z,c,d,rfl⟩;exact⟨rfl,by rw[MY Z _ c d]⟩
def BZ{w:Ϣ}{a f:Nat}{e:Ϯ}{v:Value}{n:Nat}{i:Ϩ}(h:w.ownsRow a e f v n i):∀k,k∈v.ownBlock.toList->a<=k/\∃c,w.heap[k]?=some (ϲ c e):=by intro k hk;rcases h.2 with⟨rfl,_⟩|⟨g,j,l,rfl,b,d,m⟩;simp[Value.ownBlock]at hk;simp[Value.ownBlock]at hk;subst hk;exact⟨b,_,d⟩
def OB{P:Program}{a:Act}{w w'}{o:Oper}{s x:Operand}{t}{vs vx v'}(b:o.op=.call { callee:=.builtin .append,args:=#[s,x],argTypes:=#[t,t] })(d:a.eval s=vs)(e:a.eval x=vx)(c:Sem.run P (Builtin.append_ #[t,t] o.type #[vs,vx]) w=.ok v' w'):Sem.run P (execOp a.eval o) w=.ok (.value v') w':=by unfold execOp;simp[b,resolve,invoke,builtin,bO,dA,aZ,dN,bE,cV,d,e,c]
def JR(c:Int)(w)(a:-9223372036854775808<=c)(b:c<=9223372036854775807):Ω 183 #[ϊ c] w λe d=>∃j:Nat,e=ϱ (ϊ j)/\d=w:=by go_enter func183,ntmps183;go_wp2_with fail;refine(Gv c 600 w a b oM oM).mono ?_;rintro e g ⟨j,rfl,f,rfl⟩;go_wp2;go_ret;exact⟨j,rfl,rfl⟩
def OC{P:Program}{a:Act}{w}{o:Oper}{t}{x:Operand}(b:o.op=.box t x)(vs)(d:a.eval x=.agg vs):Sem.run P (execOp a.eval o) w=.ok (.value (ϖ w.heap.size)) (w.alloc (ϲ vs t)):=by (have c:Sem.run P (Instr.box t<|.agg vs) w=.ok (ϖ w.heap.size) (w.alloc<|ϲ vs t):=by simp[Instr.box,newVar,newRow,Value.cells]);unfold execOp;simp[b,bO,dA,aZ,d,c]
namespace Gw
def EA{L}{w w'}{a n c:Nat}{T}{v}{d:Ϩ}(h:w.ownsRow a T c v n d)(hK:Kp L w w')(o:∀i,v.ownBlock=some i->i∉L):w'.ownsRow a T c v n d:=by
 refine⟨h.1,?_⟩;rcases h.2 with j|⟨g,e,f,b,k,l,m⟩
 .exact .inl j
 .exact .inr ⟨g,e,f,b,k,hK.heap l (o g (by rw[b];simp[Value.ownBlock])),m⟩
def BL.kp{w w'}{a:Nat}{k:KF}{c:List Cx}{L}(h:BL w a k c)(hK:Kp L w w')(e:∀i,k.li.ownBlock=some i->i∉L)(f:∀i,k.wa.ownBlock=some i->i∉L)(b:χ w L [42]):BL w' a k c:=
 ⟨EA h.li hK e,EA h.wa hK f,h.two,λx d=>⟨(h.eq x d).1.qK4 hK b,(h.eq x d).2.qK4 hK b⟩⟩
def BL.cast{w}{b:Nat}{k a:KF}{e:List Cx}(h:BL w b k e)(c:a.li=k.li)(d:a.wa=k.wa):BL w b a e:=
 ⟨by rw[c];exact h.li,by rw[d];exact h.wa,by rw[c,d];exact h.two,h.eq⟩
def Ev:List TypeId:=[70,3,119]
def Er:List TypeId:=[130,114,115,117,169,99,80,197,132,29,282,203]
def Bp(b:Nat)(a:List Ϯ)(w:Ϣ)(L:Ϥ):Prop:=∀k∈L,b<=k/\∃o,w.heap[k]?=some o/\∀c t fr,o=ϲ c t fr->t∈a
def Ei(b:Nat)(a:List Ϯ)(w:Ϣ)(L:Ϥ):Prop:=∀k∈L,b<=k/\∃c t fr,w.heap[k]?=some (ϲ c t fr)/\t∈a
def Ei.qM1{b:Nat}{a:List Ϯ}{w}{L}(h:Ei b a w L):Bp b a w L:=λk i=>by
 let⟨d,c,t,l,f,g⟩:=h k i;exact⟨d,_,f,λj n m e=>by cases e;exact g⟩
def Bp.nil(b:Nat)(a:List Ϯ)(w):Bp b a w []:=λ_ h=>by cases h
def Bp.mono{d:Nat}{a b:List Ϯ}{w}{L L'}(h:Bp d a w L)(n:∀t∈a,t∈b)(m:∀i∈L',i∈L):Bp d b w L':=λk hk=>by
 let⟨g,o,j,l⟩:=h k<|m k hk;exact⟨g,o,j,λc t f e=>n t<|l c t f e⟩
def Bp.apt{d:Nat}{a Us:List Ϯ}{w}{L}(h:Bp d a w L)(g:∀t∈Us,t∉a):χ w L Us:=λk hk c t fr e hm=>by
 let⟨i,o,b,f⟩:=h k hk;rw[e]at b;cases b;exact g t hm<|f _ _ _ rfl
def Bp.not{d:Nat}{a:List Ϯ}{w}{L}(h:Bp d a w L){k:Nat}{c}{t}{fr}(f:w.heap[k]?=some (ϲ c t fr))(i:t∉a):k∉L:=λg=>by
 let⟨j,o,b,e⟩:=h k g;rw[f]at b;cases b;exact i<|e _ _ _ rfl
def Bp.lt{b:Nat}{a:List Ϯ}{w}{L}(h:Bp b a w L){k:Nat}(d:k∈L):k<w.heap.size:=by let⟨_,o,c,_⟩:=h k d;exact U c
def Bp.row{i b n f:Nat}{a:List Ϯ}{T}{w w'}{L}{v}{g:Ϩ}(h:Bp i a w L)(hK:Kp L w w')(m:T∉a)(q:w.ownsRow b T f v n g):w'.ownsRow b T f v n g:=
 Cf q hK λk c t r e p j=>by
  let⟨s,o,d,l⟩:=h k p;rw[e]at d;cases d;subst j;exact m<|l _ _ _ rfl
structure Gg(w:Ϣ):Prop where
 e0:w.cell? (ϰ 0 0)=some BW
 gl:Gl w
def Gg.qK4{a:Nat}{b:List Ϯ}{w w'}{L}(h:Gg w)(hK:Kp L w w')(e:0<a)(f:a<=w.heap.size)(c:Bp a b w L)(d:∀t∈Fo,t∉b):Gg w':=
 ⟨OW h.e0 hK e f λk g=>(c k g).1,h.gl.qK4 hK<|c.apt d⟩
def Gg.same{w w'}(h:Gg w)(hK:Kp [] w w')(a:0<w.heap.size):Gg w':=h.qK4 hK a lR (Bp.nil _ [] _) sM
structure BB where
 G:Type
 kf:G->KF
 B:G->Nat
 tbs:G->Ϥ
 tur:G->Ϥ
 ok:Nat->Int->Ϣ->G->Prop
 qW8:∀{a:Nat} {T:Int} {w:Ϣ} {g:G},ok a T w g->w.heap[B g]?=some (Ae (kf g))
 row:∀{a:Nat} {T:Int} {w:Ϣ} {g:G},ok a T w g->DX w 132 (kf g).ts (tbs g)
 qY8:∀{a:Nat} {T:Int} {w:Ϣ} {g:G},ok a T w g->((tbs g).length:Int)<=T
 inB:∀g,B g∈tur g
 qM1:∀{a:Nat} {T:Int} {w:Ϣ} {g:G},ok a T w g->Bp a Er w (tur g)
 qK4:∀{a:Nat} {T d:Int} {w c:Ϣ} {g:G} {L:Ϥ},ok a T w g->Kp L w c->Bp a (Ev++Er) w L->(∀i∈L,i∉tur g)->T<=d->ok a d c g
 fresh:∀(a:Nat)(T:Int)(w:Ϣ)(f:Kd)(b A C m:Nat)(j:Bool)(l:ϣ),a<=b->a<=A->a<=C->26000<=T->m<1000->(j=false->l=List.replicate (m*128) 0)->w.heap[b]?=some (Ae ⟨A,m,.slice none 0 0,false,.slice none 0 0,j,false,none,.slice none 0 0,0,false,.slice none 0 0,.slice none 0 0,.slice none 0 0⟩)->f.told=0->Dn f A m C l [] 0 [] w->∃g,ok a T w g/\B g=b/\∀i∈tur g,i=b\/i=A\/i=C
 copy:∀{a:Nat} {T:Int} {w:Ϣ} {g:G},ok a T w g->∃f C l ws wr q,(kf g).n<1000/\Dn f (kf g).A (kf g).n C l ws wr q w/\
  ∀(d:Int)(c:Ϣ)(k:Kd)(b e h:Nat),T<=d->26000<=d->Kp [] w c->a<=b->a<=e->a<=h->c.heap[b]?=some (Ae ⟨e,(kf g).n,(kf g).may,(kf g).emp,(kf g).qL7,(kf g).qL6,(kf g).bit,none,.slice none 0 0,0,false,.slice none 0 0,.slice none 0 0,.slice none 0 0⟩)->k.told=0->Dn k e (kf g).n h (l.take ((kf g).n*128)) [] 0 [] c->∃g',ok a d c g'/\B g'=b/\∀i∈tur g',i=b\/i=e\/i=h
def C4(I:BB)(ds:List I.G):List Value:=ds.map fun g=>.pointer (some ⟨I.B g,0,none⟩)
def J3{I:BB}{b:ϧ}{a:List I.G}(h:b.toList.take (a.length*1)=C4 I a)(j:Nat)(c:j<a.length):b[j]?=some (ϖ (I.B a[j])):=by
 have e:(C4 I a)[j]?=some (ϖ<|I.B a[j]):=by simp[C4,c]
 rw[<-h,cU oM]at e;simpa using e
structure A1(I:BB)(b:Nat)(T:Int)(w:Ϣ)(c:Nat)(a:List I.G):Prop where
 t0:26000<=T
 hb:0<b
 hbs:b<=w.heap.size
 g0:Gg w
 bW:b<=c
 hW:∃j nk e k f d,w.heap[c]?=some (BK j nk e f a.length d)/\w.ownsRow b 3 1 (.slice j nk e) nk (Du k)/\(nk:Int)<=T/\w.ownsRow b 119 1 (.slice f a.length d) a.length (C4 I a)
 len:(a.length:Int)<=T
 all:∀g,g∈a->I.ok b T w g
 sep:a.Pairwise λg h=>∀i∈I.tur g,i∉I.tur h
def A1.same{I:BB}{c:Nat}{T a:Int}{w w'}{b:Nat}{d:List I.G}(h:A1 I c T w b d)(hK:Kp [] w w')(l:T<=a):A1 I c a w' b d:=by let⟨o,nk,f,p,n,e,i,j,q,k⟩:=h.hW;exact⟨oW h.t0,h.hb,lT h.hbs hK.size,h.g0.qK4 hK h.hb h.hbs (Bp.nil _ [] _) sM,h.bW,⟨o,nk,f,p,n,e,hK.hp i,E0 j hK<|Ed.nil _ _,oM,E0 k hK<|Ed.nil _ _⟩,oW h.len,λg m=>I.qK4 (h.all g m) hK (Bp.nil _ _ _) sM l,h.sep⟩
def Bh(I:BB)(d:Nat)(c:Int)(w b:Ϣ)(g:I.G):Prop:=
 ∃a L,I.ok d c b a/\I.B a=I.B g/\(∀i∈I.tur a,i∈I.tur g\/w.heap.size<=i)/\Kp L w b/\∀i∈L,i∈I.tur g
def Bh.after{I:BB}{b:Nat}{a:Int}{w w1 w'}{g:I.G}(h:Bh I b a w w1 g)(hK:Kp [] w1 w'):Bh I b a w w' g:=by let⟨c,L,d,e,f,i,j⟩:=h;exact⟨c,L,I.qK4 d hK (Bp.nil _ _ _) sM<|iR _,e,f,i.tr hK,j⟩
def Bh.from{I:BB}{a:Nat}{c:Int}{w w1 w'}{g:I.G}(hK:Kp [] w w1)(h:Bh I a c w1 w' g)(m:Bp a Er w (I.tur g)):Bh I a c w w' g:=by let⟨d,L,e,f,j,k,l⟩:=h;exact⟨d,L,e,f,λi b=>(j i b).imp id (λh=>by have:=hK.size;omega),(hK.mono sM).trans k λi b _=>b,l⟩
def Bh.below{I:BB}{a:Nat}{T b:Int}{w w'}{g:I.G}(h:Bh I a b w w' g)(f:I.ok a T w g)(e:a<=w.heap.size):Below a w w':=by let⟨j,L,l,m,n,c,d⟩:=h;exact c.below e λk i=>(I.qM1 f k<|d k i).1
def A1.one{I:BB}{o:Nat}{T v:Int}{w w'}{B:Nat}{d:List I.G}(h:A1 I o T w B d)(j:Nat)(x:j<d.length)(P:Bh I o v w w' d[j])(K:T<=v):∃F,A1 I o v w' B F:=by let⟨g',L,hg,e1,hm,hK,hL⟩:=P;let⟨R,nk,E,S,Q,D,n,p,V,G⟩:=h.hW;have C:=I.qM1<|h.all d[j]<|gM x;have q:=C.mono (λt A=>A) hL;have H:Bp o (Ev++Er) w L:=C.mono (λt A=>aK _ A) hL;(have O:C4 I (d.set j g')=C4 I d:=by simp[C4,fI,e1];exact fJ sM (λi n p=>by rw[bJ];split;rename_i h;subst h;simp;rfl));have y:=pG h.sep;have u:∀i (f:i<d.length),∀k∈I.tur d[i],k<w.heap.size:=λi f k c=>(I.qM1<|h.all _<|gM f).lt c;(have z:∀i (f:i<d.length),j≠i->∀k∈I.tur d[j],k∉I.tur d[i]:=λi f m k c l=>by rcases iV m with u|hgt;exact y j i x f u k c l;exact y i j f x hgt k l c);refine⟨d.set j g',oW h.t0,h.hb,lT h.hbs hK.size,h.g0.qK4 hK h.hb h.hbs q dC,h.bW,⟨R,nk,E,S,Q,D,?_,q.row hK dC p,oM,?_⟩,by have:=h.len;simp;omega,?_,?_⟩;simp[bD];exact hK.heap n<|q.not n dC;rw[O,bD];exact q.row hK dC G;intro g N;obtain⟨i,f,rfl⟩:=gO N;rw[bJ];split;exact hg;rename_i m;simp[bD]at f;exact I.qK4 (h.all d[i]<|gM f) hK H (λk c=>z i f m k<|hL k c) K;rw[fP];intro a b r s M;simp[bD]at r s;rw[bJ,bJ];split;rename_i n;subst n;split;omega;rename_i m;intro k c l;rcases hm k c with c|c;exact z b s m k c l;have:=u b s k l;omega;split;rename_i m p;subst p;intro k c l;rcases hm k l with l|l;exact z a r (λe=>m e) k l c;have:=u a r k c;omega;exact y a b r s M
def A1.qM5{I:BB}{e:Nat}{T T':Int}{w w'}{j:Nat}{b:List I.G}{S}(h:A1 I e T w j b)(hK:Kp S w w')(k:Ei e Ev w S)(y:T<=T')(a:List I.G)(q:∀g,g∈a->I.ok e T' w' g/\∀i∈I.tur g,w.heap.size<=i)(C:a.length<=1) (z:∃s nk m F r l,w'.heap[j]?=some (BK s nk m r (b++a).length l)/\w'.ownsRow e 3 1 (.slice s nk m) nk (Du F)/\(nk:Int)<=T'/\w'.ownsRow e 119 1 (.slice r (b++a).length l) (b++a).length (C4 I (b++a))) (E:((b++a).length:Int)<=T'):A1 I e T' w' j (b++a):=by refine⟨oW h.t0,h.hb,lT h.hbs hK.size,h.g0.qK4 hK h.hb h.hbs k.qM1 dC,h.bW,z,E,?_,?_⟩;intro g d;rcases mA d with d|d;have p:=h.all g d;refine I.qK4 p hK (k.qM1.mono (λt D=>aI _ D) λi f=>f) (λi f hm=>?_) y;let⟨_,c,t,G,n,v⟩:=k i f;let⟨_,K,o,x⟩:=I.qM1 p i hm;rw[n]at o;cases o;have:∀t∈Ev,t∉Er:=dC;exact this t v<|x _ _ _ rfl;exact(q g d).1;rw[dJ];refine⟨h.sep,?_,?_⟩;exact Zu _ _ C;intro g d u A i f B;have H:=(I.qM1<|h.all g d).lt f;have n:=(q u A).2 i B;omega
def DC(x:Int):Prop:=-9223372036854775808<=x/\x<=9223372036854775807
structure E8(o:Dl):Prop where
 x:DC o.x
 y:DC o.y
 a:DC o.a
 b:DC o.b
end Gw
namespace Gw
open Go.ChangeShapes Go.WideShapes Go.RowKit Go.Deep
def N7:prog.cellsOf 66=7:=kR
def Uv:prog.cellsOf 3=1:=kR
def Uw:prog.cellsOf 9=1:=kR
section
variable {H:Type} {enc:Ϯ×Value→H}
def Ks{n:Int}(h:(Lit.int .i64 n).wf=true):-9223372036854775808<=n/\n<=9223372036854775807:=by simp[Lit.wf,IntKind.min,IntKind.max,IntKind.bits,IntKind.signed]at h;omega
def Y4{W}{G:Nat->Bool}{y:Bool}{n:Nat}{a:Ϩ}{x:DataW H×List MemPlace}(h:DataW.trod enc prog W 0 G y n 66 a=some x):∃o:Dl,E8 o/\a=o.cells:=by let⟨xs,k,hk,hxy,hlen,hxl,hf⟩:=DataW.trod_struct underlying66 h;rw[N7]at hlen;match xs,hxl,a,hlen with|[K,y1,y2,y3,y4,y5,y6],_,[v0,v1,v2,v3,v4,v5,v6],_=>have j:=hf 0 _ rfl;have l:=hf 1 _ rfl;have m:=hf 2 _ rfl;have p:=hf 3 _ rfl;have q:=hf 4 _ rfl;have r:=hf 5 _ rfl;have s:=hf 6 _ rfl;simp[Uv,Uw]at j l m p q r s;let⟨z,b,_,I⟩:=iS underlying3 j;let⟨A,c,_,t⟩:=iS underlying3 l;let⟨B,d,_,u⟩:=iS underlying3 m;let⟨C,e,_,v⟩:=iS underlying3 p;let⟨D,f,_,w⟩:=iS underlying3 q;let⟨E,g,_⟩:=DataW.trod_string underlying9 r;let⟨F,i,_⟩:=DataW.trod_string underlying9 s;simp only[cQ,eZ]at b c d e f g i;subst b c d e f g i;exact⟨⟨z,A,B,C,D,E,F⟩,⟨Ks t,Ks u,Ks v,Ks w⟩,rfl⟩
def Y5{W}{fuel:Nat}{c0}{x:DataW H×List MemPlace}(h:DataW.trod enc prog W 0 (λ_=>true) true fuel 22 [c0]=some x):∃p n l f,c0=.slice p n l/\F4 W p n f/\∀i,i<n->E8 (f i):=by rcases open_slice underlying22 h with⟨d,_⟩|⟨a,len,l,m,k,D,Pl,d,_,hl,_,hmm,_,hall⟩;simp[cQ,eZ]at d;exact⟨none,0,0,λ_=>⟨0,0,0,0,0,⟨#[]⟩,⟨#[]⟩⟩,d,λh=>absurd h oM,λi g=>absurd g oM⟩;simp[cQ,eZ]at d;simp[gD]at hmm;rw[N7]at hall;haveI:Inhabited Dl:=⟨⟨0,0,0,0,0,⟨#[]⟩,⟨#[]⟩⟩⟩;let⟨f,r⟩:=choose_lt (n:=len) (p:=λi (o:Dl)=>E8 o/\∀c,c<7->W.cell? ((a.add<|i*7).add c)=o.cells[c]?) (λi g=>by let⟨cs',j,h2⟩:=hall i oM;let⟨_,A,t⟩:=World.cells?_some j;obtain⟨o,w,rfl⟩:=Y4 h2;exact⟨o,w,t⟩);refine⟨some a,len,l,f,d,λu=>?_,λi g=>(r i g).1⟩;let⟨b,s,z⟩:=a;have q:=(r 0 u).2 0 dC;(have y:z=none:=by simpa [Addr.add] using World.cell?_spot (v:=.int .i64 (f 0).k) q);subst y;refine⟨b,s,rfl,?_,λi g c d=>?_⟩;(have j:W.cell? (ϰ b s)=some (ϊ (f 0).k)  :=by have e:(f 0).cells[0]?=some (ϊ (f 0).k):=rfl;rw[e]at q;simpa [Addr.add] using q);unfold World.cell? at j;(cases hb:W.heap[b]? with|none=>simp[hb]at j|some o=>exact U hb);have:=(r i g).2 c d;rw[Cp,Cp]at this;exact this
end
def Pm:laidOutB prog=true:=kR
def Z8:ownKnob prog.godebug=none:=kR
def Z6:prog.globalNamed "errors.errorType"=some 0:=kR
def Z9:(prog.cutTypes.find? (·.1 == "internal/reflectlite.rtype")).map (·.2)=some 220:=kR
def IK:((List.range 413).filter λt=>prog.rowNamed t [101,114,114,111,114])=[38]:=kR
def qA0:prog.types.size=413:=kR
def Ti{W}(h:laidMetH prog Rows.allRow.laid W):W.cell? (ϰ 0 0)=some BW:=by
 have i:laidMet prog (Rows.allRow.laid.filter λx=>x.2.handleName?.isNone) W/\handlesMet prog [("errors.errorType",Rows.laid_errors_errorType)] W:=h;let⟨l,u,k,c,d,e,f,a⟩:=i.2 _<|List.mem_singleton.2 rfl;have g:=(Option.some.inj c).symm;subst g;obtain rfl:=Option.some.inj<|Z9.symm.trans d;have b:k∈(List.range 413).filter λt=>prog.rowNamed t [101,114,114,111,114]:=List.mem_filter.2 ⟨List.mem_range.2 (by rw[<-qA0];exact e),f⟩;rw[IK]at b;obtain rfl:=mS b;have j:typeHandle prog 38=ϗ (some<|ϰ 5 38):=kR
 rw[j]at a;simpa [BW] using World.var?_cell Z6 a 0
def Tm(os:Os)(H:Type)(enc:Ϯ×Value->H):∃(w:Ϣ)(a:Tape)(i:Input),w.os=os/\(w.forCall a i).Shaped prog/\i.vars=[]/\Input.okWide prog (w.forCall a i) .any w.heap.size 10 i/\((Rows.allSpec.pre enc prog f10 [] false (w.forCall a i).memory i.args/\laidMetH prog Rows.allRow.laid (w.forCall a i).memory)/\sizedMet enc prog f10 (OpenSpec.ofChange Rows.allSpec) false (w.forCall a i).memory i.args)/\({}:Assume).holds prog (lone (Frame.enter prog 10 i.args .normal) [] (w.forCall a i)):=
 ChangeSpec.witness_at (enc:=enc) (C:=checked) (os:=os) (X:=λw _=>laidMetH prog Rows.allRow.laid w) false ({ World.laidAll prog os (Rows.allRow.laid.filter λx=>x.2.handleName?.isNone) with heap:=(World.laidAll prog os<|Rows.allRow.laid.filter λx=>x.2.handleName?.isNone).heap.modify 0 λo=>match o with | .cells _ t frozen=>.cells #[BW] t frozen | o=>o }) #[.slice none 0 0] 8 rfl kR kR kR kR kR (laidMetH_of_parts (laidMet_of_run' 8 kR kR) kR)
end Gw
namespace Gw
def Zn(I:BB)(g d:Nat)(T:Int)(i:List I.G)(x y a b:Int)(s t)(w)(h:A1 I g T w d i):Ω 78 #[ϖ d,.agg #[ϊ 2,ϊ x,ϊ y,ϊ a,ϊ b,ϕ s,ϕ t]] w λe l=>e=ϱ (ϐ true)/\(∃ds',A1 I g (T+2) l d ds')/\Below g w l:=by have n:=h;let⟨v,nk,q,z,p,m,c,r,u,o⟩:=h.hW;have:=U c;have:=ψ (ϲ #[ϊ 2,ϊ x,ϊ y,ϊ a,ϊ b,ϕ s,ϕ t] 66) c;have:=ϻ c 0;have:=ω c 0;clear h;go_enter func78,ntmps78;go_wp2;go_ret;have h:=n;have hK:Kp [d] w ((w.setCell (ϰ d 0)<|.slice none 0 0).alloc<|ϲ #[ϊ 2,ϊ x,ϊ y,ϊ a,ϊ b,ϕ s,ϕ t] 66):=(kF.sc _).alloc _;(have j:Ei g Ev w [d]:=λk f=>by rw[mS f];exact⟨h.bW,_,_,_,c,dC⟩);refine⟨rfl,⟨i++[],h.qM5 hK j oM [] sM sM ⟨none,0,0,[],p,m,?_,wN _ _ _ _,by have:=h.len;simp;omega,?_⟩ (by have:=h.len;simp;omega)⟩,hK.below h.hbs λk f=>(j k f).1⟩;rw[aN];exact ψ _<|η c 0 _;rw[aN];exact E0 o hK (λk f=>by rw[mS f];exact⟨_,_,_,c,dC⟩)
def A1.more{I:BB}{f:Nat}{T u:Int}{w w4 w5}{d:Nat}{b:List I.G}(h:A1 I f T w d b){pk}{nk v:Nat}{K:List Int}{pd}{q:Nat}(l:w.heap[d]?=some (BK pk nk v pd b.length q))(y:w.ownsRow f 3 1 (.slice pk nk v) nk (Du K))(B:(nk:Int)<=T)(L:w.ownsRow f 119 1 (.slice pd b.length q) b.length (C4 I b)) (C:Kp [] w w4) (g:I.G) (Q:I.ok f u w4 g) (G:∀i∈I.tur g,w.heap.size<=i) (o) {n m:Nat} (W:w5.ownsRow f 119 1 (.slice (some (ϰ n 0)) (b.length+1) m) (b.length+1) (C4 I b++[ϖ (I.B g)])) (H:(w4.alloc o).grownBy w5 (Value.slice pd b.length q).ownBlock) (hT:T+2<=u):A1 I f u (w5.setCell (ϰ d 1) (.slice (some (ϰ n 0)) (b.length+1) m)) d (b++[g])/\Below f w (w5.setCell (ϰ d 1) (.slice (some (ϰ n 0)) (b.length+1) m)):=by have z:=BZ L;have:=U l;generalize hS:(Value.slice pd b.length q).ownBlock=r at *;(have P:d∉r.toList:=λp=>by let⟨_,c,j⟩:=z _ p;rw[l]at j;cases j);have D:=((C.mono (S':=r.toList) sM).alloc o).grown H λk a=>Or.inl (by simp[a]);have E:=D.heap l P;have hK:Kp (d::r.toList) w (w5.setCell (ϰ d 1)<|ϑ n 0 (b.length+1) m):=(D.mono (S':=d::r.toList) λi A _=>mM _ A).sc _;(have s:Ei f Ev w (d::r.toList):=λk a=>by rcases List.mem_cons.1 a with rfl|a;exact⟨h.bW,_,_,_,l,dC⟩;let⟨F,c,j⟩:=z _ a;exact⟨F,_,_,_,j,dC⟩);have O:Kp (d::r.toList) w4 (w5.setCell (ϰ d 1)<|ϑ n 0 (b.length+1) m):=((kF.alloc o).grown H λk a=>Or.inl (by simp[a])).sc _;(have V:∀k,w.heap.size<=k->k∉d::r.toList:=λk a p=>by let⟨_,_,_,_,j,_⟩:=s k p;have:=U j;omega);have N:∀i∈d::r.toList,i∉I.tur g:=λi A p=>V _ (G i p) A;(have M:Bp f (Ev++Er) w4 (d::r.toList):=λk a=>by let⟨l,c,t,fr,y,B⟩:=s k a;exact⟨l,_,C.hp y,λZ t' aa e=>by cases e;exact aI _ B⟩);have R:=I.qK4 Q O M N<|iR _;have:=h.len;refine⟨h.qM5 hK s oM [g] (λx X=>by rw[mS X];exact⟨R,G⟩) sM ⟨pk,nk,v,K,some<|ϰ n 0,m,?_,E0 y hK λk a=>?_,oM,?_⟩ sO,hK.below h.hbs λk a=>(s k a).1⟩;rw[lA];exact η E 1 _;rcases List.mem_cons.1 a with rfl|a;exact⟨_,_,_,l,dC⟩;let⟨F,c,j⟩:=z _ a;exact⟨_,_,_,j,dC⟩;(have e:C4 I (b++[g])=C4 I b++[ϖ<|I.B g]:=by simp[C4]);rw[e,lA];exact E0 W (S:=[d]) (kF.sc _) (λk a=>by rw[mS a];exact⟨_,_,_,E,dC⟩)
def Zk(I:BB)(q o:Nat)(T:Int)(n:List I.G)(k x y a b:Int)(s t)(w)(h:A1 I q T w o n)(hT:T<=70000)(E:k=3\/k=4):Ω 78 #[ϖ o,.agg #[ϊ k,ϊ x,ϊ y,ϊ a,ϊ b,ϕ s,ϕ t]] w λe W=>e=ϱ (ϐ true)/\(∃ds',A1 I q (T+2) W o ds')/\Below q w W:=by
 have f:=h;let⟨V,nk,F,xs,B,r,u,G,H,C⟩:=h.hW;have av:=U u;let⟨m,A,am,Q⟩:=Vl a;clear h;let⟨j,ao,ad,ak,al,ay⟩:=El w (ϲ #[ϊ k,ϊ x,ϊ y,ϊ a,ϊ b,.string s,.string t] 66) (ϲ #[.pointer none,ϊ m,.slice none 0 0,.bool false,.slice none 0 0,.bool false,.bool false,.pointer none,.slice none 0 0,ϊ 0,.bool false,.slice none 0 0,.slice none 0 0,.slice none 0 0] 130)
 have X:=ξ (show Ω (if k=3 then 41 else 123) (if k=3 then#[ϊ a] else#[ϊ a,.string s]) j λe g=>e=ϱ (ϖ (w.heap.size+3))/\∃l:List UInt8,l.length=m*128/\(k=3->l=List.replicate (m*128) 0)/\g.heap[w.heap.size+2]?=some (ϲ (enc l) 115)/\g.heap[w.heap.size+3]?=some (Fc m (w.heap.size+2) (.slice none 0 0) 0 0)/\Kp [] j g from by
  rw[show w.heap.size+3=j.heap.size+1 by omega,show w.heap.size+2=j.heap.size by omega];rcases E with rfl|rfl
  .refine mR (Q j) ?_;rintro g rfl;refine⟨rfl,_,List.length_replicate,λ_=>rfl,ψ _ (φ _ _),?_,(kF.alloc _).alloc _⟩;have e:=φ (j.alloc (ϲ (enc (List.replicate (m*128) 0)) 115)) (Fc m j.heap.size (.slice none 0 0) 0 0);simpa using e
  .refine mR (Po a m s j (Q j) A) ?_;rintro g ⟨l,c1,_,c2,c3,c4⟩;exact⟨rfl,l,c1,λe=>absurd e dC,c3,c2,c4⟩)
 have:=Y ad;have au:=U ad;clear Q;go_enter func78,ntmps78;rcases E with rfl|rfl
 all_goals
  simp only[if_true,show¬((4:Int)=3) from by decide,if_false]at X
  go_wp2_with (go_at_call 122;refine mR (am _) ?_;rintro W rfl)
  rw[<-ao];refine mR (show Calls _ _ _ _ _ from X) ?_;rintro g ⟨l,hl,an,ac,ab,N⟩;have O:=al.tr N;have v:=N.hp ak;have:=N.size;have HL:=ξ (And.intro hl an);have P:=O.hp u
 focus
  obtain⟨d,R,M,L,K,D,z,aj⟩:∃d,d=g.setCell (ϰ (w.heap.size+1) 0) (ϖ (w.heap.size+3))/\d.heap[w.heap.size+1]?=some (Ae ⟨w.heap.size+3,m,.slice none 0 0,false,.slice none 0 0,false,false,none,.slice none 0 0,0,false,.slice none 0 0,.slice none 0 0,.slice none 0 0⟩)/\d.heap[w.heap.size+2]?=some (ϲ (enc l) 115)/\d.heap[w.heap.size+3]?=some (Fc m (w.heap.size+2) (.slice none 0 0) 0 0)/\Ϙ d o (BK V nk F B n.length r)/\Kp [] w d/\d.heap.size=g.heap.size:=
   ⟨_,rfl,η v 0 _,(Bd oM _ _).trans ac,(Bd oM _ _).trans ab,(Bd oM _ _).trans P,O.setCell (Or.inr sM) _,by simp[World.setCell]⟩
  have Z:=ξ (I.fresh q (T+2) d ⟨m,0,-1,0,0⟩ (w.heap.size+1) (w.heap.size+3) (w.heap.size+2) m _ l (oW f.hbs) (oW f.hbs) (oW f.hbs) (oW f.t0) A (λ_=>HL.2 (by trivial)) M rfl (Dn.new (p:=some (ϰ (w.heap.size+2) 0)) (calls:=0) K (λ_=>rfl) L (f.g0.gl.qK4 z sM) (by rw[HL.out.1];exact lR) oM))
 rotate_left
 focus
  obtain⟨d,R,M,L,K,D,z,aj⟩:∃d,d=(g.setCell (ϰ (w.heap.size+1) 0) (ϖ (w.heap.size+3))).setCell (ϰ (w.heap.size+1) 5) (.bool true)/\d.heap[w.heap.size+1]?=some (Ae ⟨w.heap.size+3,m,.slice none 0 0,false,.slice none 0 0,true,false,none,.slice none 0 0,0,false,.slice none 0 0,.slice none 0 0,.slice none 0 0⟩)/\d.heap[w.heap.size+2]?=some (ϲ (enc l) 115)/\d.heap[w.heap.size+3]?=some (Fc m (w.heap.size+2) (.slice none 0 0) 0 0)/\Ϙ d o (BK V nk F B n.length r)/\Kp [] w d/\d.heap.size=g.heap.size:=
   ⟨_,rfl,η (η v 0 _) 5 _,(Bd oM _ _).trans ((Bd oM _ _).trans ac),(Bd oM _ _).trans ((Bd oM _ _).trans ab),(Bd oM _ _).trans ((Bd oM _ _).trans P),(O.setCell (Or.inr sM) _).setCell (Or.inr sM) _,by simp[World.setCell]⟩
  have Z:=ξ (I.fresh q (T+2) d ⟨m,0,-1,0,0⟩ (w.heap.size+1) (w.heap.size+3) (w.heap.size+2) m _ l (oW f.hbs) (oW f.hbs) (oW f.hbs) (oW f.t0) A (λe=>by cases e) M rfl (Dn.new (p:=some (ϰ (w.heap.size+2) 0)) (calls:=0) K (λ_=>rfl) L (f.g0.gl.qK4 z sM) (by rw[HL.out.1];exact lR) oM))
 all_goals
  have aa:=E0 C z (Ed.nil _ _);have hl:=f.len;have ax:=f.hbs;let⟨v5,w5,ag,ah,af⟩:=Mo (d.alloc (ϲ #[ϖ (w.heap.size+1)] 119)) q d.heap.size (.slice B n.length r) n.length (C4 I n) (ϖ (w.heap.size+1)) 68 119 68 (.pointer none) underlying68 Ik rfl (aa.alloc _) oM (φ _ _) rfl sO;obtain⟨g5,c5,rfl⟩:=D7 ah;have ae:Ϙ w5 o (BK V nk F B n.length r):=by
   refine Kp.heap (S:=(Value.slice B n.length r).ownBlock.toList) (((Kp.refl _ d).alloc _).grown af (λk E=>Or.inl (by simp[E]))) D (λA=>?_);let⟨_,c,hc⟩:=(BZ aa) _ A;rw[D]at hc;cases hc
  have:=Y v;have ap:=ω v;have u1:=ϻ D 1;have v1:=ϻ ae 1;have aq:=ω ae 1;rw[aj,R]at ag;rw[R]at u1;have aw:=U P;have ar:=U v
  go_wp2_with (at_builtin;((with_reducible refine GD ?_ ?_ ag ?_);rfl;rfl))
  go_ret;let⟨u,G,H,C⟩:=(zh (n4 u G H C)).out;let⟨gn,g1,g2,g3⟩:=Z.out;have ai:=(ξ ah).out;rw[<-g2]at ai;let⟨q1,q2⟩:=f.more u G H C z gn g1 (λi hi=>by rcases g3 i hi with h|h|h<;>omega) _ ai (ξ af).out (iR _);exact⟨rfl,⟨_,q1⟩,q2⟩
def A1.qZ3{I:BB}{d:Nat}{T q:Int}{w w4 w5}{b:Nat}{e:List I.G}(h:A1 I d T w b e){pk}{nk m:Nat}{G x:List Int}{pd}{n:Nat}(l:w.heap[b]?=some (BK pk nk m pd e.length n))(y:w.ownsRow d 3 1 (.slice pk nk m) nk (Du G))(H:(nk:Int)<=T)(z:w.ownsRow d 119 1 (.slice pd e.length n) e.length (C4 I e)) (A:Kp [] w w4) (o) {j g:Nat} (F:w5.ownsRow d 3 1 (.slice (some (ϰ j 0)) (nk+1) g) (nk+1) (Du x)) (C:(w4.alloc o).grownBy w5 (Value.slice pk nk m).ownBlock) (L:T+2<=q):A1 I d q (w5.setCell (ϰ b 0) (.slice (some (ϰ j 0)) (nk+1) g)) b (e++[])/\Below d w (w5.setCell (ϰ b 0) (.slice (some (ϰ j 0)) (nk+1) g)):=by have p:=BZ y;have:=U l;generalize K:(Value.slice pk nk m).ownBlock=r at *;(have B:b∉r.toList:=λE=>by let⟨_,c,f⟩:=p _ E;rw[l]at f;cases f);have t:=((A.mono (S':=r.toList) sM).alloc o).grown C λk a=>Or.inl (by simp[a]);have u:=t.heap l B;have hK:Kp (b::r.toList) w (w5.setCell (ϰ b 0)<|ϑ j 0 (nk+1) g):=(t.mono (S':=b::r.toList) λi D _=>mM _ D).sc _;(have s:Ei d Ev w (b::r.toList):=λk a=>by rcases List.mem_cons.1 a with rfl|a;exact⟨h.bW,_,_,_,l,dC⟩;let⟨v,c,f⟩:=p _ a;exact⟨v,_,_,_,f,dC⟩);have:=h.len;refine⟨h.qM5 hK s oM [] sM sM ⟨some<|ϰ j 0,nk+1,g,x,pd,n,?_,?_,oM,?_⟩ sO,hK.below h.hbs λk a=>(s k a).1⟩;rw[aN];exact η u 0 _;exact E0 F (S:=[b]) (kF.sc _) (λk a=>by rw[mS a];exact⟨_,_,_,u,dC⟩);rw[aN];exact E0 z hK (λk a=>by rcases List.mem_cons.1 a with rfl|a;exact⟨_,_,_,l,dC⟩;let⟨v,c,f⟩:=p _ a;exact⟨_,_,_,f,dC⟩)
def Zl(I:BB)(i f:Nat)(T:Int)(r:List I.G)(x y a b:Int)(s t)(w)(h:A1 I i T w f r)(hT:T<=70000):Ω 78 #[ϖ f,.agg #[ϊ 1,ϊ x,ϊ y,ϊ a,ϊ b,ϕ s,ϕ t]] w λe L=>e=ϱ (ϐ true)/\(∃ds',A1 I i (T+2) L f ds')/\Below i w L:=by have B:Hid (∀{p:Prop},(_h:p:=by refine zQ 7 λK hK=>?_;apply BF rfl (FE rfl (ϊ a) _ _ _ underlying24 Lq rfl rfl dC dC);apply hK _ _;(try simp[zZ]);exact HREST)->p):=λh=>h;have W:=h;let⟨q,nk,m,N,H,C,g,j,n,o⟩:=h.hW;have:=U g;have:=h.hbs;have O:=zh<|n4 g j n o;clear h;go_enter func78,ntmps78;go_wp2_with fail;obtain⟨d,D,z,l,v⟩:∃d,d=w.alloc (ϲ #[ϊ 1,ϊ x,ϊ y,ϊ a,ϊ b,ϕ s,ϕ t] 66)/\Ϙ d (ϳ w) (ϲ #[ϊ 1,ϊ x,ϊ y,ϊ a,ϊ b,ϕ s,ϕ t] 66)/\Ϙ d f (BK q nk m H r.length C)/\Kp [] w d:=⟨_,rfl,φ _ _,ψ _ g,kF.alloc _⟩;rw[<-D];clear D;have u:=E0 j v.drew<|Ed.nil _ _;have ab:=v.size;let⟨v5,M,aa,G,F⟩:=Mo (d.drew.alloc<|ϲ #[ϊ a] 3) i d.drew.heap.size (ϒ q nk m) nk (Du N) (ϊ a) 24 3 24 (ϊ 0) underlying24 Lq rfl (u.alloc _) oM (φ _ _) rfl sO;obtain⟨V,Q,rfl⟩:=D7 G;(have A:Ϙ M f (BK q nk m H r.length C):=by have Z:=BZ u;refine Kp.heap (S:=(Value.slice q nk m).ownBlock.toList) (((kE _ d.drew).alloc _).grown F λk hk=>Or.inl (by simp[hk])) l λhm=>?_;let⟨_,c,E⟩:=Z _ hm;rw[show d.drew.heap[f]?=d.heap[f]? from rfl,l]at E;cases E);(have P:Hid (M.ownsRow i 3 1 (ϑ V 0 (nk+1) Q) (nk+1)<|Du<|N++[a]):=by show World.ownsRow _ _ _ _ _ _ _;rwa[Du,cI]);have:=ϻ l 0;have:=ϻ z 3;have:=ϻ A 0;have:=ω A 0;have:=U l;have:=U z;clear G A g j n o u ab l z;apply Hf (α:=Prop) (R:=λX=>X);apply Exists.intro;apply And.intro;rotate_left;(.intro HREST;apply cZ kR;change wpAny _ _ _ _ _ _ _<|World.drew _;apply zn 0;apply zn 1;apply zn 2;apply zn 3;apply zn 5;apply eB (rs:=[4,6]) kR sM;refine AllReady.cons rfl (λK hK=>?_) (AllReady.cons rfl (λK hK=>?_) AllReady.nil);(.skip;go_simp;apply hK _ _;(try simp[zZ]);refine zQ 6 λK hK=>?_;go_simp;apply hK _ _;(try simp[zZ]);exact B);skip;go_simp;apply hK _ _;(try simp[zZ]);apply eB (rs:=[4,7]) kR sM;refine AllReady.cons rfl (λK hK=>?_) (AllReady.cons rfl (λK hK=>?_) AllReady.nil);(.skip;go_simp;apply hK _ _;(try simp[zZ]);exact B);skip;apply BF rfl (FE rfl (ϊ a) _ _ _ underlying24 Lq rfl rfl dC dC);apply hK _ _;(try simp[zZ]);refine zQ 4 λK hK=>?_;go_simp;apply hK _ _;(try simp[zZ]);exact HREST);refine zQ 8 λK hK=>?_;apply BF rfl (OB rfl rfl rfl aa);apply hK _ _;(try simp[zZ]);apply zn 9;apply zn 10;refine zQ 11 λK hK=>?_;go_simp;apply hK _ _;refine eI kR ?_ _;go_wp2;go_ret;let⟨g,j,n,o⟩:=O.out;let⟨q1,q2⟩:=W.qZ3 g j n o v.drew _ P F<|iR _;exact⟨rfl,⟨_,q1⟩,q2⟩
def KO(I:BB):Prop:=∀(b a:Nat)(T:Int)(ds:List I.G)(o:Dl)(w:Ϣ),A1 I b T w a ds->E8 o->26000<=T->T<=60000->
 Ω 40 #[ϖ a,.agg #[ϊ o.k,ϊ o.x,ϊ o.y,ϊ o.a,ϊ o.b,ϕ o.s,ϕ o.t]] w λe c=>e=ϱ (ϐ true)/\(∃ds',A1 I b (T+2) c a ds')/\Below b w c
def qG9(I:BB)(l:KO I)(p)(n v:Nat)(f:Nat->Dl)(w)(G:n<=16384)(d:0<w.heap.size)(D:Gg w)(z:F4 w p n f)(C:∀i,i<n->E8 (f i)):Ω 17 #[.slice p n v] w λe E=>e=ϱ (ϊ (-1))/\Kp [] w E:=by have g:Kp [] w (w.alloc<|BK none 0 0 none 0 0):=kF.alloc _;(have k:Hid (A1 I (ϳ w) 26000 (w.alloc<|BK none 0 0 none 0 0) (ϳ w) []):=by exact⟨iR _,d,sM,D.same g d,lR,⟨none,0,0,[],none,0,φ _ _,wN _ _ _ _,sM,wN _ _ _ _⟩,sM,sM,List.Pairwise.nil⟩);go_enter func17,ntmps17;go_wp2;go_loopw [4] (λi wr=>∃(j:Nat)(b:List I.G),j<=n/\i=.int .i64 j/\A1 I (ϳ w) (26000+2*j) wr (ϳ w) b/\Below (ϳ w) w wr) λi _=>n-(intOf i).toNat;(case atStart=>exact⟨0,[],zL _,rfl,k,zh<|g.below lR sM⟩);case round=>obtain⟨j,b,F,rfl,A,c⟩:=hrel;by_cases a:j<n;(.obtain⟨blk,off,rfl,hblk,hcell⟩:=(z.qK4<|Kp.qL4 c lR) oM;have m:=hcell j a 0 dC;have o:=hcell j a 1 dC;have q:=hcell j a 2 dC;have r:=hcell j a 3 dC;have s:=hcell j a 4 dC;have t:=hcell j a 5 dC;have u:=hcell j a 6 dC;simp[Dl.cells,zH,zI,bG]at m o q r s t u;have:(j:Int)<(n:Int):=oM;clear hcell;go_wp2_with fail;refine mR (l (ϳ w) (ϳ w) (26000+2*j) b (f j) wr A (C j a) oM oM) ?_;rintro H ⟨⟨x,B⟩,y⟩;go_wp2;exact⟨⟨j+1,x,oM,by go_num,by have h:=B;rwa[show((26000+2*j+2:Int))=26000+2*((j+1:Nat):Int) by omega]at h,c.trans y⟩,iO⟩);have:¬(j:Int)<(n:Int):=oM;go_wp2;go_ret;exact⟨rfl,Kp.qL4 c lR⟩
end Gw
def Ar(w:Ϣ)(base:Nat)(v:Value)(n:Nat)(xs:Ϩ):Prop:=(∀u∈xs,∃p a c,u=Value.slice p a c)/\w.ownsRow base 126 1 v n xs
def J7{w:Ϣ}{base n:Nat}{v:Value}{xs:Ϩ}(h:w.ownsRow base 126 1 v n xs):xs.length=n:=by have:=h.1;omega
section
variable {S:Ϥ} {w w':Ϣ} {base n:Nat} {v:Value} {xs:Ϩ}
def Ar.kp(h:Ar w base v n xs)(hK:Kp S w w')(d:∀k c t a,w.heap[k]?=some (ϲ c t a)->k∈S->t≠126):Ar w' base v n xs:=
 ⟨h.1,Cf h.2 hK λk c t a e f b=>d k c t a e f b⟩
def Ar.qK4(h:Ar w base v n xs)(hK:Kp S w w')(d:Ed w S 126):Ar w' base v n xs:=
 h.kp hK λk c t i e f=>by
  let⟨g,u,j,a,b⟩:=d k f;rw[e]at a;cases a;exact b
def Ar.le{a:Nat}(h:Ar w base v n xs)(b:a<=base):Ar w a v n xs:=⟨h.1,D8 h.2 b⟩
def Ar.form(h:Ar w base v n xs):∃p c,v=.slice p n c:=by rcases h.2.2 with⟨h0,h1⟩|⟨g,cap,cur,h1,_⟩;exact⟨none,0,by rw[h0,h1]⟩;exact⟨_,cap,h1⟩
def Ar.qV8(h:Ar w base v (n+1) xs):∃g c,v=.slice (some (ϰ g 0)) (n+1) c:=by let⟨g,cap,h⟩:=D7 h.2;exact⟨g,cap,h⟩
def Ar.alloc(h:Ar w base v n xs)(o):Ar (w.alloc o) base v n xs:=⟨h.1,World.ownsRow.alloc h.2 o⟩
def Ar.below(h:Ar w base v n xs):∀k,v.ownBlock=some k->base<=k:=λk hk=>(World.ownsRow.lt h.2 k hk).1
end
def Qr{xs:Ϩ}(h:∀u∈xs,∃p a c,u=Value.slice p a c):∀u∈xs,u.oneCell'=true:=λu hu=>by
 obtain⟨p,a,c,rfl⟩:=h u hu;rfl
def Mp(w)(base:Nat)(v)(n:Nat)(ty)(xs:Ϩ)(h:Ar w base v n xs)(t:n<=10000000000):∃a w',Sem.run prog (Builtin.append_ #[121,121] ty #[.slice none 0 0,v]) w=.ok a w'/\Ar w' w.heap.size a n xs/\Kp [] w w':=by let⟨i0,hi,hz0,hz1,hz2⟩:=bF JC;let⟨c,h⟩:=h;have:=J7 h;rcases h.2 with⟨e,b⟩|⟨g,d,l,b,m,o,p,q,r,s⟩;subst e;subst b;exact⟨_,_,qA3 w ty,⟨c,h.1,.inl ⟨rfl,rfl⟩⟩,kE _ _⟩;subst b;let⟨a,w',f,i,k,x⟩:=dR (P:=prog) w w.heap.size 121 ty 126 i0 _ 1 24 underlying121 hi hz0 hz1 hz2 rfl dC (.slice none 0 0) 0 [] (World.ownsRow_nil _ _ _ _) (ϰ g 0) n d xs oM (λj u hu=>World.ownsRow.cells h (g:=g) rfl j u hu) (Qr c) (by unfold maxLen;omega) oM (aM _);refine⟨a,w',f,⟨c,sU i⟩,(kE [] w).grown k (by simp[Value.ownBlock])⟩
def QN(w)(base g:Nat)(v)(n:Nat)(ty)(mp)(d c:Nat)(xs:Ϩ)(h:Ar w base v n xs)(o:n<=10000000000)(f:w.heap[g]?=some (ϲ #[.slice mp d c] 126))(e:base<=w.heap.size):∃b w',Sem.run prog (Builtin.append_ #[121,121] ty #[v,.slice (some (ϰ g 0)) 1 1]) w=.ok b w'/\Ar w' base b (n+1) (xs++[.slice mp d c])/\w.grownBy w' v.ownBlock:=by let⟨i0,hi,hz0,hz1,hz2⟩:=bF JC;let⟨k,h⟩:=h;have:=J7 h;let⟨b,w',i,l,m,p⟩:=dR (P:=prog) w base 121 ty 126 i0 _ 1 24 underlying121 hi hz0 hz1 hz2 rfl dC v n _ h (ϰ g 0) 1 1 [.slice mp d c] sM (λj u a=>by rw[Cp,Y f];simpa using a) (by simp[Value.oneCell']) (by unfold maxLen;omega) oM e;refine⟨b,w',i,⟨?_,l⟩,m⟩;intro u a;rcases aH.1 a with a|a;exact k u a;rw[aC.1 a];exact⟨_,_,_,rfl⟩
def MK(base m t k g:Nat)(pm pw)(n:Int)(e s i:Bool)(mp)(f d:Nat)(w){L K:Ϩ}(hm:Ar w base (.slice pm m t) m L)(a:Ar w base (.slice pw k g) k K)(ar:m<=5000000000)(aq:k<=100000):Ω 130 #[.agg #[ϊ n,.slice pm m t,ϐ e,.slice pw k g,ϐ s,ϐ i],.agg #[.slice mp f d]] w λr w'=>∃gm cm' gw cw',r=ϱ (.agg #[ϊ n,.slice (some (ϰ gm 0)) (m+1) cm',ϐ e,.slice (some (ϰ gw 0)) (k+1) cw',ϐ s,ϐ i])/\Ar w' w.heap.size (.slice (some (ϰ gm 0)) (m+1) cm') (m+1) (L++[.slice mp f d])/\Ar w' w.heap.size (.slice (some (ϰ gw 0)) (k+1) cw') (k+1) (K++[.slice mp f d])/\Kp [] w w':=by
 -- the three boxes
 let⟨M,ae,C,N,O,F,au⟩:=En w (ϲ #[ϊ n,ϒ pm m t,ϐ e,ϒ pw k g,ϐ s,ϐ i] 123) (ϲ #[ϒ mp f d] 126)<|ϲ #[ϊ 0,ϒ none 0 0,ϐ false,ϒ none 0 0,ϐ false,ϐ false] 123
 have aj:=hm.qK4 F (by intro k h;simp at h);have ah:=a.qK4 F (by intro k h;simp at h)
 -- the first two appends
 let⟨v1,Z,Q,H,o⟩:=Mp M base (ϒ pm m t) m 121 _ aj oM;obtain⟨p1,c1,rfl⟩:=H.form;have:=o.hp C;have aa:=o.hp N;have ao:=o.hp O;have:=o.size;let⟨v2,w2,ak,T,af⟩:=QN (Z.alloc<|ϲ #[ϒ mp f d] 126) M.heap.size Z.heap.size (ϒ p1 m c1) m 121 mp f d _ (H.alloc _) oM (φ _ _) sO;obtain⟨l,j,rfl⟩:=T.qV8;have p:=(o.alloc _).grown af λk a=>Or.inr<|H.below k a;have u:=p.hp C;have:=ah.qK4 p (by intro k h;simp at h)
 -- the first is kept
 obtain⟨c,W,D,ab,P,G,av⟩:∃c,c=w2.setCell (ϰ w.heap.size 1) (ϑ l 0 (m+1) j)/\Ϙ c w.heap.size (ϲ #[ϊ n,ϑ l 0 (m+1) j,ϐ e,ϒ pw k g,ϐ s,ϐ i] 123)/\c.heap[w.heap.size+1]?=some (ϲ #[ϒ mp f d] 126)/\c.heap[w.heap.size+1+1]?=some (ϲ #[ϊ 0,ϒ none 0 0,ϐ false,ϒ none 0 0,ϐ false,ϐ false] 123)/\Kp [] w c/\c.heap.size=w2.heap.size:=
  ⟨_,rfl,η u 1 _,(Bd oM _ _).trans<|p.hp N,(Bd oM _ _).trans<|p.hp O,(F.tr p).setCell (Or.inr sM) _,by simp[World.setCell]⟩
 have ai:Ar c base (ϒ pw k g) k K:=by
  refine a.qK4 G (by intro k h;simp at h)
 -- the other two
 let⟨v5,w5,R,I,q⟩:=Mp c base (ϒ pw k g) k 121 _ ai oM;obtain⟨p5,c5,rfl⟩:=I.form;have an:=q.hp D;have ac:=q.hp ab;have ap:=q.hp P;have:=q.size;let⟨v6,z,al,V,ag⟩:=QN (w5.alloc<|ϲ #[ϒ mp f d] 126) c.heap.size w5.heap.size (ϒ p5 k c5) k 121 mp f d _ (I.alloc _) oM (φ _ _) sO;obtain⟨B,A,rfl⟩:=V.qV8;have x:=(q.alloc _).grown ag λk a=>Or.inr<|I.below k a;have E:=x.hp D;have y:=x.hp P;have am:Ar z w.heap.size (ϑ l 0 (m+1) j) (m+1) (L++[ϒ mp f d]):=((T.le oM).qK4 (S:=[w.heap.size]) (w':=c) (by rw[W];exact kF.sc _) (λk a=>by rw[mS a];exact⟨_,_,_,u,dC⟩)).qK4 x (by intro k h;simp at h);have x1:=Y C 1;have y0:=Y aa 0;have z1:=Y u 1;have:=ω u 1;have X:=Y D 3;have t0:=Y ac 0;have:=Y E;have:=Y y;have:=ω y;have:=ω E 3;simp[zG,zH,zI]at x1 y0 z1 X t0;rw[W]at R X;rw[ae]at Q x1;go_enter func130,ntmps130
 go_wp2_with (at_builtin;first | ((with_reducible refine GD ?_ ?_ Q ?_);rfl;rfl) | ((with_reducible refine GD ?_ ?_ ak ?_);rfl;rfl) | ((with_reducible refine GD ?_ ?_ R ?_);rfl;rfl) | ((with_reducible refine GD ?_ ?_ al ?_);rfl;rfl))
 have ad:=(Bd (w:=z) (b:=w.heap.size) (k:=w.heap.size+1+1) oM 3<|ϑ B 0 (k+1) A).trans y;refine aG (aL results130 _ _ (w.heap.size+1+1) 123 #[ϊ n,ϑ l 0 (m+1) j,ϐ e,ϑ B 0 (k+1) A,ϐ s,ϐ i] (0,0) _ rfl (η (η (η (η (η (η ad 0 _) 1 _) 2 _) 3 _) 4 _) 5 _) underlying123 rfl kR) rfl ⟨l,j,B,A,rfl,?_,?_,?_⟩
 rotate_right
 .exact (((((((G.tr x).setCell (Or.inr sM) _).setCell (Or.inr sO) _).setCell (Or.inr sO) _).setCell (Or.inr sO) _).setCell (Or.inr sO) _).setCell (Or.inr sO) _).setCell (Or.inr sO) _
 all_goals
  refine(by first | exact am | exact V.le G.size:Ar z w.heap.size _ _ _).qK4 (S:=[w.heap.size,w.heap.size+1+1]) (((((((((kE _ z).sc _).sc _).sc _).sc _).sc _).sc _).sc _)) ?_;intro k a;rcases List.mem_cons.1 a with rfl|a
  .exact⟨_,_,_,E,dC⟩
  .rw[mS a];exact⟨_,_,_,y,dC⟩
def Md(base m p k q:Nat)(pm pw)(n:Int)(e f b:Bool)(mp)(j g:Nat)(w){V A:Ϩ}(L:Ar w base (.slice pm m p) m V)(x:Ar w base (.slice pw k q) k A)(M:m<=5000000000)(I:k<=100000):Ω 129 #[.agg #[ϊ n,.slice pm m p,ϐ e,.slice pw k q,ϐ f,ϐ b],.agg #[.slice mp j g]] w λr w'=>∃t d c,r=ϱ (.agg #[ϊ n,.slice (some (ϰ t 0)) 1 1,ϐ false,.slice (some (ϰ d 0)) (k+1) c,ϐ f,ϐ b])/\w'.ownsRow w.heap.size 126 1 (.slice (some (ϰ t 0)) 1 1) 1 [.slice mp j g]/\Ar w' w.heap.size (.slice (some (ϰ d 0)) (k+1) c) (k+1) (A++[.slice mp j g])/\Kp [] w w':=by obtain⟨B,G,Z,D,F,u,R⟩:=En w (ϲ #[ϊ n,ϒ pm m p,ϐ e,ϒ pw k q,ϐ f,ϐ b] 123) (ϲ #[ϒ mp j g] 126)<|ϲ #[ϊ 0,ϒ none 0 0,ϐ false,ϒ none 0 0,ϐ false,ϐ false] 123;have N:=L.qK4 u (by intro k h;simp at h);have K:=x.qK4 u (by intro k h;simp at h);go_enter func129,ntmps129;go_wp2_with fail;rw[<-G];refine(MK base m p k q pm pw n e f b mp j g B N K M I).mono ?_;rintro r a ⟨t,X,d,c,rfl,_,O,s⟩;have z:=s.hp D;have o:=s.hp F;have:=zh s.size;have W:=Y z 0;have:=Y o;simp[zG,zH,zI]at W;have:=U z;have:=U o;have:=ω o;go_wp2;obtain⟨l,T,E,y,Q⟩:∃l,l=(((((a.setCell (ϰ (w.heap.size+1+1) 0)<|ϊ n).setCell (ϰ (w.heap.size+1+1) 1)<|ϑ (a.heap.size+1) 0 1 1).setCell (ϰ (w.heap.size+1+1) 2)<|ϐ false).setCell (ϰ (w.heap.size+1+1) 3)<|ϑ d 0 (k+1) c).setCell (ϰ (w.heap.size+1+1) 4)<|ϐ f).setCell (ϰ (w.heap.size+1+1) 5) (ϐ b)/\l.heap[w.heap.size+1+1]?=some (ϲ #[ϊ n,ϑ (a.heap.size+1) 0 1 1,ϐ false,ϑ d 0 (k+1) c,ϐ f,ϐ b] 123)/\Kp [w.heap.size+1+1] a l/\l.heap.size=a.heap.size:=⟨_,rfl,η (η (η (η (η (η o 0 _) 1 _) 2 _) 3 _) 4 _) 5 _,((((((kE _ a).sc _).sc _).sc _).sc _).sc _).sc _,by simp[World.setCell]⟩;rw[<-T];have P:=O.qK4 y (λk x=>by rw[mS x];exact⟨_,_,_,o,dC⟩);have C:=(u.tr s).trans y (λi H aa=>by simp at H;omega);refine aG (aL results129 _ _ (w.heap.size+1+1) 123 #[ϊ n,ϑ (a.heap.size+1) 0 1 1,ϐ false,ϑ d 0 (k+1) c,ϐ f,ϐ b] (0,0) _ rfl (ψ _<|ψ _ E) underlying123 rfl kR) rfl ⟨a.heap.size+1,d,c,rfl,?_,((P.alloc _).alloc _).le<|oW R,(C.alloc _).alloc _⟩;refine⟨sM,.inr ⟨a.heap.size+1,1,#[ϒ mp j g],rfl,oM,?_,lR,by unfold maxLen;omega,rfl,rfl⟩⟩;simpa [Q] using(φ (l.alloc<|ϲ #[ϊ n,ϑ (a.heap.size+1) 0 1 1,ϐ false,ϑ d 0 (k+1) c,ϐ f,ϐ b] 123)<|ϲ #[ϒ mp j g] 126)
def Fa(w:Ϣ)(A:Nat)(n:Int):Prop:=∃p a m v c,w.heap[A]?=some (BQ p a m v c n)
def Fa.call{w}{A:Nat}{n:Int}(h:Fa w A n):Ω 35 #[ϖ A] w λe w'=>e=ϱ (ϊ n)/\w'=w:=by
 let⟨_,_,_,_,_,h⟩:=h;exact qJ4 A w h
def Fa.qK4{w w'}{A:Nat}{n:Int}{L}(h:Fa w A n)(hK:Kp L w w')(a:A∉L):Fa w' A n:=by let⟨_,_,_,_,_,h⟩:=h;exact⟨_,_,_,_,_,hK.heap h a⟩
def Dn.wrs{κ}{A N C:Nat}{l}{ws}{wr:Int}{q}{w}(h:Dn κ A N C l ws wr q w):Fa w A wr:=by let⟨p,v,c,h⟩:=h.at;exact⟨_,_,_,_,_,h⟩
def M7(f:TF)(b:Nat)(R:ϯ)(S:Ϥ)(w c:Ϣ):Prop:=∃a,R a/\Kp S w a/\Kp [b] a c/\c.heap[b]?=some (Bc { f with dn:=true })
def Oy(n:Bool)(B z:Nat)(td C:Int)(k:KF)(f:TF)(ps)(a:ϩ)(S)(R:ϯ)(w)(b:F1 w B z td k f ps)(L:BO w S)(P:Fa w k.A C)(H:k.A∉S)(T:(k.po=true/\a=some 7)\/(k.po=false/\f.dn=true/\a=some 5)\/(k.po=false/\f.dn=false/\a=none/\(n=false\/f.wr=false)))(Q:Ω (if n then 31 else 36) #[ϖ f.x] w λe h=>∃v,e=ϱ v/\AD h v a/\R h/\Kp S w h):Ω 135 #[ϖ B,ϖ z,ϐ n] w λe h=>e=ϱ (ϐ true)/\((a≠none/\Nf R S w h)\/(a=none/\M7 f z R S w h)):=by
 have:=U b.hB;have:=U b.hT;have:=b.hA.lt;have l:=ξ b;have r:=ξ L;have aa:=ξ H;have E:=ξ P;have I:=b.hB;have N:=b.hT;have D:=ξ Q;have HD:=ξ T;have t:=ϻ I 0;have t0:=ϻ N 0;clear b L I N Q H T P;cases n<;>(
  simp only[Bool.false_eq_true,if_true,if_false]at D;go_enter func135,ntmps135;go_wp2_with fail;refine l.hA.call.mono ?_;rintro e w0 ⟨rfl,rfl⟩;go_wp2_with fail;refine E.call.mono ?_;rintro e w0 ⟨rfl,rfl⟩;go_wp2_with fail;refine(show Calls _ _ _ _ _ from D).mono ?_;rintro e p ⟨v,rfl,X,M,d⟩;have K:=r.out.stay d l.hB dC;have O:=r.out.stay d l.hT dC;have F:=E.out.qK4 d aa.out;have W:=r.out.g0 d l.g0 oM;have c:=ξ (And.intro M d);clear t t0 M;go_wp2_with fail;obtain⟨A,x⟩:=eY (Dg a);refine(EC v a p W X).mono ?_;rintro e w2 ⟨V,i⟩;rw[x]at V;subst V;have s:=ξ x;clear x;have o:=i.hp K;have g:=i.hp O;have G:=F.qK4 i sM;have:=U g;have:=U o;have t:=Y o 0;have m:=Y o 10;have Z:=Y g 2;have y:=Y g 3;have:=ω g 3;simp only[Ae,Bc,zG,zH,zI]at t m Z y;have ab:=ξ g;have q:=ξ i;clear K O W d i o X F g
  go_wp2_with (go_at_call 127;refine(CP _ _).mono ?_;rintro e w2 ⟨rfl,rfl⟩)
  refine G.call.mono ?_;rintro e w2 ⟨rfl,rfl⟩;clear G;have:wrap64 (C-C)=0:=by rw[Int.sub_self];simp only[wrap64];omega
  rcases HD with⟨j,rfl⟩|⟨j,u,rfl⟩|⟨j,u,rfl,ac⟩
  .obtain rfl:(7:Int)=A:=s.out;rw[j]at m;go_wp2;go_ret;exact⟨sM,.inl ⟨sM,p,c.1,c.2,q⟩⟩
  .obtain rfl:(5:Int)=A:=s.out;rw[j]at m;rw[u]at y;go_wp2;go_ret;exact⟨sM,.inl ⟨sM,p,c.1,c.2,q⟩⟩
  .obtain rfl:(0:Int)=A:=s.out;rw[j]at m;rw[u]at y
   try rw[show f.wr=false by simpa using ac]at Z
   go_wp2;go_ret;exact⟨sM,p,c.1,c.2,(q.mono sM).sc _,η ab 3 _⟩)
def Vx(B b:Nat)(td ac:Int)(k:KF)(f:TF)(tbs)(fs:List (TF×Nat))(ps)(S)(R:ϩ->ϯ)(w)(L:IX w B b td k f ps)(hP:BO w S)(bn:Fa w k.A ac)(cp:k.po=false)(cj:f.dn=false)(ct:f.wr=true)(c9:0<=ac)(da:ac<=1000000000)(c5:0<=k.com)(c6:k.com<=1000000) (bm:DY w k tbs fs) (hn:tbs.length<=100000) (hl:∀x∈fs,x.2<=100000) (cb) (cl cc:Nat) (hc:k.c=.slice cb cl cc) (bp:cl<=100000) (bs:k.n<=100000) (z m F a G:Nat) (pm pw) (bv:k.may=.slice pm m F) (bz:k.qL7=.slice pw a G) {xm W:Ϩ} (hm:Ar w z (.slice pm m F) m xm) (hk:Ar w z (.slice pw a G) a W) (bu:m<=5000000000) (br:a<=100000) (bo:Ω 31 #[ϖ f.x] w λe s=>∃v C af,e=ϱ v/\AD s v C/\R C s/\Kp S w s/\Fa s k.A af/\ac<=af/\af-ac<=12*f.chg+2/\(C=none\/(C=some 3/\FN k cl f.qM0 0 (B7 k.com fs)=false)\/(AR C=true/\DD s k.A td))):Ω 135 #[ϖ B,ϖ b,ϐ true] w λe s=>e=ϱ (ϐ true)/\∃C g,R C g/\Kp S w g/\s.heap[b]?=some (Bc { f with dn:=true })/\((C=some 3/\Kp [b] g s)\/(C=none/\Kp [b,B] g s/\∃o r l,s.heap[B]?=some (Ae { k with may:=.slice (some (ϰ o 0)) 1 1,emp:=false,qL7:=.slice (some (ϰ r 0)) (a+1) l,c:=f.v,com:=k.com+1 })/\s.ownsRow g.heap.size 126 1 (.slice (some (ϰ o 0)) 1 1) 1 [f.v]/\Ar s g.heap.size (.slice (some (ϰ r 0)) (a+1) l) (a+1) (W++[f.v]))\/(AR C=true/\Kp [b,B] g s/\∃o M r l,s.heap[B]?=some (Ae { k with may:=.slice (some (ϰ o 0)) (m+1) M,qL7:=.slice (some (ϰ r 0)) (a+1) l,po:=true })/\Ar s g.heap.size (.slice (some (ϰ o 0)) (m+1) M) (m+1) (xm++[f.v])/\Ar s g.heap.size (.slice (some (ϰ r 0)) (a+1) l) (a+1) (W++[f.v]))):=by have Sz:Hid (∀{p:Prop},(_h:p:=by apply hK _ _;(try simp[zZ]);refine zQ 4 λK hK=>?_;apply BF rfl (DP (t:=123) rfl kR 6 kR B 1 rfl (show d.drew.heap[B]?=_ from Z) (by simp[Ae]) (show _=#[ϊ k.n,ϒ pm m F,ϐ k.emp,ϒ pw a G,ϐ k.qL6,ϐ k.bit] from by (try simp[Ae]);rw[u.out.1,u.out.2.1];rfl));apply hK _ _;(try simp[zZ]);exact HREST)->p):=λh=>h;have cz:=U L.hB;have c3:=U L.hT;have cv:=L.hA.lt;have D:=ξ L;have E:=ξ hP;have b7:=ξ bn;have hB:=L.hB;have hT:=L.hT;have bg:=ξ bo;have ah:=ξ<|show DY w k tbs fs/\tbs.length<=100000/\(∀x∈fs,x.2<=100000)/\k.c=ϒ cb cl cc/\cl<=100000/\k.n<=100000 from⟨bm,hn,hl,hc,bp,bs⟩;have u:=ξ<|show k.may=ϒ pm m F/\k.qL7=ϒ pw a G/\Ar w z (ϒ pm m F) m xm/\Ar w z (ϒ pw a G) a W/\m<=5000000000/\a<=100000 from⟨bv,bz,hm,hk,bu,br⟩;let⟨T,P,bc⟩:=L.sp.form;let⟨Q,bx⟩:=eX ps.length;rw[<-bx]at bc;have HV:=ξ bc;have aa:=ξ<|show B≠b from Aa hB hT dC;have c7:=L.c0;have c8:=L.c1;have b0:=ϻ hB 0;have t0:=ϻ hT 0;clear L hP hB hT bo bn bm hn hl hc bp bs hm hk bv bz bu br bc bx;go_enter func135,ntmps135;go_wp2_with fail;apply D.hA.call.mono;rintro e w0 ⟨rfl,rfl⟩;go_wp2_with fail;apply b7.call.mono;rintro e w0 ⟨rfl,rfl⟩;go_wp2_with fail;apply(show Calls _ _ _ _ _ from bg).mono;rintro e g ⟨v,C,af,rfl,hv,hR,a1,b9,cr,cs,bt⟩;have cd:=E.out.stay a1 D.hB dC;have ch:=E.out.stay a1 D.hT dC;have ck:=E.out.g0 a1 D.g0 oM;have y:=ξ<|n2 hR a1;have b3:=ξ bt;clear b0 t0 hR bt bg;go_wp2_with fail;let⟨tk,bw⟩:=eY<|Dg C;apply(EC v C g ck hv).mono;rintro e w2 ⟨he,ao⟩;rw[bw]at he;subst he;have a5:=ξ bw;have an:=ao.hp cd;have ar:=ao.hp ch;have ca:=b9.qK4 ao sM;have ci:=(E.tfs y.2 ah.1).qK5 ao;have c0:=U ar;have cx:=U an;have b0:=ϻ an 0;have b5:=ϻ an 5;have bj:=ϻ an 10;have t2:=ϻ ar 2;have t3:=ϻ ar 3;have t4:=ϻ ar 4;rw[cp]at bj;rw[cj]at t3;rw[ct]at t2;have bi:=ξ ar;have be:=ξ an;have b2:=ξ ao;have b6:=ξ ci;go_wp2_with (go_at_call 127;apply mR<|CP _ _;rintro w2 rfl);apply ca.call.mono;rintro e w2 ⟨rfl,rfl⟩;(have cu:wrap64 (af-ac)=af-ac:=by simp[wrap64];omega);have cn:¬12*f.chg+2<af-ac:=oM;go_wp2_with fail;apply mR<|PX B b k f tbs fs 0 w2 be bi b6 ah.2.1 ah.2.2.1 cb cl cc ah.2.2.2.1 ah.2.2.2.2.1 D.m0 D.m1 oM oM ah.2.2.2.2.2;rintro w3 a8;have au:=a8.hp bi;have az:=a8.hp be;have c1:=U au;have cy:=U az;have cg:=b2.out.tr a8;clear cu cn cr cs b0 b5 bj t2 t3 t4;have t1:=ϻ au 1;have t3:=ϻ au 3;have f3:=ω au 3;have b8:=Y az;simp[Ae,zG,zH,zI]at b8;have bk:=ω az;rw[HV.out]at t1;have c4:=aa.out;have a4:=ξ au;have bf:=ξ az;have a3:=ξ cg;rcases b3 with rfl|⟨rfl,cq⟩|⟨bq,co⟩;(.obtain rfl:(0:Int)=tk:=a5.out;go_wp2_with fail;obtain⟨d,aw,ba,ae,a9⟩:∃d,d=((w3.setCell (ϰ b 3)<|ϐ true).setCell (ϰ B 8)<|ϒ T Q P).setCell (ϰ B 9) (ϊ<|k.com+1)/\d.heap[b]?=some (Bc { f with dn:=true })/\d.heap[B]?=some (Ae { k with c:=ϒ T Q P,com:=k.com+1 })/\Kp [b,B] g d:=⟨_,rfl,(Bd aa.symm _ _).trans<|(Bd aa.symm _ _).trans<|η a4 3 _,η (η ((Bd aa _ _).trans bf) 8 _) 9 _,(((a3.mono sM).sc _).sc _).sc _⟩;rw[<-aw];clear aw t1 t3 f3 b8 bk;have ag:=ξ ba;have ad:=ξ a9;have a2:=ξ (show Ed g [b,B] 126 from λi hi=>by simp[mC,lN,aD]at hi;rcases hi with rfl|rfl;exact⟨_,_,_,E.stay y.2 D.hT dC,dC⟩;exact⟨_,_,_,E.stay y.2 D.hB dC,dC⟩);have av:∀v n xs,Ar w0 z v n xs->Ar d.drew z v n xs:=λv n xs h=>((h.kp y.2 (λq c t I e A et=>by have:=(E q A).2 _ _ _ e;rw[et]at this;revert this;decide)).qK4 ad a2).qK4 ((kE [] _).drew) (by intro q A;cases A);have ak:=ξ<|show Ar d.drew z (ϒ pm m F) m xm/\Ar d.drew z (ϒ pw a G) a W from⟨av _ _ _ u.2.2.1,av _ _ _ u.2.2.2.1⟩;have Z:=ξ ae;have ce:B<d.drew.heap.size:=U ae;clear ae;apply Hf (α:=Prop) (R:=λX=>X);apply Exists.intro;apply And.intro;rotate_left;intro HREST;apply cZ kR;change wpAny _ _ _ _ _ _ _<|World.drew _;apply zn 0;apply zn 1;apply zn 2;apply zn 3;apply zn 5;apply zn 6;apply zn 7;apply eB (rs:=[4,8]) kR sM;refine AllReady.cons rfl (λK hK=>?_) (AllReady.cons rfl (λK hK=>?_) AllReady.nil);apply BF rfl (DP (t:=123) rfl kR 6 kR B 1 rfl (show d.drew.heap[B]?=_ from Z) (by simp[Ae]) (show _=#[ϊ k.n,ϒ pm m F,ϐ k.emp,ϒ pw a G,ϐ k.qL6,ϐ k.bit] from by (try simp[Ae]);rw[u.out.1,u.out.2.1];rfl));apply hK _ _;(try simp[zZ]);refine zQ 8 λK hK=>?_;apply BF rfl (DP (t:=126) rfl kR 1 kR B 8 rfl (show d.drew.heap[B]?=_ from Z) (by simp[Ae]) (show _=#[ϒ T Q P] from rfl));apply hK _ _;(try simp[zZ]);exact HREST;apply BF rfl (DP (t:=126) rfl kR 1 kR B 8 rfl (show d.drew.heap[B]?=_ from Z) (by simp[Ae]) (show _=#[ϒ T Q P] from rfl));exact Sz;refine zQ 9 λK hK=>?_;go_simp;apply(Md z m F a G pm pw k.n k.emp k.qL6 k.bit T Q P d.drew ak.1 ak.2 u.2.2.2.2.1 u.2.2.2.2.2).mono;rintro e V ⟨o,r,l,rfl,bb,bd,ap⟩;have N:=ap.heap (k:=B) Z sM;have am:=ξ N;have aj:=ξ ap;have al:=ξ<|n2 bb bd;have cf:=U N;apply hK _ _;(try simp[zZ]);apply zn 10;apply zn 11;have b1:=Y N;simp[Ae,zG,zH,zI]at b1;have a6:=ω N;refine zQ 12 λK hK=>?_;go_simp;apply hK _ _;refine eI kR ?_ _;obtain⟨j,ax,a0,H⟩:∃j,j=(((((V.setCell (ϰ B 1)<|ϊ k.n).setCell (ϰ B 2)<|ϑ o 0 1 1).setCell (ϰ B 3)<|ϐ false).setCell (ϰ B 4)<|ϑ r 0 (a+1) l).setCell (ϰ B 5)<|ϐ k.qL6).setCell (ϰ B 6) (ϐ k.bit)/\j.heap[B]?=some (Ae { k with may:=ϑ o 0 1 1,emp:=false,qL7:=ϑ r 0 (a+1) l,c:=ϒ T Q P,com:=k.com+1 })/\Kp [B] V j:=⟨_,rfl,η (η (η (η (η (η am 1 _) 2 _) 3 _) 4 _) 5 _) 6 _,(((((((kE [B] V).sc _).sc _).sc _).sc _).sc _).sc _)⟩;rw[<-ax];have ab:=ξ (show j.heap[B]?=some (Ae { k with may:=ϑ o 0 1 1,emp:=false,qL7:=ϑ r 0 (a+1) l,c:=f.v,com:=k.com+1 })/\Kp [b,B] g j/\j.heap[b]?=some (Bc { f with dn:=true }) from⟨by rwa[HV.out],((ad.drew).tr aj).tr H,H.heap (aj.heap (k:=b) ag sM)<|sU aa.symm⟩);have ay:=ξ (show j.ownsRow (ϳ g) 126 1 (ϑ o 0 1 1) 1 [f.v]/\Ar j (ϳ g) (ϑ r 0 (a+1) l) (a+1) (W++[f.v]) from by (have O:∀q c t I,V.heap[q]?=some (ϲ c t I)->q∈[B]->t≠126:=λq c t I e A et=>by rw[mS A,am.out]at e;cases e;revert et;decide);have ai:ϳ g<=d.drew.heap.size:=ad.out.size;rw[HV.out];exact⟨Cf (D8 al.1 ai) H O,(al.2.le ai).kp H O⟩);clear ax a0 H b1 a6;go_wp2;go_ret;exact⟨rfl,none,g,y.1,y.2,ab.2.2,.inr<|.inl ⟨rfl,ab.2.1,o,r,l,ab.1,ay⟩⟩);(.rw[cq];obtain rfl:(3:Int)=tk:=a5.out;go_wp2;go_ret;exact⟨sM,some 3,g,y.1,y.2,η a4 3<|ϐ true,.inl ⟨rfl,(a3.mono sM).sc _⟩⟩);obtain rfl:(8:Int)=tk:=(Dx bq).1.symm.trans a5;have bh:=ξ<|n2 bq co;go_wp2_with fail;obtain⟨d,aw,ba,ae,a9⟩:∃d,d=w3.setCell (ϰ b 3) (ϐ true)/\d.heap[b]?=some (Bc { f with dn:=true })/\d.heap[B]?=some (Ae k)/\Kp [b] g d:=⟨_,rfl,η a4 3 _,(Bd aa _ _).trans bf,(a3.mono sM).sc _⟩;rw[<-aw];clear aw t1 t3 f3 b8 bk;have ag:=ξ ba;have ad:=ξ a9;have a2:=ξ (show Ed g [b] 126 from λi hi=>by rw[mS hi];exact⟨_,_,_,E.stay y.2 D.hT dC,dC⟩);have av:∀v n xs,Ar w0 z v n xs->Ar d.drew z v n xs:=λv n xs h=>((h.kp y.2 (λq c t I e A et=>by have:=(E q A).2 _ _ _ e;rw[et]at this;revert this;decide)).qK4 ad a2).qK4 ((kE [] _).drew) (by intro q A;cases A);have ak:=ξ<|show Ar d.drew z (ϒ pm m F) m xm/\Ar d.drew z (ϒ pw a G) a W from⟨av _ _ _ u.2.2.1,av _ _ _ u.2.2.2.1⟩;have Z:=ξ ae;have ce:B<d.drew.heap.size:=U ae;have c2:b<d.drew.heap.size:=U ag;clear ae;apply Hf (α:=Prop) (R:=λX=>X);apply Exists.intro;apply And.intro;rotate_left;intro HREST;apply cZ kR;change wpAny _ _ _ _ _ _ _<|World.drew _;apply zn 0;apply zn 1;apply zn 2;apply zn 3;apply zn 5;apply zn 6;apply zn 7;apply zn 8;apply eB (rs:=[4,9]) kR sM;refine AllReady.cons rfl (λK hK=>?_) (AllReady.cons rfl (λK hK=>?_) AllReady.nil);apply BF rfl (DP (t:=123) rfl kR 6 kR B 1 rfl (show d.drew.heap[B]?=_ from Z) (by simp[Ae]) (show _=#[ϊ k.n,ϒ pm m F,ϐ k.emp,ϒ pw a G,ϐ k.qL6,ϐ k.bit] from by (try simp[Ae]);rw[u.out.1,u.out.2.1];rfl));apply hK _ _;(try simp[zZ]);refine zQ 9 λK hK=>?_;apply BF rfl (DP (t:=126) rfl kR 1 kR b 1 rfl (show d.drew.heap[b]?=_ from ag) (by simp[Bc]) (show _=#[ϒ T Q P] from by (try simp[Bc]);rw[HV.out];rfl));apply hK _ _;(try simp[zZ]);exact HREST;apply BF rfl (DP (t:=126) rfl kR 1 kR b 1 rfl (show d.drew.heap[b]?=_ from ag) (by simp[Bc]) (show _=#[ϒ T Q P] from by (try simp[Bc]);rw[HV.out];rfl));exact Sz;refine zQ 10 λK hK=>?_;go_simp;apply(MK z m F a G pm pw k.n k.emp k.qL6 k.bit T Q P d.drew ak.1 ak.2 u.2.2.2.2.1 u.2.2.2.2.2).mono;rintro e V ⟨o,M,r,l,rfl,bb,bd,ap⟩;have N:=ap.heap (k:=B) Z sM;have am:=ξ N;have aj:=ξ ap;have al:=ξ<|n2 bb bd;have cf:=U N;apply hK _ _;(try simp[zZ]);apply zn 11;apply zn 12;have b1:=Y N;simp[Ae,zG,zH,zI]at b1;have a6:=ω N;refine zQ 13 λK hK=>?_;go_simp;apply hK _ _;refine eI kR ?_ _;obtain⟨j,ax,a0,H⟩:∃j,j=(((((V.setCell (ϰ B 1)<|ϊ k.n).setCell (ϰ B 2)<|ϑ o 0 (m+1) M).setCell (ϰ B 3)<|ϐ k.emp).setCell (ϰ B 4)<|ϑ r 0 (a+1) l).setCell (ϰ B 5)<|ϐ k.qL6).setCell (ϰ B 6) (ϐ k.bit)/\j.heap[B]?=some (Ae { k with may:=ϑ o 0 (m+1) M,qL7:=ϑ r 0 (a+1) l })/\Kp [B] V j:=⟨_,rfl,η (η (η (η (η (η am 1 _) 2 _) 3 _) 4 _) 5 _) 6 _,(((((((kE [B] V).sc _).sc _).sc _).sc _).sc _).sc _)⟩;rw[<-ax];have a7:=(((ad.mono (S':=[b,B]) sM).drew).tr aj).tr H;(have O:∀q c t I,V.heap[q]?=some (ϲ c t I)->q∈[B]->t≠126:=λq c t I e A et=>by rw[mS A,am.out]at e;cases e;revert et;decide);have ai:ϳ g<=d.drew.heap.size:=ad.out.size;have ay:=ξ (show Ar j (ϳ g) (ϑ o 0 (m+1) M) (m+1) (xm++[f.v])/\Ar j (ϳ g) (ϑ r 0 (a+1) l) (a+1) (W++[f.v]) from by rw[HV.out];exact⟨(al.1.le ai).kp H O,(al.2.le ai).kp H O⟩);have ab:=ξ (show j.heap[B]?=_/\Kp [b,B] g j/\j.heap[b]?=some (Bc { f with dn:=true }) from⟨a0,a7,H.heap (aj.heap (k:=b) ag sM)<|sU aa.symm⟩);have b4:=ξ (show DD j k.A td from by let⟨t',ht,hd⟩:=bh.out.2;have h1:=hd.ne<|E.stay y.2 D.hB dC;(have h2:b≠k.A:=by let⟨_,_,_,_,_,_,hd,_⟩:=hd;exact Aa (E.stay y.2 D.hT dC) hd dC);exact⟨t',ht,hd.qK4 a7 (by simpa using⟨h2.symm,h1.symm⟩)⟩);clear ax a0 H b1 a6 a7 O ai;go_wp2_with fail;apply mR (GM B { k with may:=ϑ o 0 (m+1) M,qL7:=ϑ r 0 (a+1) l } td j ab.1 b4);rintro w8 ⟨bl,aq⟩;have HE:=ξ (show w8.heap[B]?=_/\Kp [b,B] g w8/\w8.heap[b]?=some (Bc { f with dn:=true })/\Ar w8 (ϳ g) (ϑ o 0 (m+1) M) (m+1) (xm++[f.v])/\Ar w8 (ϳ g) (ϑ r 0 (a+1) l) (a+1) (W++[f.v]) from by (have O:∀q c t I,j.heap[q]?=some (ϲ c t I)->q∈[B]->t≠126:=λq c t I e A et=>by rw[mS A,ab.out.1]at e;cases e;revert et;decide);exact⟨bl,ab.2.1.trans aq (by simp +contextual),aq.heap ab.2.2<|sU aa.symm,ay.1.kp aq O,ay.2.kp aq O⟩);clear bl aq;go_wp2;go_ret;exact⟨rfl,_,g,y.1,y.2,HE.2.2.1,.inr<|.inr ⟨bh.1,HE.2.1,o,M,r,l,HE.1,HE.2.2.2.1,HE.2.2.2.2⟩⟩
def Au.cmt(s:Au)(qb qs bl:Int):Au:={ s with N:=τ (τ s.N),rb:=qb,rs:=qs,bl:=bl }
def AP:Ah→List Nat→HL×List (Nat×List UInt8)
 | .none,_=>(⟨⟨#[]⟩,0,0,none⟩,[])
 | .at n L,fr=>(AU (Ac n L fr).1,(Ac n L fr).2.1)
def G4(s:Au):HL:=⟨⟨#[]⟩,s.rb,s.rs,none⟩
def GG:Ah→Prop
 | .none=>True
 | .at n L=>Ej n L
def Py{N:Nat}{rt}{a}(g:GG rt)(f:rt.news<=a.length)(e:∀b∈a,b<N):∀x∈(AP rt a).2,x.1<N/\x.2.length=128:=by
 cases rt with
 | none=>intro x c;simp[AP]at c
 | «at» n L=>
  intro x c;refine⟨e x.1 ?_,LH n L a g x c⟩;have d:x.1∈((Ac n L a).2.1).map Prod.fst:=List.mem_map_of_mem c;rw[Ip n L a f]at d;exact mT d
def PZ{a:Type}(f:a->Nat)(c:Nat):∀(l:List a),(∀x∈l,c<=f x)->c*l.length<=qK3 f l
 |[],_=>by simp[qK3]|x::l,h=>by have:=h x sM;have:=PZ f c l λy b=>h y (by simp[b]);rw[AV,lC,Nat.mul_succ];omega
def V5{a b:Type}(f:a->List b)(l:List a):(l.flatMap f).length=qK3 (λx=>(f x).length) l:=by simp[qK3,List.length_flatMap]
def O0:∀(n:Nat)(lo)(t),Ay n lo t->cnt n t*3 ^ n<=(cont n t).length
 |0,lo,t,h=>by simp[cnt,cont]|n+1,lo,t,h=>by (have a:∀x∈J t,3 ^ (n+1)<=(cont n x.sub).length:=λx hx=>by have:=O0 n x.key x.sub (h.all x hx).1;have:3*3 ^ n<=cnt n x.sub*3 ^ n:=bI _<|(h.all x hx).2.1;rw[Nat.pow_succ];omega);have b:(cont (n+1) t).length=qK3 (λx:θ (Tn n)=>(cont n x.sub).length) (J t):=V5 (λx:θ (Tn n)=>cont n x.sub)<|J t;have c:cnt (n+1) t=(J t).length:=rfl;rw[b,c,Nat.mul_comm];exact PZ (λx:θ (Tn n)=>(cont n x.sub).length) (3 ^ (n+1)) (J t) a
def O1:∀(n:Nat) (L:θ (Tn n)),Ay n L.key L.sub->L.key.size<=8->n<256->Ej n L
 |0,L,h,hk,hn=>⟨hk,λ_=>by have:qK3 μ (ζ L.sub)<=126:=h.fits;(have:=Df μ (ζ L.sub) λx _=>by unfold μ;omega);exact⟨λp b=>(h.all p b).1,oM,oM⟩⟩|n+1,L,h,hk,hn=>⟨hk,λ_=>by have:qK3 Af (J L.sub)<=126:=h.fits;(have:=Df Af (J L.sub) λx _=>by unfold Af;omega);exact⟨hn,λm a=>O1 n m (h.all m a).1 (h.all m a).2.2 oM,oM,oM⟩⟩
def QF{N:Nat}{l}{w}:∀(n:Nat)(h)(L),RL (Av N l) n w h L->C9 N l n L
 |0,h,L,hr=>λx c=>by have a:=hr.2;rw[c]at a;exact a.2.2.2|n+1,h,L,hr=>by refine⟨λx c=>?_,λhn m hm=>?_⟩;have a:=hr.2;rw[c]at a;exact a.2.2.2;have a:=hr.2;rw[hn]at a;let⟨_,_,q,_,f,_,e,_,b⟩:=a;obtain⟨i,d,rfl⟩:=gO hm;exact QF n (e[i]'(by rwa[b.1])) _<|b.2 i (by rwa[b.1]) d
def IL{N:Nat}{l}{E}{w}{h}{r}(b:RR E w h r)(a:E.O=Av N l:=by rfl):Da N l r:=by cases r with|none=>trivial|«at» n L=>exact QF n h L (by have h:RL E.O n w h L:=b;rwa[a]at h)
def LF{X:Type}(f:θ X->Ϥ->θ X×ϥ×Ϥ)(R:θ X->θ X->Prop):∀(a:List (θ X)) (fr),(∀l∈a,∀fr,R l (f l fr).1)->AF R a (AA f a fr).1
 |[],fr,_=>⟨rfl,λi h=>by simp at h⟩|l::a,fr,h=>by let⟨h1,h2⟩:=LF f R a (f l fr).2.2 λx hx=>h x (by simp[hx]);refine⟨by simp[AA,h1],λi b c=>?_⟩;cases i with|zero=>exact h l sM fr|succ i=>exact h2 i (sU b) (by simpa [AA] using c)
def LI:∀(n:Nat) (L:θ (Tn n)) (a:Ϥ),(Ac n L a).1.key=L.key
 |0,L,a=>by unfold Ac;split<;>rfl|n+1,L,a=>by unfold Ac;split<;>rfl
def PA:∀(n:Nat) (L:θ (Tn n)) (a:Ϥ),cnt n (Ac n L a).1.sub=cnt n L.sub
 |0,L,a=>by unfold Ac;split<;>rfl|n+1,L,a=>by unfold Ac;split;rfl;exact(LF (Ac n) (λ_ _=>True) (J L.sub) a λ_ _ _=>trivial).1.symm
def NU{e:Type}(f:e->Nat):∀(a b:List e),AF (λx y=>f x=f y) a b->qK3 f b=qK3 f a
 |[],[],_=>rfl|[],_::_,h=>by have:=h.1;simp at this|_::_,[],h=>by have:=h.1;simp at this|x::a,y::b,h=>by have c:=h.2 0 sM sM;simp[zF]at c;have g:=NU f a b ⟨sU h.1,λi j k=>by have d:=h.2 (i+1) (by simp;exact j) (by simp;exact k);simp[zE]at d;exact d⟩;rw[AV,AV,c,g]
def PB:∀(n:Nat)(L)(fr)(lo),Ay n lo L.sub->Ay n lo (Ac n L fr).1.sub
 |0,L,fr,lo,h=>by unfold Ac;split<;>exact h|n+1,L,fr,lo,h=>by unfold Ac;split;exact h;have c:=LF (Ac n) (λa b=>b.key=a.key/\cnt n b.sub=cnt n a.sub/\cont n b.sub=cont n a.sub/\(Ay n a.key a.sub->Ay n a.key b.sub)) (J L.sub) fr λl k fr=>⟨LI n l fr,PA n l fr,LG n l fr,PB n l fr l.key⟩;have d:=c.1;refine⟨?_,?_,?_,?_⟩;intro l k;have m:(AA (Ac n) (J L.sub) fr).1.head?=some l:=k;(cases hx:(AA (Ac n) (J L.sub) fr).1 with|nil=>rw[hx]at m;cases m|cons y ys=>rw[hx]at m c d;cases m;cases hz:J L.sub with|nil=>rw[hz]at d;simp at d|cons z zs=>have t:=c.2 0 (by rw[hz];simp) sM;simp[zF]at t;rw[t.1];have:=h.head z (by show(J L.sub).head?=some z;rw[hz];rfl);simp[hz,zF];exact this);intro l k;obtain⟨i,o,rfl⟩:=gO k;(have f:i<(J L.sub).length:=by rwa[d]);let⟨g,p,q,r⟩:=c.2 i f o;have:=h.all _<|gM f;refine⟨?_,?_,?_⟩;rw[g];exact r this.1;rw[p];exact this.2.1;rw[g];exact this.2.2;rw[fP];intro i j o A x;(have f:i<(J L.sub).length:=by rwa[d]);(have u:j<(J L.sub).length:=by rwa[d]);let⟨g,p,q,r⟩:=c.2 i f o;let⟨s,B,C,D⟩:=c.2 j u A;have:=(pG h.pair) i j f u x;refine⟨?_,?_⟩;rw[g,s];exact this.1;rw[q,s];exact this.2;have e:=NU Af (J L.sub) (AA (Ac n) (J L.sub) fr).1 ⟨d,λi v w=>by show 11+_=11+_;rw[(c.2 i v w).1]⟩;show qK3 Af (AA (Ac n) (J L.sub) fr).1<=126;rw[e];exact h.fits
def MF{X:Type}(f:X->Ϥ->Ϥ)(g:X->Nat)(c:∀t a,(f t a).length+1<=a.length+g t):∀(b:List (θ X)) (a),(b.foldl (B3 f) a).length<=a.length+qK3 (λm=>g m.sub) b
 |[],a=>by simp[qK3]|m::b,a=>by have d:=MF f g c b<|B3 f a m;(have e:(B3 f a m).length<=a.length+g m.sub:=by unfold B3;split;have:=c m.sub a;omega;rename_i x _;split;omega;have:=c m.sub<|x.1::a;simp at this;omega);rw[cW,AV];omega
def NP:∀(n:Nat)(t)(ks),(BV n t ks).length+1<=ks.length+AM n t
 |0,t,ks=>by simp[BV,AM]|n+1,t,ks=>by have:=MF (BV n) (AM n) (NP n) (J t) ks;have e:AM (n+1) t=1+qK3 (λm:θ (Tn n)=>AM n m.sub) (J t):=rfl;rw[e];simp[BV];omega
def KP(ks)(r):(Ag ks r).length<=ks.length+Bg r:=by cases r with|none=>simp[Ag,Bg]|«at» n L=>simpa [Ag,Bg,qK3] using(MF (BV n) (AM n) (NP n) [L] ks)
def Jt:∀(a b:Ϥ),a.Nodup->a.length<=(a.filter (λk=>decide (k∉b))).length+b.length
 |[],b,_=>by simp|x::a,b,h=>by let⟨i,d⟩:=List.nodup_cons.1 h;by_cases c:x∈b;have j:=Jt a (b.erase x) d;(have e:a.filter (λk=>decide (k∉b.erase x))=a.filter (λk=>decide (k∉b)):=List.filter_congr λy hy=>by have g:y≠x:=λe=>i<|e ▸ hy;simp[List.mem_erase_of_ne g]);(have f:(x::a).filter (λk=>decide (k∉b))=a.filter (λk=>decide (k∉b)):=by rw[List.filter_cons_of_neg (by simp[c])]);have:=List.length_erase_of_mem c;have:1<=b.length:=List.length_pos_of_mem c;rw[e]at j;rw[f,lC];omega;have:=Jt a b d;rw[List.filter_cons_of_pos (by simp[c]),lC,lC];omega
def Wq(N:Nat)(ks):N-2<=(AQ N ks).length+ks.length:=by simpa [AQ] using(Jt (List.range' 2<|N-2) ks List.nodup_range')
def G8{r}(h:AE r):2*Bg r<=r.cont.length+1:=by cases r with|none=>simp[Bg]|«at» n l=>have:=ID n _ _ h.2.1;have:=h.2.2;show 2*AM n l.sub<=(cont n l.sub).length+1;omega
open Go.Maps (Keyed)
def AG(N:Nat)(l:List UInt8)(rb rs:Int):Ah→Prop
 | .none=>rb=0∧rs=0
 | .at n L=>∃b:Nat,rb=(b:Int)∧L.ref=some (b,rs)∧Av N l n b rs L.sub
def AG.bnd{N:Nat}{l}{a c:Int}{r}(h:AG N l a c r)(e:N<=1000):0<=a/\a<=1000/\0<=c:=by cases r with|none=>obtain⟨rfl,rfl⟩:=h;decide|«at» n L=>obtain⟨b,rfl,_,d⟩:=h;have:=d.at;omega
def AG.sum{N:Nat}{l}{d a:Int}{r}(h:AG N l d a r):a<18446744073709551616:=by cases r with|none=>obtain⟨rfl,rfl⟩:=h;decide|«at» n L=>obtain⟨b,rfl,_,c⟩:=h;have:=c.at;omega
def AG.rr{N:Nat}{l:ϣ}{a c:Int}{r:Ah}(h:AG N l a c r)(g:AE r){E:Env}(w:Ϣ)(f:E.O=Av N l:=by rfl):RR E w ⟨⟨#[]⟩,a,c,none⟩ r:=by cases r with|none=>obtain⟨rfl,rfl⟩:=h;rfl|«at» n L=>obtain⟨b,rfl,d,e⟩:=h;refine⟨g.1.symm,?_⟩;rw[d,f];exact⟨rfl,rfl,rfl,e⟩
def AG.old{N:Nat}{l}{c d:Int}{r}(h:AG N l c d r):Da N l r:=by cases r with|none=>trivial|«at» n L=>obtain⟨b,rfl,h2,h3⟩:=h;cases n with|zero=>intro x a;rw[h2]at a;cases a;exact h3|succ n=>exact⟨λx a=>by rw[h2]at a;cases a;exact h3,λa=>by rw[h2]at a;cases a⟩
def AG.move{N:Nat}{l l'}{a c:Int}{r}(h:AG N l a c r)(d:∀k∈CV r,ρ l' k=ρ l k):AG N l' a c r:=by cases r with|none=>exact h|«at» n L=>let⟨b,e1,h2,h3⟩:=h;refine⟨b,e1,h2,h3.move _ _ _ _ λk e=>d k ?_⟩;show k∈CA n L;rwa[EH h2]
def Jk{N:Nat}{l}:∀(n b:Nat)(s:Int)(t),Av N l n b s t->∀k∈CJ n b t,2<=k
 |0,b,s,t,h,k,a=>by simp[CJ]at a;have:=h.at;omega|n+1,b,s,t,h,k,a=>by have:=h.at;let⟨g,j,o,q,c,p⟩:=h;simp[CJ,mC,aS]at a;rcases a with rfl|⟨m,f,a⟩;omega;obtain⟨i,e,rfl⟩:=gO f;have d:=(c.2 i (by rwa[c.1]) e).2;cases hx:(J t)[i].ref with|none=>rw[hx]at a;cases a|some x=>rw[hx]at a d;exact Jk n x.1 x.2 _ d.2.2.2 k a
def AG.ge{N:Nat}{l}{g d:Int}{r}(h:AG N l g d r):∀k∈CV r,2<=k:=by cases r with|none=>intro k a;cases a|«at» n L=>obtain⟨b,rfl,e,f⟩:=h;intro k a;have c:k∈CA n L:=a;rw[EH e]at c;exact Jk n b d L.sub f k c
def AG.head{N:Nat}{l}{a b:Int}{r}(h:AG N l a b r)(d:N*128<=l.length)(e:2<=N)(i:Nat)(f:i<2)(x y z:Int):AG N (AO l i (Ak x y z)) a b r:=
 h.move λk c=>Eo l _ i k N (Cq _ _ _) d oM (oW (h.ge k c))
def Qm{N:Nat}{l c:ϣ}(b:∀k,2<=k->ρ c k=ρ l k):∀(n:Nat) (L:θ (Tn n)),C9 N l n L->C9 N c n L
 |0,L,h=>λx a=>(h x a).move _ _ _ _ λk hm=>b k (Jk 0 x.1 x.2 L.sub (h x a) k hm)|n+1,L,h=>⟨λx a=>(h.1 x a).move _ _ _ _ λk hm=>b k<|Jk (n+1) x.1 x.2 L.sub (h.1 x a) k hm,λhn m hm=>Qm b n m<|h.2 hn m hm⟩
def Qo{N:Nat}{l l'}(a:∀k,2<=k->ρ l' k=ρ l k){r}(h:Da N l r):Da N l' r:=by cases r with|none=>trivial|«at» n L=>exact Qm a n L h
def AG.one{N:Nat}{l}{j c:Int}{r r'}(g:N<=1000)(h:AG N l j c r)(d:AG N l j c r'):r.cont=r'.cont/\CV r=CV r':=by cases r with|none=>obtain⟨rfl,rfl⟩:=h;(cases r' with|none=>exact⟨rfl,rfl⟩|«at» n L=>let⟨b,e1,_,a⟩:=d;have:=a.at;omega)|«at» n L=>obtain⟨b,rfl,m,a⟩:=h;cases r' with|none=>let⟨e,_⟩:=d;have:=a.at;omega|«at» n' L'=>let⟨k,s,o,f⟩:=d;have p:b=k:=oM;subst p;have q:=GV g a f;subst q;have i:=(GW g n b c c L.sub L'.sub a f).2;refine⟨?_,?_⟩;show cont n L.sub=cont n L'.sub;rw[i];show CA n L=CA n L';rw[EH m,EH o,i]
def Bx(V:Nat)(b:Int)(k:ByteArray):Obj:=.cells #[.pointer (some ⟨V,0,none⟩),.int .i64 b,.string k] 293
def Gq(w):Ω 253 #[ϐ true] w λe a=>e=ϱ (.tuple #[])/\a=w:=by go_enter func253,ntmps253;go_wp2;go_end0;exact⟨rfl,rfl⟩
def HU:List PanicEntry:=[{ v:=.iface 182 (.agg #[.iface 45 (.int .i64 9)]),recovered:=false }]
def EX(w):Ω 253 #[ϐ false] w λe a=>e=.panicked HU/\Kp [] w a:=by go_enter func253,ntmps253;go_wp2;exact⟨rfl,rfl,rfl,kE _ _⟩
def P8(q n:Nat)(b)(a)(w)(h:Dj w q n b a)(c:b.length+a.length<=1000):Ω 161 #[ϖ q] w λe i=>e=ϱ (ϊ ((b.length+a.length:Nat):Int))/\∃m,i=w.drewN m:=by let⟨vp,vl,h1,h2,h3,_⟩:=h;obtain⟨o,p,rfl⟩:=DU h2;obtain⟨j,k,rfl⟩:=DU h3;let⟨r,f⟩:=eX b.length;let⟨l,d⟩:=eX a.length;rw[<-f,<-d]at c h1 |-;have:=U h1;have g:=Y h1;simp[Aq,zG,zH,zI]at g;go_enter func161,ntmps161;go_wp2_with fail;go_quiet (fail);go_wp2;go_ret;exact⟨C6 oM,_,rfl⟩
structure Dp where
 κ:Kd
 V:Nat
 A:Nat
 N:Nat
 C:Nat
 l:ϣ
 ws:ϥ
 wr:Int
 qc:Ϥ
abbrev Dp.m(D:Dp):List UInt8:=laidAll D.l D.ws
abbrev Dp.On(D:Dp)(w:World):Prop:=Dw D.κ D.V D.A D.N D.C D.l D.ws D.wr D.qc w
abbrev Dp.Ck(D:Dp)(G:Nat)(f:FuncId)(a:Array Value)(w:World)(X:Prop)(Q:Ending→World→Prop):Prop:=
 (EW D.κ D.V D.A D.N D.C D.l D.ws D.wr D.qc).toEnv.CM G f a w fun e w'=>((e=.panicked HU∧X)∨Q e w')∧D.On w'∧Kp [G,D.A] w w'
def Dp.call{D:Dp}{G:Nat}{w w2}{f:FuncId}{a}{X X':Prop}{Q K:Ending->ϯ}(h:D.Ck G f a w2 X Q)(m:Kp [G,D.A] w w2)(o:X->X')(k:∀e b,Q e b->D.On b->Kp [G,D.A] w2 b->K e b) (l:∀p b,(EW D.κ D.V D.A D.N D.C D.l D.ws D.wr D.qc).toEnv.ZM G w (.panicked (CH p)) b->K (.panicked (CH p)) b:=by intro p b l;go_wp2;exact⟨rfl,.inl l⟩) (n:∀b,X'->D.On b->Kp [G,D.A] w b->K (.panicked HU) b:=by intro b j c d;go_wp2;exact⟨rfl,.inr ⟨.inl ⟨rfl,j⟩,c,d⟩⟩):Calls prog f a w2 K:=
 h.mono λe b h=>by
  rcases h with h|⟨⟨rfl,j⟩|h,c,d⟩
  .obtain⟨p,rfl⟩:=h.1;exact l p b ⟨h.1,h.2.1,m.trans h.2.2 λi g _=>g⟩
  .exact n b (o j) c<|m.trans d λi g _=>g
  .exact k e b h c d
def XX(xs):11*xs.length<=qK3 Ab xs:=by induction xs with|nil=>simp|cons a xs ih=>rw[AV,lC];have:Ab a=11+a.key.size:=rfl;omega
def CB.len{l}{n b:Nat}{s:Int}{ps}{hs}(h:CB l n b s ps hs):ps.length+hs.length<=126/\hs.length<=11/\n<256:=by have:=Iu μ ps (λp _=>by unfold μ;omega);have:=XX hs;rcases h.2 with⟨rfl,rfl,_,h,_⟩|⟨_,a,rfl,_,h,_⟩<;>simp at *<;>omega
def Fw.cnt{N:Nat}{l}{n:Nat}{ps}{hs}{t}(h:Fw N l n ps hs t):cnt n t=ps.length+hs.length:=by cases n with|zero=>obtain⟨rfl,rfl⟩:=h;rfl|succ n=>obtain⟨rfl,h⟩:=h;show(J t).length=_;rw[<-h.1];simp
def Fw.laid{N:Nat}{l}{n b:Nat}{s:Int}{ps}{hs}{t}(h:Fw N l n ps hs t)(d:CB l n b s ps hs)(j:2<=b)(k:b<N)(o:n<6):Av N l n b s t:=by have f:=d.len;let⟨e,d⟩:=d;cases n with|zero=>obtain⟨rfl,rfl⟩:=h;rcases d with⟨_,_,a,g,c⟩|⟨m,_⟩;refine⟨j,k,?_,c,a,g,by simp at f;omega⟩;rw[e,c,DL _<|Cj 0 _ [] oM oM (by simp at f |-;omega) a sM];omega|succ n=>obtain⟨rfl,q⟩:=h;rcases d with⟨m,_⟩|⟨_,_,_,a,g,c⟩;omega;refine⟨j,k,o,hs,q,?_,c,λp i=>(a p i).2.1,g,by simp at f;omega⟩;rw[e,c,DL _<|Cj _ [] hs oM oM (by simp at f |-;omega) sM λp i=>(a p i).2.1]
def CB.one{l}{n c b:Nat}{s z:Int}{ps ps'}{hs hs'}(h:CB l n b s ps hs)(a:CB l c b z ps' hs'):n=c/\ps=ps'/\hs=hs':=by have i:=h.len;(have j:∀{n:Nat} {ps:List KV} {hs:List HL},ps.length+hs.length<=126->F3 (ρ l b) n ps hs->ρ l b=ι (Az (n:Int) ps hs)/\(∀p∈ps,A2 p)/\(∀p∈hs,JY p)/\∀x∈Az (n:Int) ps hs,0<=x/\x<256:=λ{n ps hs} i h=>by rcases h with⟨rfl,rfl,h1,_,h3⟩|⟨_,g,rfl,h1,_,h3⟩;exact⟨h3,h1,sM,Cj 0 ps [] oM oM oM h1 sM⟩;exact⟨h3,sM,h1,Cj _ [] hs oM oM oM sM λp y=>(h1 p y).2.1⟩);let⟨k,m,o,q⟩:=j i.1 h.2;let⟨t,u,v,w⟩:=j a.len.1 a.2;let⟨d,e,r,A,f⟩:=FJ<|Fp q w<|k.symm.trans t;have d:n=c:=oM;subst d;rcases h.2 with⟨rfl,rfl,_⟩|⟨g,_,rfl,_⟩;rcases a.2 with⟨_,rfl,_⟩|⟨g,_⟩;exact⟨rfl,IG _ _ _ _ m u (sU e) f,rfl⟩;omega;rcases a.2 with⟨rfl,_⟩|⟨_,_,rfl,_⟩;omega;exact⟨rfl,rfl,JM _ _ _ _ o v (sU e)<|sU f⟩
def Dp.read(D:Dp)(l s:Int)(G:Nat)(o:Int)(k)(w)(C:D.On w)(P:w.heap[G]?=some (Bx D.V o k))(a0:0<=o)(a1:o<=1000000):D.Ck G 255 #[ϖ G,.agg #[ϊ l,.int .u64 s]] w (∀(n b:Nat)(t),l=(b:Int)->¬Av D.N D.m n b s t) λe y=>∃q n b g f,e=ϱ (ϖ q)/\l=((b:Nat):Int)/\2<=b/\b<D.N/\Dj y q n g f/\CB D.m n b s g f/\y.heap[G]?=some (Bx D.V (o+1) k):=by
 have Sz:Hid (∀{p:Prop},(_h:p:=by
  refine zU 12 (.bool false) d ?_;refine zq 13 λK hK=>?_;go_simp;refine(EX _).mono ?_;rintro e w2 ⟨rfl,u⟩;go_wp2;let⟨e1,T⟩:=ac.out _ (Q.drew.tr u);exact⟨rfl,.inr ⟨.inl ⟨rfl,λn b t e h=>by have:=h.at;omega⟩,e1,T⟩⟩)->p):=λh=>h
 have HD:=ξ C;have av:=C.sA;have ao:G≠D.A:=by let⟨_,c,h⟩:=C.hA;exact Aa P h dC
 have ay:=U P;have ak:Hid (D.N<=1000):=by let⟨_,h,_⟩:=C;exact h.N1
 have N:Hid (∀b:Nat,l=((b:Nat):Int)->b<D.N->∀W,D.On W->(EW D.κ D.V D.A D.N D.C D.l D.ws D.wr D.qc).toEnv.C 217 #[ϖ D.V,.agg #[ϊ l,.int .u64 s]] W λe y=>(((∀n g f,¬CB D.m n b s g f)/\∃v,e=ϱ (.tuple #[v,.bool false]))\/∃n g f a,e=ϱ (.tuple #[ϖ a,.bool true])/\Dj y a n g f/\CB D.m n b s g f)/\D.On y/\Kp [D.A] W y):=λb H af W hW=>by
  rw[H];obtain⟨q,O,X⟩:∃q:Option (Nat×List KV×List HL),(∀n g f,q=some (n,g,f)->CB D.m n b s g f)/\(q=none->∀n g f,¬CB D.m n b s g f):=by
   by_cases h:∃n g f,CB D.m n b s g f
   .let⟨n,g,f,h⟩:=h;exact⟨some (n,g,f),λn' a5 a3 e=>(by cases e;exact h),λe=>(by cases e)⟩
   .exact⟨none,λn g f e=>(by cases e),λ_ n g f h'=>h ⟨n,g,f,h'⟩⟩
  let⟨au,hk,ah⟩:=hW;refine(Qi hk b s af q O X).mono ?_;rintro e y ⟨⟨r,z⟩|⟨r,z⟩,ad,hc⟩
  .exact .inl ⟨r.2,⟨_,z,hc.trans ah⟩,ad⟩
  .refine .inr ⟨?_,⟨_,z,hc.trans ah⟩,ad⟩;rcases r with⟨r,V⟩|⟨n,g,f,a,r,V,g4⟩
   .exact .inl ⟨X r,V⟩
   .exact .inr ⟨n,g,f,a,V,g4,O _ _ _ r⟩
 go_enter func255,ntmps255;go_wp2_with fail;let⟨E,ai,F,Q,a4⟩:=BH w (ϲ #[ϊ l,.int .u64 s] 84);rw[<-ai];clear ai;have A:=Q.hp P;have ae:=Q.hp C.hV;have ac:Hid (∀W,Kp [] w W->D.On W/\Kp [G,D.A] w W):=λW hW=>⟨HD.qK5 hW,hW.mono sM⟩;clear C P;by_cases X:(2:Int)<=l
 .by_cases af:l<(D.N:Int)
  .obtain⟨b,H⟩:∃b:Nat,l=((b:Nat):Int):=⟨l.toNat,oM⟩;have HR:=Hid.mk' (N b H oM);have L:Hid (l=((b:Nat):Int)/\2<=b/\b<D.N):=⟨H,oM,oM⟩;have aw:=U A;have az:=U F;have g0:=ϻ A 0;have r:=ϻ A 1;have z:=ϻ A 2;have p0:=Y F;clear H N
   go_quiet (first | (go_at_call 121;exact Calls.quiet_of_same (Ko D.V D.A D.N _ ae)) | (go_at_call 253;exact Calls.quiet_of_same (Gq _)))
   go_wp2_with fail;obtain⟨I,aj,aa⟩:∃I,I=E.drewN nq/\Kp [] E I:=⟨_,rfl,kF.drewN _⟩;rw[<-aj];clear aj g0 r z p0;have ab:=(Q.tr aa).drew;have an:=(ac.out _ ab).1;have d:Ϙ I.drew G (Bx D.V o k)/\Ϙ I.drew w.heap.size (ϲ #[ϊ l,.int .u64 s] 84):=⟨aa.hp A,aa.hp F⟩;refine wp_region_held_drew (S:=λW=>Ϙ W G (Bx D.V o k)/\Ϙ W w.heap.size (ϲ #[ϊ l,.int .u64 s] 84)) kR d (λ_=>?_);refine zP 0 G 0 d ?_;refine zV 1 (ϖ G) rfl (λW j=>by have c:=U j.1;clear j;go_simp) d ?_;refine zP 2 G 0 d ?_;refine zV 3 (ϖ D.V) rfl (λW j=>by have a:=ϻ j.1 0;clear j;go_simp) d ?_;refine zV 4 (.agg #[ϊ l,.int .u64 s]) rfl (λW j=>by have a:=Y j.2;clear j;go_simp) d ?_;refine zq 5 λK hK=>?_;go_simp;refine Env.qO7 (HR _ an).m (ab.mono sM) ?_;rintro e x ⟨aq,am,Z⟩;have m:=n2 (Z.heap d.1 (sU ao)) (Z.ho d.2);have M:=zh m.1;have R:Hid (D.On x/\Kp [G,D.A] w x):=⟨am,(ab.mono sM).tr Z⟩;rcases aq with⟨ag,q,rfl⟩|⟨n,g,f,q,rfl,hM,hR⟩
   .have al:Hid (∀(n b:Nat)(t:Tn n),l=(b:Int)->¬Av D.N D.m n b s t):=λn b' t e h=>by
     let⟨g,f,O,_⟩:=h.raw ak.out;have:b'=b:=by have:=L.out.1;omega
     subst this;exact ag _ _ _ O
    clear ag;refine zk hK m ?_
    refine zU 6 (.tuple #[q,.bool false]) m ?_;refine zU 7 q m ?_;refine zU 8 (.bool false) m ?_;refine zU 9 q m ?_;refine zU 10 (.bool false) m ?_;refine zd ?_
    try simp[zZ]
    clear m;go_wp2_with fail;refine(EX x).mono ?_;rintro e w2 ⟨rfl,u⟩;go_wp2;exact⟨rfl,.inr ⟨.inl ⟨rfl,al⟩,R.1.qK5 u,R.2.tr u⟩⟩
   .refine zk hK m ?_
    refine zU 6 (.tuple #[ϖ q,.bool true]) m ?_;refine zP 7 q 0 m ?_;refine zU 8 (.bool true) m ?_;refine zP 9 q 0 m ?_;refine zU 10 (.bool true) m ?_;refine zd ?_
    try simp[zZ]
    have HM:=zh (n2 hM hR);clear m hM hR;go_wp2_with fail;refine(Gq x).mono ?_;rintro e w2 ⟨rfl,hw⟩;rw[hw];have B:=M.out;have ax:=U B;have g0:=ϻ B 0;have r:=ϻ B 1;have z:=ϻ B 2;have f1:=ω B 1;have a2:wrap64 (o+1)=o+1:=by simp[wrap64];omega
    clear B;go_wp2;go_ret;have ap:χ x [G] BU:=χ.one M dC;have u:Kp [G] x (x.setCell (ϰ G 1) (ϊ (o+1))):=kF.sc _;let⟨T,e3⟩:=R.out;exact .inr ⟨.inr ⟨q,n,b,g,f,rfl,L.1,L.2.1,L.2.2,HM.1.qK4 u ap,HM.2,η M 1 _⟩,T.qK4 u (AH.one M dC),e3.tr u⟩
  .clear N;have d:Ϙ E.drew G (Bx D.V o k)/\Ϙ E.drew w.heap.size (ϲ #[ϊ l,.int .u64 s] 84)/\Ϙ E.drew D.V (DK D.A D.N):=⟨A,F,ae⟩;refine wp_region_held_drew (S:=λW=>Ϙ W G (Bx D.V o k)/\Ϙ W w.heap.size (ϲ #[ϊ l,.int .u64 s] 84)/\Ϙ W D.V (DK D.A D.N)) kR d (λ_=>?_);refine zP 0 w.heap.size 0 d ?_;refine zV 1 (ϊ l) rfl (λW j=>by have a:=ϻ j.2.1 0;clear j;go_simp) d ?_;refine zU 2 (.bool true) d ?_;refine zU 3 (.bool true) d ?_;refine zP 4 w.heap.size 0 d ?_;refine zV 5 (ϊ l) rfl (λW j=>by have a:=ϻ j.2.1 0;clear j;go_simp) d ?_;refine zP 6 G 0 d ?_;refine zV 7 (ϖ G) rfl (λW j=>by have c:=U j.1;clear j;go_simp) d ?_;refine zP 8 G 0 d ?_;refine zV 9 (ϖ D.V) rfl (λW j=>by have a:=ϻ j.1 0;clear j;go_simp) d ?_;refine zq 10 λK hK=>?_;go_simp;refine(Ko D.V D.A D.N _ d.2.2).mono ?_;rintro e x ⟨rfl,ar⟩;rw[ar];refine zk hK d ?_
   refine zU 11 (.bool false) d ?_;exact Sz.out
 .clear N;have d:Ϙ E.drew w.heap.size (ϲ #[ϊ l,.int .u64 s] 84):=F;refine wp_region_held_drew (S:=λW=>Ϙ W w.heap.size (ϲ #[ϊ l,.int .u64 s] 84)) kR d (λ_=>?_);refine zP 0 w.heap.size 0 d ?_;refine zV 1 (ϊ l) rfl (λW j=>by have a:=ϻ j 0;clear j;go_simp) d ?_;refine zU 2 (.bool false) d ?_;refine zU 3 (.bool false) d ?_;refine wpAnyH_take (i:=4) (v:=undef) rfl kR kR kR (λ_ _ _ h=>h) (Or.inr ⟨by rfl,rfl⟩) d ?_;simp[zZ];refine wpAnyH_take (i:=5) (v:=undef) rfl kR kR kR (λ_ _ _ h=>h) (Or.inr ⟨by rfl,rfl⟩) d ?_;simp[zZ];refine wpAnyH_take (i:=6) (v:=undef) rfl kR kR kR (λ_ _ _ h=>h) (Or.inr ⟨by rfl,rfl⟩) d ?_;simp[zZ];refine wpAnyH_take (i:=7) (v:=undef) rfl kR kR kR (λ_ _ _ h=>h) (Or.inr ⟨by rfl,rfl⟩) d ?_;simp[zZ];refine wpAnyH_take (i:=8) (v:=undef) rfl kR kR kR (λ_ _ _ h=>h) (Or.inr ⟨by rfl,rfl⟩) d ?_;simp[zZ];refine wpAnyH_take (i:=9) (v:=undef) rfl kR kR kR (λ_ _ _ h=>h) (Or.inr ⟨by rfl,rfl⟩) d ?_;simp[zZ];refine wpAnyH_take (i:=10) (v:=undef) rfl kR kR kR (λ_ _ _ h=>h) (Or.inr ⟨by rfl,rfl⟩) d ?_;simp[zZ];refine wpAnyH_take (i:=11) (v:=undef) rfl kR kR kR (λ_ _ _ h=>h) (Or.inr ⟨by rfl,rfl⟩) d ?_;simp[zZ];exact Sz.out
def ET:(n:Nat)→Nat→Tn n→List (Nat×List KV)
 | 0,b,t=>[(b,ζ t)]
 | n+1,_,t=>(J t).flatMap (fun m=>match m.ref with | some x=>ET n x.1 m.sub | none=>[])
def GU{N:Nat}{l}{n b:Nat}{s:Int}{t}(h:Av N l (n+1) b s t):∀m∈J t,∃x,m.ref=some x/\Av N l n x.1 x.2 m.sub:=by let⟨_,_,_,hs,hb,_⟩:=h;intro m e;obtain⟨i,d,rfl⟩:=gO e;have a:=(hb.2 i (by rwa[hb.1]) d).2;cases hx:(J t)[i].ref with|none=>rw[hx]at a;let⟨_,_,q,_,c⟩:=a;exact c.elim|some x=>rw[hx]at a;exact⟨x,rfl,a.2.2.2⟩
def Wa{b c:Type}{l:List b}{f g:b->List c}(h:∀a∈l,f a=g a):l.flatMap f=l.flatMap g:=by rw[List.flatMap_def,List.flatMap_def,fQ h]
def PH{N:Nat}{l}:∀(n b:Nat)(s:Int)(t),Av N l n b s t->(ET n b t).flatMap Prod.snd=cont n t
 |0,b,s,t,h=>by show ζ t++[]=ζ t;rw[aN]|n+1,b,s,t,h=>by show((J t).flatMap _).flatMap Prod.snd=(J t).flatMap λm=>cont n m.sub;rw[List.flatMap_assoc];refine Wa λm c=>?_;let⟨x,d,a⟩:=(GU h) m c;rw[d];exact PH n x.1 x.2 m.sub a
def PG{N:Nat}{l}:∀(n b:Nat)(s:Int)(t),Av N l n b s t->∀y∈ET n b t,y.1<N/\ρ l y.1=ι (Az 0 y.2 [])/\(∀p∈y.2,A2 p)/\2+qK3 μ y.2<=128
 |0,b,s,t,h,y,a=>by let⟨k,c,o,d,e,f,q⟩:=h;rw[mS a];exact⟨c,d,e,f⟩|n+1,b,s,t,h,y,a=>by let⟨m,i,a⟩:=mF a;let⟨x,j,g⟩:=GU h m i;rw[j]at a;exact PG n x.1 x.2 m.sub g y a
def PI{N:Nat}{l}:∀(n b:Nat)(s:Int)(t)(lo),Av N l n b s t->Ay n lo t->1<=cnt n t->∀y∈ET n b t,y.2≠[]
 |0,b,s,t,lo,h,hg,hc,y,a=>by rw[mS a];intro e;(have:(ζ t).length=0:=by rw[show ζ t=[] from e];rfl);have:1<=(ζ t).length:=hc;omega|n+1,b,s,t,lo,h,hg,hc,y,a=>by let⟨m,c,a⟩:=mF a;let⟨x,g,f⟩:=GU h m c;rw[g]at a;have d:=hg.all m c;exact PI n x.1 x.2 m.sub m.key f d.1 oM y a
def Qf{N:Nat}{l}:∀(n b:Nat)(s:Int)(t)(lo),Av N l n b s t->Ay n lo t->min n 1<cnt n t->AM n t+1<=2*(ET n b t).length
 |0,b,s,t,lo,h,hg,hc=>by simp[AM,ET]|n+1,b,s,t,lo,h,hg,hc=>by have i:∀m∈J t,3<=cnt n m.sub/\Ay n m.key m.sub:=λm d=>⟨(hg.all m d).2.1,(hg.all m d).1⟩;(have:1<(J t).length:=by have e:min (n+1) 1=1:=oM;rwa[e]at hc);(have o:∀c:List (θ<|Tn n),(∀m∈c,∃x,m.ref=some x/\Av N l n x.1 x.2 m.sub)->(∀m∈c,3<=cnt n m.sub/\Ay n m.key m.sub)->qK3 (λm:θ (Tn n)=>AM n m.sub) c+c.length<=2*(c.flatMap (λm=>match m.ref with | some x=>ET n x.1 m.sub | none=>[])).length:=by intro c;induction c with|nil=>intro _ _;simp[Bf]|cons a c ih=>intro e f;have:=ih (λm d=>e m (by simp[d])) λm d=>f m (by simp[d]);let⟨x,k,j⟩:=e a sM;let⟨p,g⟩:=f a sM;have:=Qf n x.1 x.2 a.sub a.key j g oM;rw[AV,lC,fC,lA,k];simp only;omega);have:=o (J t) (GU h) i;show 1+qK3 (λm:θ (Tn n)=>AM n m.sub) (J t)+1<=2*((J t).flatMap _).length;omega
def Ld{a:Ϥ}{N:Nat}(h:a.Nodup)(d:∀x∈a,x<N):a.length<=N:=by have b:=Jt a (List.range N) h;(have c:a.filter (λk=>decide (k∉List.range N))=[]:=by rw[jH];intro x e;have:=d x e;simp[List.mem_range,this]);rw[c,List.length_range]at b;simpa using b
def Yb(b:List (Nat×List KV))(h:∀y∈b,y.2.length<=63):(b.flatMap Prod.snd).length<=b.length*63:=by induction b with|nil=>simp|cons a b ih=>have:=ih λy hy=>h y (by simp[hy]);have:=h a sM;rw[fC,lA,lC,Nat.add_mul];omega
def Iv(b)(h:∀p∈b,A2 p):2*b.length<=qK3 μ b:=by induction b with|nil=>simp|cons a b ih=>have:=ih λp hp=>h p (by simp[hp]);have:=(h a sM).1;have:μ a=1+a.k.size+a.v.size:=rfl;rw[AV,lC];omega
def Iw{N:Nat}{l}{K d:Int}{r}(h:AG N l K d r)(B:AE r)(P:N<=400):Bg r<=800/\r.cont.length<=25200:=by cases r with|none=>exact⟨zL _,zL _⟩|«at» n L=>obtain⟨b,rfl,h2,h3⟩:=h;let⟨_,f,v⟩:=B;have c:=PG n b d L.sub h3;have j:=PH n b d L.sub h3;have k:=(De n L.key L.sub f).1;rw[<-j]at k;(have F:((ET n b L.sub).map Prod.fst).Nodup:=by refine List.pairwise_map.2<|((List.pairwise_flatMap.1 k).2).imp_of_mem λ{x y} m a H=>?_;intro e;let⟨V,o,g,W⟩:=c x m;let⟨X,M,i,Z⟩:=c y a;rw[e,M]at o;have R:=Iv x.2 g;have S:=Iv y.2 i;have s:=Fp (Cj 0 y.2 [] oM oM sO i sM) (Cj 0 x.2 [] oM oM sO g sM) o;let⟨_,C,q,T,t⟩:=FJ s;have u:=IG y.2 x.2 _ _ i g (sU C) t;let⟨p,G⟩:=List.exists_mem_of_ne_nil _<|(PI n b d L.sub L.key h3 f oM) x m;have:=H p G p (by rwa[u]);rw[DQ]at this;cases this);have D:=Ld F (λz I=>by obtain⟨y,a,rfl⟩:=aQ.1 I;exact(c y a).1);rw[bV]at D;have Q:=Qf n b d L.sub L.key h3 f v;have E:=Yb (ET n b L.sub) (λy a=>by have:=Iv y.2 (c y a).2.2.1;have:=(c y a).2.2.2;omega);rw[j]at E;have w:Bg (.at n L)=AM n L.sub:=rfl;have A:(Ah.at n L).cont=cont n L.sub:=rfl;have O:(ET n b L.sub).length*63<=400*63:=bI _ oM;rw[w,A];omega
variable {κ:Kd}
def OI{V A n C:Nat}{l}{ws}{wr:Int}{qc}{w}(c:Dw κ V A n C l ws wr qc w)(i:Nat)(a:Option (Int×Int×Int))(k:i<n)(d:Co (laidAll l ws) i a):(EW κ V A n C l ws wr qc).toEnv.C 205 #[ϖ V,ϊ i] w λe p=>e=ϱ (.tuple #[D0 a,ϐ a.isSome])/\(EW κ V A n C l ws wr qc).toEnv.To w p:=by let⟨m,b⟩:=eX<|laidAll l ws;rw[<-b]at d;have u:(256:Int) ^ 2=65536:=dC;have o:(256:Int) ^ 8=18446744073709551616:=dC;(have:(ρ m i).length=128:=by let⟨_,h,_⟩:=c;rw[b];exact GJ (Dy n ws l h.len h.fit) k);(have r:(((ρ m i).drop 8).take 8).length=8:=by rw[lK,lD];omega);(have s:(((ρ m i).drop 6).take 2).length=2:=by rw[lK,lD];omega);(have t:(((ρ m i).drop 16).take 8).length=8:=by rw[lK,lD];omega);have f:=FK (((ρ m i).drop 8).take 8) oM;have g:=FK (((ρ m i).drop 6).take 2) oM;have j:=FK (((ρ m i).drop 16).take 8) oM;rw[r,o]at f;rw[s,u]at g;rw[t,o]at j;refine(VQ c i m b _ _ _ k rfl rfl rfl f.1 g.1 oM j.1 a.isSome ?_).mono ?_;(cases a with|some c=>let⟨e1,e2,e3,e4,e5⟩:=d;rw[e1,e2,e3];simp[e4,e5]|none=>symm;show _=false;rw[Bool.and_eq_false_iff];by_cases b:Cm (Bq<|((ρ m i).drop 8).take 8) % 2=(i:Int);right;rw[beq_eq_false_iff_ne];intro e;exact d _ _ _ ⟨rfl,rfl,rfl,b,e⟩;left;simpa using b);rintro e p (h|⟨rfl,q⟩);exact .inl h;refine .inr ⟨?_,q⟩;cases a with|some c=>let⟨e1,e2,e3,e4,e5⟩:=d;rw[e1,e2,e3];simp[D0]|none=>simp[D0]
def Qb{V A n C:Nat}{l}{ws}{wr:Int}{qc}{w}(hd:Dw κ V A n C l ws wr qc w)(k j:Option (Int×Int×Int))(al:8<=n)(aj:Co (laidAll l ws) 0 k)(ak:Co (laidAll l ws) 1 j):(EW κ V A n C l ws wr qc).toEnv.C 140 #[ϖ V] w λe L=>e=ϱ (.tuple #[D0 (BY k j),ϐ (BY k j).isSome])/\(EW κ V A n C l ws wr qc).toEnv.To w L:=by have:=hd.sA;(obtain⟨i,u,v,y,K,H⟩:∃i u v y,D0 k=.agg #[.int .u64 i,ϊ u,.int .u64 v]/\k.isSome=y:=by cases k<;>exact⟨_,_,_,_,rfl,rfl⟩);(obtain⟨f,r,s,z,Q,I⟩:∃f r s z,D0 j=.agg #[.int .u64 f,ϊ r,.int .u64 s]/\j.isSome=z:=by cases j<;>exact⟨_,_,_,_,rfl,rfl⟩);(have HF:Hid (∀W,Dw κ V A n C l ws wr qc W->((EW κ V A n C l ws wr qc).toEnv.C 205 #[ϖ V,ϊ 0] W λe L=>e=ϱ (.tuple #[.agg #[.int .u64 i,ϊ u,.int .u64 v],ϐ y])/\(EW κ V A n C l ws wr qc).toEnv.To W L)/\((EW κ V A n C l ws wr qc).toEnv.C 205 #[ϖ V,ϊ 1] W λe L=>e=ϱ (.tuple #[.agg #[.int .u64 f,ϊ r,.int .u64 s],ϐ z])/\(EW κ V A n C l ws wr qc).toEnv.To W L)):=λW g=>by have k0:=OI g 0 k oM aj;have k1:=OI g 1 j oM ak;rw[K,H]at k0;rw[Q,I]at k1;exact⟨k0,k1⟩);(have HRES:Hid (∀q,(z=true->y=true->EY f i=q)->D0 (BY k j)=(if z && (!y || q) then .agg #[.int .u64 f,ϊ r,.int .u64 s] else .agg #[.int .u64 i,ϊ u,.int .u64 v])/\(BY k j).isSome=(z || y)):=λq hq=>by cases k with|none=>(cases j with|none=>subst H;subst I;exact⟨by simpa [BY] using K,rfl⟩|some b=>subst H;subst I;exact⟨by simpa [BY] using Q,rfl⟩)|some a=>cases j with|none=>subst H;subst I;exact⟨by simpa [BY] using K,rfl⟩|some b=>subst H;subst I;(have e0:a.1=i:=by have h:=K;simp[D0,Cy]at h;exact h.1);(have e1:b.1=f:=by have h:=Q;simp[D0,Cy]at h;exact h.1);have G:=hq rfl rfl;rw[<-e0,<-e1]at G;cases q with|true=>exact⟨by simpa [BY,G] using Q,by simp[BY,G]⟩|false=>exact⟨by simpa [BY,G] using K,by simp[BY,G]⟩);go_enter func140,ntmps140;go_wp2_with fail;have P:(EW κ V A n C l ws wr qc).toEnv.To w (w.alloc<|ϲ #[.int .u64 0,ϊ 0,.int .u64 0] 166):=Env.To.of0 (ξ hd)<|kF.alloc _;apply Env.call (HF _ P.dev).1 P;rintro e Z ⟨rfl,ae⟩;have ab:Kp [A] _ Z:=ae.kp;have ad:=ab.heap (φ w<|ϲ #[.int .u64 0,ϊ 0,.int .u64 0] 166) sO;have:=U ad;have:=P.kp.size;have:=ab.size;have ah:=ξ<|P.trans ae;go_wp2_with fail;have X:(EW κ V A n C l ws wr qc).toEnv.To w (Z.alloc<|ϲ #[.int .u64 i,ϊ u,.int .u64 v] 166):=ah.out.tail<|kF.alloc _;apply Env.call (HF _ X.dev).2 X;rintro e R ⟨rfl,af⟩;have O:Kp [A] _ R:=af.kp;have S:Dw κ V A n C l ws wr qc R:=af.dev;have c:=O.heap (ψ _ ad) sO;have t:=O.heap (φ Z<|ϲ #[.int .u64 i,ϊ u,.int .u64 v] 166) sO;have T:Kp [A] w R:=X.kp.trans O λ_ h _=>h;have:=O.size;have:=U t;have:=U c;cases z with|false=>have m:=Y c 0;have o:=Y c 1;have p:=Y c 2;have:=ω c;have B:=Y t 0;have D:=Y t 1;have E:=Y t 2;simp at m o p B D E;go_wp2;have x:=ψ (ϲ #[.int .u64 f,ϊ r,.int .u64 s] 166)<|η (η (η c 0<|.int .u64 i) 1<|ϊ u) 2<|.int .u64 v;refine aG (G7 results140 _ _ (ϳ w) 166 _ _ _ rfl x underlying166 rfl kR) rfl (.inr ⟨by have h:=HRES.out true sM;simp[Bool.false_and,Bool.false_or]at h;rw[h.1,h.2];rfl,(S.qK4 (L3 (ϳ w) _ _ _ _)<|AH.one c dC).qK5<|kF.alloc _,(((T.sc _).sc _).sc _).alloc _⟩)|true=>cases y with|false=>have m:=Y c 0;have o:=Y c 1;have p:=Y c 2;have:=ω c;simp at m o p;go_wp2;have x:=ψ (ϲ #[.int .u64 f,ϊ r,.int .u64 s] 166)<|η (η (η c 0<|.int .u64 f) 1<|ϊ r) 2<|.int .u64 s;refine aG (G7 results140 _ _ (ϳ w) 166 _ _ _ rfl x underlying166 rfl kR) rfl (.inr ⟨by have h:=HRES.out true sM;simp[gH,Bool.true_or,Bool.and_self,Bool.or_false]at h;rw[h.1,h.2];rfl,(S.qK4 (L3 (ϳ w) _ _ _ _)<|AH.one c dC).qK5<|kF.alloc _,(((T.sc _).sc _).sc _).alloc _⟩)|true=>have m:=Y c 0;have o:=Y c 1;have p:=Y c 2;have:=ω c;have B:=Y t 0;have D:=Y t 1;have E:=Y t 2;simp at m o p B D E;go_wp2_with fail;apply(YK _ _ _ _ _ _ _).mono;obtain⟨q,ag⟩:=eY<|EY f i;rw[ag];have HR:=ξ<|HRES q λ_ _=>ag;rintro e w3 ⟨rfl,ai⟩;have F:=Kp.qL4 ai lR;have d:=F.heap (ψ _ c) sM;have aa:=(S.qK5<|kF.alloc _).qK5 F;have M:=F.heap (ψ _ t) sM;have N:=F.heap (φ R<|ϲ #[.int .u64 f,ϊ r,.int .u64 s] 166) sM;have ac:=(T.alloc _).tr F;have:=U d;have:=U M;have:=U N;cases q with|false=>have m:=Y d 0;have o:=Y d 1;have p:=Y d 2;have:=ω d;have B:=Y M 0;have D:=Y M 1;have E:=Y M 2;simp at m o p B D E;go_wp2;have x:=η (η (η d 0<|.int .u64 i) 1<|ϊ u) 2<|.int .u64 v;refine aG (G7 results140 _ _ (ϳ w) 166 _ _ _ rfl x underlying166 rfl kR) rfl (.inr ⟨by have h:=HR.out;simp[fW,Bool.or_self,Bool.and_false,gF]at h;rw[h.1,h.2];rfl,aa.qK4 (L3 (ϳ w) _ _ _ _)<|AH.one d dC,((ac.sc _).sc _).sc _⟩)|true=>have m:=Y d 0;have o:=Y d 1;have p:=Y d 2;have:=ω d;have B:=Y N 0;have D:=Y N 1;have E:=Y N 2;simp at m o p B D E;go_wp2;have x:=η (η (η d 0<|.int .u64 f) 1<|ϊ r) 2<|.int .u64 s;refine aG (G7 results140 _ _ (ϳ w) 166 _ _ _ rfl x underlying166 rfl kR) rfl (.inr ⟨by have h:=HR.out;simp[gF,Bool.and_self]at h;rw[h.1,h.2];rfl,aa.qK4 (L3 (ϳ w) _ _ _ _)<|AH.one d dC,((ac.sc _).sc _).sc _⟩)
variable {κ:Nat}
def qK1(k:Nat):∀v∈(Builtin.zeroCells zeroCells115 k).toList,v=.int .u8 0:=by intro v hv;unfold Builtin.zeroCells at hv;simp only[Array.toList_map,aQ]at hv;obtain⟨i,_,rfl⟩:=hv;have hlt:i % zeroCells115.size<zeroCells115.size:=Nat.mod_lt _ (by rw[Kv];decide);rw[getElem!_pos zeroCells115 (i % zeroCells115.size) hlt];exact MX _ sM
def qK0(k:Nat):Builtin.zeroCells zeroCells115 k=enc (List.replicate (k*128) 0):=by
 apply Array.ext';have h1:(Builtin.zeroCells zeroCells115 k).toList.length=k*128:=by rw[bL,size_zeroCells,Kv]
 have e:=List.eq_replicate_iff.2 ⟨h1,qK1 k⟩;rw[e];simp[enc,AT]
def Gt(l:List UInt8)(N z:Nat):List UInt8:=l.take (N*128)++List.replicate (z*128) 0
def Zq{l}{N z:Nat}(h:N*128<=l.length):(Gt l N z).length=(N+z)*128:=by simp[Gt];omega
def Zp{l}{N z k:Nat}(h:N*128<=l.length)(a:k<N):ρ (Gt l N z) k=ρ l k:=by unfold ρ Gt;rw[dK sO,aW sO,dU,cP];congr 1;omega
def Tr(N C κ:Nat)(p)(l)(w)(D:N<=1000)(f:1<=N->p=some (ϰ C 0))(n:w.heap[C]?=some (ϲ (enc l) 115))(e:N*128<=l.length):∃q r m a c,Sem.run prog (Builtin.append_ #[111,111] 111 #[.slice none 0 0,.slice p N κ]) w=.ok (.slice q N r) m/\Kp [] w m/\(1<=N->(q=some (ϰ a 0)/\r=c.length / 128)/\w.heap.size<=a)/\(a=C\/w.heap.size<=a)/\m.heap[a]?=some (ϲ (enc c) 115)/\N*128<=c.length/\∀k,k<N->ρ c k=ρ l k:=by let⟨i,hi,hiz⟩:=bR.1 Lr;simp[eU]at hiz;let⟨A,y,t⟩:=hiz;rcases iW N with rfl|s;refine⟨none,0,w,C,l,?_,kE _ _,λh=>absurd h oM,.inl rfl,n,e,λk d=>absurd d oM⟩;cases p<;>simp[Builtin.append_,cO underlying111,sizeOf,typeInfo,hi,Builtin.lenOf,Builtin.firstCells,loadCells,loadCellsFrom];have f:=f s;subst f;have g:=run_append_nil (P:=prog) w 111 111 115 i (.agg zeroCells115) underlying111 hi A (ϰ C 0) N κ (AT<|l.take<|N*128) (by rw[y];simp[AT];omega) (λj v b=>by (have x:(AT l)[j]?=some v:=by unfold AT at b |-;rw[List.map_take,aX]at b;split at b;exact b;cases b);rw[show((ϰ C 0):Addr).add j=(ϰ C j) by simp[Addr.add];omega,Y n j];simpa [enc] using x) oM oM (by rw[t];omega);have:=grownCap_ge w N 0 115;obtain⟨z,B⟩:∃z,grownCap w N 0 115=N+z:=⟨grownCap w N 0 115-N,oM⟩;rw[B,show N+z-N=z by omega,show(Value.agg zeroCells115).cells=zeroCells115 from rfl,qK0]at g;(have u:(AT<|l.take<|N*128).toArray++enc (List.replicate (z*128) 0)=enc (Gt l N z):=by simp[enc,AT,Gt]);rw[u]at g;have o:=Zq (z:=z) e;exact⟨_,_,_,w.heap.size,Gt l N z,g,((kE [] w).drew).alloc _,λ_=>⟨⟨rfl,by rw[o];omega⟩,lR⟩,.inr lR,φ w.drew _,by rw[o];omega,λk d=>Zp e d⟩
variable {κ:Kd}
structure AW(N:Nat)(l:ϣ)(b:ϥ)(a:ϣ):Prop where
 len:N*128<=a.length
 oth:∀k,k<N->k∉b.map Prod.fst->ρ a k=ρ l k
 sec:∀k,k<N->(ρ a k).take 32=(ρ l k).take 32\/∃x∈b,x.1=k/\(ρ a k).take 32=x.2.take 32
def Fm(l:List UInt8)(i s:Nat)(b:List UInt8):List UInt8:=l.take (i*128+s*32)++(b.drop (s*32)).take 32++l.drop (i*128+s*32+32)
def Mw(l b)(i s n:Nat)(g:n*128<=l.length)(f:i<n)(j:s<4)(e:b.length=128)(q:Nat):(Fm l i s b)[q]?=if i*128+s*32<=q/\q<i*128+s*32+32 then b[q-i*128]? else l[q]?:=by (have c:(l.take<|i*128+s*32).length=i*128+s*32:=by rw[lK];omega);(have d:((b.drop<|s*32).take 32).length=32:=by rw[lK,lD];omega);unfold Fm;rw[aA,gZ,c];split;rename_i h;rw[aO oM,aX,aR h];rename_i h;rw[gZ,d];split;rename_i a;rw[aR oM,aX,aR a,bU];congr 1;omega;rename_i a;rw[aO oM,bU];congr 1;omega
def qB9(l b)(i s n:Nat)(d:n*128<=l.length)(c:i<n)(e:s<4)(a:b.length=128):(Fm l i s b).length=l.length:=by unfold Fm;rw[lA,lA,lK,lK,lD,lD];omega
def qC0(l b)(i s n k:Nat)(d:n*128<=l.length)(c:i<n)(e:s<4)(a:b.length=128)(f:k≠i):ρ (Fm l i s b) k=ρ l k:=by refine List.ext_getElem? λq=>?_;simp only[ρ,aX,bU];split;rw[Mw l b i s n d c e a,aO oM];rfl
def qB8(l b)(i s n:Nat)(e:n*128<=l.length)(d:i<n)(f:s<4)(c:b.length=128):(ρ (Fm l i s b) i).take 32=if s=0 then b.take 32 else(ρ l i).take 32:=by refine List.ext_getElem? λq=>?_;simp[ρ,aX,bU];by_cases a:s=0;subst a;rw[aR rfl,aX];split;rw[aR oM,Mw l b i 0 n e d f c,aR oM];congr 1;omega;rfl;rw[aO a];simp[aX,bU];split;rw[aR oM,aR oM,Mw l b i s n e d f c,aO oM];rfl
def AW.none{N:Nat}{l}(h:N*128<=l.length):AW N l [] l:=⟨h,λ_ _ _=>rfl,λ_ _=>.inl rfl⟩
def AW.more{N:Nat}{l l2}{c ws'}(h:AW N l c l2)(b:∀x∈c,x∈ws'):AW N l ws' l2:=
 ⟨h.len,λk a d=>h.oth k a (λhm=>d (by let⟨x,hx,e⟩:=aQ.1 hm;exact aQ.2 ⟨x,b x hx,e⟩)),λk a=>(h.sec k a).imp_right λ⟨x,hx,e⟩=>⟨x,b x hx,e⟩⟩
structure EO(N i s:Nat)(b l a:ϣ):Prop where
 len:a.length=l.length
 oth:∀k,k≠i->ρ a k=ρ l k
 sec:(ρ a i).take 32=(ρ l i).take 32\/(1<=s/\(ρ a i).take 32=b.take 32)
def EO.skip{N i s:Nat}{b l l2}(h:EO N i s b l l2):EO N i (s+1) b l l2:=⟨h.len,h.oth,h.sec.imp_right λh=>⟨oM,h.2⟩⟩
def EO.put{N i s:Nat}{b l l2}(h:EO N i s b l l2)(j:N*128<=l.length)(c:i<N)(e:s<4)(a:b.length=128):EO N i (s+1) b l (Fm l2 i s b):=by (have d:N*128<=l2.length:=by rwa[h.len]);refine⟨(qB9 l2 b i s N d c e a).trans h.len,λk g=>(qC0 l2 b i s N k d c e a g).trans<|h.oth k g,?_⟩;rw[qB8 l2 b i s N d c e a];by_cases f:s=0;rw[aR f];exact .inr ⟨oM,rfl⟩;rw[aO f];exact h.sec.imp_right λh=>⟨oM,h.2⟩
def AW.one{N:Nat}{l n o:ϣ}{a:ϥ}{j:Nat}(p:j<a.length)(h:AW N l (a.take j) n)(d:EO N a[j].1 4 a[j].2 n o):AW N l (a.take (j+1)) o:=by have e:=tA p;refine⟨by rw[d.len];exact h.len,λk c g=>?_,λk c=>?_⟩;rw[e,cI,aH,bY]at g;exact(d.oth k λe=>g.2 (by simp[e])).trans<|h.oth k c g.1;by_cases b:k=a[j].1;rcases d.sec with m|⟨_,m⟩;rw[b,m,<-b];exact(h.sec k c).imp_right λ⟨x,i,f⟩=>⟨x,by rw[e];exact aI _ i,f⟩;exact .inr ⟨a[j],by rw[e];exact aK _<|List.mem_singleton_self _,b.symm,by rwa[b]⟩;rw[d.oth k b];exact(h.sec k c).imp_right λ⟨x,i,f⟩=>⟨x,by rw[e];exact aI _ i,f⟩
def ZF{x:Nat×ϣ}(h:x.2.length=128)(s:Nat)(b:s<4):Am (B5 x).toArray (1+s*32) 32=enc ((x.2.drop (s*32)).take 32):=by (have a:Am (B5 x).toArray (1+s*32) 32=Am (enc x.2) (s*32) 32:=by unfold Am;simp[B5,enc,iK 1]);rw[a,Ez]
def qB5:∀(s:Nat),s<4->∀(B o:Nat)(W:Ϣ),Sem.run prog (Instr.sliceAt 115 (ϗ (some (ϰ B o))) (some (ϊ ((s:Int)*32))) (some (ϊ ((s:Int)*32+32))) none) W=.ok (.slice (some (ϰ B (o+s*32))) 32 (128-s*32)) W
 |0,_=>λB o W=>by kernel_rfl|1,_=>λB o W=>by kernel_rfl|2,_=>λB o W=>by kernel_rfl|3,_=>λB o W=>by kernel_rfl|n+4,h=>absurd h oM
def MZ(N C:Nat)(l:ϣ)(g:ϥ)(w:Ϣ)(e:Ending)(d:Ϣ):Prop:=
 ∃a b c f,e=ϱ (ϖ a)/\w.heap.size<=a/\(b=C/\N=0\/w.heap.size<=b)/\f.told=0/\AW N l g c/\Dn f a N b c [] 0 [] d/\Kp [] w d
def Nm{A N C:Nat}{l}{ws}{wr:Int}{q}{w}(B:Dn κ A N C l ws wr q w)(T)(kv)(I:List Int)(Z:Ai w T 1 kv I.length (Du I))(ca:I.length<=100000):Ω 37 #[ϖ A,kv] w (MZ N C l ws w):=by
 obtain⟨kb,kc,rfl⟩:=DU Z;let⟨H,ah⟩:=eX I.length;rw[<-ah];have HY:Hid (Ai w T 1 (.slice kb H kc) H (Du I)/\H=I.length):=⟨by rw[ah];exact Z,ah⟩;have:H<=100000:=oM
 clear Z ah ca;let⟨cc,p,v,cd,_,h,hp,hO,_⟩:=B.hA;have hC:=B.hC;have hl:=B.len;have bv:=B.N1;have:=B.wl;have ad:=zh (n3 B.fit B.gl B.N1);obtain⟨bs,cp,rfl⟩:∃bs cp,v=.slice bs ws.length cp:=by
  rcases hO.2 with⟨rfl,bh⟩|⟨g,Q,z,rfl,_⟩
  .rw[bh];exact⟨_,_,rfl⟩
  .exact⟨_,_,rfl⟩
 clear B;let⟨r,n,w1,b,l',hr,F,b1,b2,b3,b4,b5⟩:=Tr N C κ.cap p l w bv hp hC hl;have m:=F.hp h;have:=U h;have bu:=U m;have ai:=F.size;have:=ϻ h 0;have z1:=ϻ m 1;clear h m hp hC hl;go_enter func37,ntmps37
 go_wp2_with (at_builtin;(with_reducible refine DW ?_ ?_ hr ?_);rfl;rfl)
 let⟨d,m⟩:=eX w1.heap.size;obtain⟨w2,av,ae,aa,af,bi⟩:∃w2,w2=w1.alloc (BQ r ⟨n,0,-1,0,0⟩ N (.slice none 0 0) 0 0)/\w2.heap[b]?=some (ϲ (enc l') 115)/\w2.heap[d]?=some (BQ r ⟨n,0,-1,0,0⟩ N (.slice none 0 0) 0 0)/\Kp [] w w2/\w2.heap.size=d+1:=
  ⟨_,rfl,ψ _ b3,by rw[m];exact φ w1 _,F.alloc _,by rw[m];simp⟩
 simp[BQ]at av;rw[<-av,<-m];have a5:b<d:=by rw[m];exact U b3
 have D:Hid ((b=C\/w.heap.size<=b)/\(1<=N->r=some (ϰ b 0)/\w.heap.size<=b)/\w.heap.size<=d/\b<d):=⟨b2,λh=>⟨(b1 h).1.1,(b1 h).2⟩,oM,a5⟩;clear av hr b1 b2 b3 F m z1 bu ai a5;have a0:Hid (AW N l [] l'):=⟨b4,λk hk _=>b5 k hk,λk hk=>.inl (by rw[b5 k hk])⟩;clear b4 b5
 go_loopw [21] (λk wr=>∃(j:Nat),j<=ws.length/\k=.int .i64 j/\d+1<=wr.heap.size/\∃L,Hid (AW N l (ws.take j) L)/\Hid (wr.heap[b]?=some (ϲ (enc L) 115))/\Hid (wr.heap[d]?=some (BQ r ⟨n,0,-1,0,0⟩ N (.slice none 0 0) 0 0))/\Hid (Kp [] w wr)) (λk _=>ws.length-(intOf k).toNat)
 case atStart=>exact⟨0,zL _,rfl,oM,_,sU a0,ae,aa,af⟩
 case round=>
  obtain⟨j,hj,rfl,b9,L,HL,HC,HA,HK⟩:=hrel;clear ae aa af bi a0;have aw:Hid (∀W:World,W.heap[b]?=some (ϲ (enc L) 115)->W.heap[d]?=some (BQ r ⟨n,0,-1,0,0⟩ N (.slice none 0 0) 0 0)->Kp [] w W->MZ N C l ws w (.returned (ϖ d)) W):=λW R E V=>
   ⟨d,b,L,⟨n,0,-1,0,0⟩,rfl,D.2.2.1,(by rcases Nat.eq_zero_or_pos N with h | h;exact D.1.imp_left λe=>⟨e,h⟩;exact .inr (D.2.1 h).2),rfl,HL.more (λx hx=>mT hx),Dn.new E (λh=>(D.2.1 h).1) R (ad.2.1.qK4 V (by intro k hk;cases hk)) HL.len ad.2.2,V⟩
  have ax:=ξ (aw wr HC HA HK);by_cases au:j<ws.length
  .have:(j:Int)<(ws.length:Int):=oM
   let⟨bf,ag⟩:=ad.out.1 ws[j] (gM au);let⟨aq,ap,bc,bb⟩:=Ru ag;obtain⟨g,Q,z,bj,hg,bz,be⟩:∃g Q z,Value.slice bs ws.length cp=.slice (some (ϰ g 0)) ws.length Q/\w.heap[g]?=some (ϲ z 117)/\ws.length*129<=z.size/\Am z (j*129) 129=(B5 ws[j]).toArray:=by
    rcases hO.2 with⟨_,bh⟩|⟨g,Q,z,R,_,E,V,_,h4,h5⟩
    .omega
    .exact⟨g,Q,z,R,E,by rw[h4];exact Nat.mul_le_mul_right _ V,Rt ad.1 h5 j au⟩
   simp[vJ,true_and]at bj;obtain⟨rfl,rfl⟩:=bj;have ar:=HK.out.hp hg;have al:Hid (∀f,EO N ws[j].1 4 ws[j].2 L f->AW N l (ws.take (j+1)) f):=λf E=>AW.one au HL E;have ac:=zh (λs hs=>ZF ag s hs);have M:=zh (n2 bf ag);have a1:=zh HL.len;have bn:=ξ (D.2.1 oM).2;have bq:=ξ (D.2.1 oM).1;let⟨X,hX⟩:=eX ((B5 ws[j]).toArray);let⟨i,hi⟩:=eX (ws[j].1);let⟨P,bd⟩:=eX (ws[j].2);rw[<-hX]at aq ap bc bb be ac;rw[<-hi]at ap al M bf;rw[<-bd]at bc al M ac;have b6:j*129+129<=ws.length*129:=oM
   clear hX hi bd ag hg;have b0:=U ar
   go_wp2_with (
    with_reducible refine GE (t:=117) ?_ 129 ?_ g (j*129) ?_ z 117 (0,0) ?_ ?_ ?_
    .kernel_rfl
    .kernel_rfl
    .rfl
    .exact ar
    .omega)
   have hN:=φ wr (ϲ zeroCells117 117);rw[E1 hN (by simp[EE,aq]) bb];obtain⟨u,a9,F,m,am,ao,ai⟩:∃u,u=(wr.alloc (ϲ zeroCells117 117)).setRow wr.heap.size (Cz zeroCells117 0 X.toList.toArray)/\Kp [] w u/\
     u.heap[d]?=some (BQ r ⟨n,0,-1,0,0⟩ N (.slice none 0 0) 0 0)/\u.heap[b]?=some (ϲ (enc L) 115)/\u.heap[wr.heap.size]?=some (ϲ X 117)/\u.heap.size=wr.heap.size+1:=
    ⟨_,rfl,(HK.alloc _).setRow (Or.inr HK.size) _,(setRow_other _ _ _ _ (Nat.ne_of_lt (U HA))).trans (ψ _ HA),(setRow_other _ _ _ _ (Nat.ne_of_lt (U HC))).trans (ψ _ HC),by
     rw[setRow_heap _ _ _ _ _ _ hN,Eu (by simp[EE,aq])],sM⟩
   rw[<-a9];clear a9 hN;have ay:=ξ (aw u am m F);let⟨o,a6⟩:=eX wr.heap.size;have bw:d+1<=o:=oM
   rw[<-a6]at ao ai |-;have bt:=zh (n2 bw ai);clear ar b0 ax HC HA HK b9 be bz b6 a6;by_cases ce:j<H
   .have:¬(H:Int)<=(j:Int):=oM
    obtain⟨gk,ko,y,rfl,bg⟩:∃gk ko y,kb=some (ϰ gk ko)/\∀W:World,Kp [] w W->W.cell? (ϰ gk (ko+j))=some (ϊ y)/\gk<W.heap.size:=by
     have Z:=HY.out.1;rw[HY.out.2]at Z;let⟨g,cb,Q,z,fr,R,E,V⟩:=Z.ints (oW HY.out.2);simp[vJ]at R;refine⟨g,cb,I[j]'(oW HY.out.2),R.1,λW hW=>⟨?_,U (hW.hp E)⟩⟩;rw[Y (hW.hp E)];exact V j _
    have bp:=Hid.mk' bg;clear bg;go_wp2;have az:Hid (u.heap[b]?=some (ϲ (enc L) 115)/\EO N i 0 P L L):=⟨am,rfl,λ_ _=>rfl,.inl rfl⟩
    go_loopw [8] (λk wq=>∃(s:Nat),s<=4/\k=.int .i64 s/\o+1<=wq.heap.size/\∃f,Hid (wq.heap[b]?=some (ϲ (enc f) 115)/\EO N i s P L f)/\Hid (wq.heap[d]?=some (BQ r ⟨n,0,-1,0,0⟩ N (.slice none 0 0) 0 0))/\Hid (wq.heap[o]?=some (ϲ X 117))/\Hid (Kp [] w wq)) (λk _=>4-(intOf k).toNat)
    case atStart=>exact⟨0,oM,rfl,oM,L,az,m,ao,F⟩
    case round=>
     obtain⟨s,hs,rfl,b8,f,O,ak,a3,ab⟩:=hrel;clear m am ao F az ay;by_cases aj:s<4
     .have:(s:Int)<4:=oM
      let⟨yc,bk⟩:=bp.out _ ab.out;have:=Hid.mk' bk;clear bk;have a4:=ak.out;have a8:=a3.out;have an:=O.out.1;have a2:=zh (n2 O.2.skip (O.2.put a1 M.1 aj M.2));go_wp2_with fail
      rotate_left
      .exact⟨⟨s+1,oM,by go_num,b8,f,⟨an,a2.1⟩,ak,a3,ab⟩,iO⟩
      have:IntKind.i64.wrap ((s:Int)*32)=(s:Int)*32:=by rw[wK];omega
      have:IntKind.i64.wrap ((s:Int)+1)=(s:Int)+1:=by rw[wK];omega
      have:IntKind.i64.wrap (((s:Int)+1)*32)=(s:Int)*32+32:=by rw[wK];omega
      have:=qB5 s aj;have a:wr.drew.heap[d]?=some (BQ r ⟨n,0,-1,0,0⟩ N (.slice none 0 0) 0 0)/\wr.drew.heap[o]?=some (ϲ X 117):=⟨a4,a8⟩;refine wp_region_held_drew (S:=λW=>W.heap[d]?=some (BQ r ⟨n,0,-1,0,0⟩ N (.slice none 0 0) 0 0)/\W.heap[o]?=some (ϲ X 117)) kR a (λ_=>?_);refine zP 0 d 0 a ?_;refine zV 1 (ϖ d) rfl (λW hS=>by have:=U hS.1;go_simp) a ?_;refine zP 2 d 0 a ?_;refine zV 3 (.slice (some (ϰ b 0)) N n) rfl (λW hS=>by have c:=Y hS.1 0;simp[BQ,zG,zH,bq.out]at c;go_simp) a ?_;refine zP 4 o 0 a ?_;refine zV 5 (ϊ i) rfl (λW hS=>by have c:=Y hS.2 0;rw[ap]at c;go_simp) a ?_;refine zU 6 (.pointer (some (ϰ b (i*128)))) a ?_;refine zU 7 (ϊ s) a ?_;refine zU 8 (ϊ ((s:Int)*32)) a ?_;refine zU 9 (ϊ s) a ?_;refine zU 10 (ϊ ((s:Int)+1)) a ?_;refine zU 11 (ϊ ((s:Int)*32+32)) a ?_;refine zU 12 (.slice (some (ϰ b (i*128+s*32))) 32 (128-s*32)) a ?_;refine zP 13 o 1 a ?_;refine zU 14 (ϊ s) a ?_;refine zU 15 (ϊ ((s:Int)*32)) a ?_;refine zU 16 (ϊ s) a ?_;refine zU 17 (ϊ ((s:Int)+1)) a ?_;refine zU 18 (ϊ ((s:Int)*32+32)) a ?_;refine zU 19 (.slice (some (ϰ o (1+s*32))) 32 (128-s*32)) a ?_;have:N*128<=f.length:=by rw[O.out.2.len];exact a1
      have bx:((P.drop (s*32)).take 32).length=32:=by rw[lK,lD,M.out.2];omega
      refine zq 20 λK hK=>?_;refine BF rfl (OD rfl underlying118 Tryz.qO8 b (i*128+s*32) 32 (128-s*32) o (1+s*32) 32 (128-s*32) 32 rfl rfl dC (show wr.drew.heap[b]?=some (ϲ (enc f) 115) from an) a.2 (by rw[CF];have:=M.out.1;omega) oM (by rw[ac.out s aj];exact(Ds _).one)) ?_;rw[ac.out s aj,Lz,bx];obtain⟨G,ba,ae,aa,a7,af,bi⟩:∃G,G=wr.drew.setRow b (enc (f.take (i*128+s*32)++(P.drop (s*32)).take 32++f.drop (i*128+s*32+32)))/\G.heap[b]?=some (ϲ (enc (Fm f i s P)) 115)/\G.heap[d]?=some (BQ r ⟨n,0,-1,0,0⟩ N (.slice none 0 0) 0 0)/\G.heap[o]?=some (ϲ X 117)/\Kp [] w G/\G.heap.size=wr.heap.size:=
       ⟨_,rfl,setRow_heap wr.drew _ _ _ _ _ an,(setRow_other wr.drew _ _ _ (oW D.out.2.2.2)).trans a4,(setRow_other wr.drew _ _ _ (oX bt.out D.out.2.2.2)).trans a8,(ab.drew).setRow (Or.inr bn) _,sM⟩
      rw[<-ba];clear ba;refine hK.out _ _ ⟨aa,a7⟩ (λ_=>?_);refine zd ?_
      try simp[zZ]
      have HE:=zh (n2 ae a2.2);have bm:=Hid.mk' aa;have br:=Hid.mk' a7;have bo:=Hid.mk' af;go_wp2;exact⟨⟨s+1,oM,by go_num,oM,Fm f i s P,HE,bm,br,bo⟩,iO⟩
     .have:¬(s:Int)<4:=oM
      have b7:s=4:=oM
      subst b7;have HE:=zh (al f O.2);go_wp2;exact⟨⟨j+1,oM,by go_num,oM,f,HE,O.1,ak,ab⟩,iO⟩
   .have:(H:Int)<=(j:Int):=oM
    go_wp2;go_ret;exact ay
  .have:¬(j:Int)<(ws.length:Int):=oM
   go_wp2;go_ret;exact ax
def AW.laid{N:Nat}{l}{a}(e:N*128<=l.length)(d:∀x∈a,x.1<N/\x.2.length=128):AW N l a (laidAll l a):=by (have h:∀j,j<=a.length->AW N l (a.take j) (laidAll l<|a.take j):=by intro j;induction j with|zero=>intro _;simpa [laidAll] using AW.none e|succ j ih=>intro i;have c:j<a.length:=oM;have b:=d a[j]<|gM c;have f:=Dy N (a.take j) l e λx b=>d x<|mT b;rw[Ly l a j c];refine AW.one c (ih oM) ⟨qB7 _ _ _ ?_,λk g=>Eo _ _ _ k N b.2 f b.1 g,.inr ⟨oM,by rw[DM _ _ _ N b.2 f b.1]⟩⟩;rw[b.2];have:(a[j].1+1)*128<=N*128:=bI 128 b.1;omega);have:=h a.length lR;rwa [gV]at this
def Qc{n:Nat}{m}{x:Nat×Int}(h:m.ref=some x):news n m=0:=by cases n<;>simp[news,h]
def Mc{N:Nat}{l}:∀(n:Nat)(L),C9 N l n L->Hd n L
 |0,L,h=>trivial|n+1,L,h=>by refine⟨λe=>?_,λm b=>Mc n m<|JZ h n rfl m b⟩;let⟨x,f⟩:=Option.isSome_iff_exists.1 e;(have i:∀c:List (θ<|Tn n),(∀m∈c,news n m=0)->qK3 (news n) c=0:=λc=>by induction c with|nil=>intro _;rfl|cons a r ih=>intro d;rw[AV,d a sM,ih λm b=>d m (by simp[b])]);refine i _ λm b=>?_;let⟨y,g,_⟩:=(GU<|h.1 x f) m b;exact Qc g
def ol:(n:Nat)→θ (Tn n)→List (Nat×List KV)
 | 0,l=>match l.ref with | some x=>[(x.1,ζ l.sub)] | none=>[]
 | n+1,l=>(J l.sub).flatMap (ol n)
def ON{c e:Type}{f g:c->List e}:∀(l:List c),(∀a∈l,(f a).Sublist (g a))->(l.flatMap f).Sublist (l.flatMap g)
 |[],_=>List.Sublist.refl _|a::l,h=>by rw[fC,fC];exact(h a sM).append<|ON l λb d=>h b (by simp[d])
def Ql:∀(n:Nat) (l:θ (Tn n)),((ol n l).flatMap Prod.snd).Sublist (cont n l.sub)
 |0,l=>by unfold ol;split;show(ζ l.sub++[]).Sublist<|ζ l.sub;rw[aN];exact List.Sublist.refl _;exact List.nil_sublist _|n+1,l=>by show(((J l.sub).flatMap<|ol n).flatMap Prod.snd).Sublist<|(J l.sub).flatMap λm=>cont n m.sub;rw[List.flatMap_assoc];exact ON _ λm _=>Ql n m
def L8{N:Nat}{l}:∀(n:Nat)(L),C9 N l n L->∀y∈ol n L,y.1<N/\ρ l y.1=ι (Az 0 y.2 [])/\(∀p∈y.2,A2 p)/\2+qK3 μ y.2<=128/\y.1∈CA n L
 | 0,L,h,y,a=>by
  unfold ol at a
  cases hx:L.ref with
  | none=>rw[hx]at a;cases a
  | some x=>
   rw[hx]at a;rw[mS a];let⟨r,j,s,k,o,q,t⟩:=h x hx;exact⟨j,k,o,q,by rw[EH hx];simp[CJ]⟩
 | n+1,L,h,y,a=>by
  let⟨m,b,a⟩:=mF a;let⟨e,f,g,i,c⟩:=L8 n m (JZ h n rfl m b) y a;refine⟨e,f,g,i,?_⟩
  cases hx:L.ref with
  | none=>simp[CA,hx,aS];exact⟨m,b,c⟩
  | some x=>
   rw[EH hx];let⟨z,d,_⟩:=GU (h.1 x hx) m b;simp[CJ,mC,aS];refine .inr ⟨m,b,?_⟩;rw[d];rwa[EH d]at c
def Qk:∀(n:Nat)(l)(lo),Ay n lo l.sub->1<=cnt n l.sub->∀y∈ol n l,y.2≠[]
 |0,l,lo,hg,hc,y,a=>by unfold ol at a;split at a;rw[mS a];intro e;have b:1<=(ζ l.sub).length:=hc;rw[show ζ l.sub=[] from e]at b;exact absurd b dC;cases a|n+1,l,lo,hg,hc,y,a=>by let⟨m,d,a⟩:=mF a;have c:=hg.all m d;exact Qk n m m.key c.1 oM y a
def PP:∀(n:Nat)(l),Hd n l->lf n l.sub<=(ol n l).length+news n l
 |0,l,_=>by unfold ol lf news;cases l.ref<;>simp|n+1,l,h=>by have:=h.sum;(have e:∀b:List (θ<|Tn n),(∀m∈b,Hd n m)->qK3 (λm:θ (Tn n)=>lf n m.sub) b<=(b.flatMap<|ol n).length+qK3 (news n) b:=λb=>by induction b with|nil=>intro _;simp[qK3]|cons a r ih=>intro c;have:=ih λm d=>c m (by simp[d]);have:=PP n a<|c a sM;rw[AV,AV,fC,lA];omega);have:=e (J l.sub) h.2;show qK3 (λm:θ (Tn n)=>lf n m.sub) (J l.sub)<=((J l.sub).flatMap<|ol n).length+_;omega
def YW{N:Nat}{l}{n:Nat}{L}(o:C9 N l n L)(d:Ay n L.key L.sub)(k:1<=cnt n L.sub):((ol n L).map Prod.fst).Nodup:=by have c:=L8 n L o;refine List.pairwise_map.2<|((List.pairwise_flatMap.1<|(De n L.key L.sub d).1.sublist<|Ql n L).2).imp_of_mem λ{x y} f t s=>?_;intro e;let⟨A,g,a,B,_⟩:=c x f;let⟨C,u,b,D,_⟩:=c y t;rw[e,u]at g;have v:=Iv x.2 a;have w:=Iv y.2 b;have h:=Fp (Cj 0 y.2 [] oM oM sO b sM) (Cj 0 x.2 [] oM oM sO a sM) g;let⟨_,m,q,z,i⟩:=FJ h;have j:=IG y.2 x.2 _ _ b a (sU m) i;let⟨p,r⟩:=List.exists_mem_of_ne_nil _<|(Qk n L L.key d k) x f;have:=s p r p (by rwa[j]);rw[DQ]at this;cases this
def PN{N:Nat}{l:ϣ}{r:Ah}(f:Da N l r)(k:AE r)(c:Ϥ)(j:c.Nodup)(h:∀b∈c,b<N)(t:∀b∈c,b∉CV r):r.lf+c.length<=N+r.news:=by cases r with|none=>have:=Ld j h;show 0+c.length<=N+0;omega|«at» n L=>have m:=YW f k.2.1<|oW k.2.2;have i:=L8 n L f;have:=PP n L<|Mc n L f;have o:=List.nodup_append.2 ⟨m,j,λa q b s e=>by obtain⟨y,g,rfl⟩:=aQ.1 q;exact t b s (by rw[<-e];exact(i y g).2.2.2.2)⟩;have p:=Ld o (λx d=>by rcases mA d with d|d;obtain⟨y,g,rfl⟩:=aQ.1 d;exact(i y g).1;exact h x d);rw[lA,bV]at p;show lf n L.sub+c.length<=N+news n L;omega
def PO{N:Nat}{l}{r}(b:Da N l r)(a:AE r):r.lf<=N+r.news:=by have:=PN b a [] List.nodup_nil sM sM;simpa using this
def Mb{N:Nat}{l}{r}(a:Da N l r):∀L,r=.at 6 L->L.ref=none:=λL e=>by
 subst e
 cases hx:L.ref with
 | none=>rfl
 | some x=>have:=(Qn a hx).at;omega
def L9{N:Nat}{l}{r}(a:Da N l r):r.hd:=by cases r with|none=>trivial|«at» n L=>exact Mc n L a
def D2(l:List KV)(i:Int):Option KV:=if i<0 then none else l[i.toNat]?
def VZ(l):(l.find? λ_=>true)=D2 l 0:=by cases l with|nil=>rfl|cons a l=>rfl
def XJ(l):BJ (λ_=>true) l=D2 l ((l.length:Int)-1):=by rcases dY l with rfl|⟨a,x,rfl⟩;rfl;rw[eA,Gi,Ps (by rfl),D2,aO sM];simp only[Option.some_or,lA,jO];rw[show(((a.length+1:Nat):Int)-1).toNat=a.length by omega];simp
def qB6(l)(k):(l.find? λq=>!kl q.k k)=D2 l (Aw l k:Nat):=by rw[Lf,D2,aO oM,dD];rfl
def J5{l}(c:AJ l){i j:Nat}(a:i<l.length)(b:j<l.length)(h:i<j):kl l[i].k l[j].k=true:=pG c i j a b h
def MB{l}(c:AJ l){j:Nat}(a:j<l.length):Aw l l[j].k=j:=by rw[Aw,List.findIdx_eq a];refine⟨by simp[DQ],λi b=>?_⟩;simp[J5 c oM a b]
def YL{l}(c:AJ l){j:Nat}(b:j<l.length):(l.find? λq=>kl l[j].k q.k)=D2 l ((Aw l l[j].k:Nat)+1):=by rw[MB c b,D2,aO oM,show((j:Int)+1).toNat=j+1 by omega];(have f:∀i (a:i<l.length),i<=j->kl l[j].k l[i].k=false:=λi a hle=>by by_cases e:i=j;subst e;exact DQ _;exact ER<|J5 c a b oM);rw[Lf];by_cases d:j+1<l.length;congr 1;rw[List.findIdx_eq d];exact⟨J5 c b d oM,λi a=>f i oM oM⟩;(have:l.findIdx (λq=>kl l[j].k q.k)=l.length:=List.findIdx_eq_length.2 λq hq=>by obtain⟨i,a,rfl⟩:=gO hq;simp[f i a oM]);rw[this,gN lR,gN oM]
def ZO{l}(c:AJ l){j:Nat}(d:j<l.length):BJ (λk=>kl k l[j].k) l=D2 l ((Aw l l[j].k:Nat)-1):=by rw[MB c d];have g:l.findIdx (λq=>!kl q.k l[j].k)=j:=MB c d;rw[Pt (f:=λk=>kl k l[j].k) (λa b h hb=>D4 h hb) c (i:=j-1) (by rw[g]) oM];by_cases e:j=0;subst e;rw[aO (by simp[DQ]),D2,aR oM];rw[aR<|J5 c oM d oM,D2,aO oM,show((j:Int)-1).toNat=j-1 by omega,gQ oM]
