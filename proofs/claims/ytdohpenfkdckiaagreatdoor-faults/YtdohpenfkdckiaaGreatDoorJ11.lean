import Derived.Test.YtdohpenfkdckiaaGreatDoorJ10
set_option linter.all false
set_option maxRecDepth 100000
set_option maxHeartbeats 0
namespace Go.Proofs.YtdohpenfkdckiaaGreatDoor
open Go.Proofs.Tryz Go.RowKit
namespace Gw
def Iq(I:DInv)(base c:Nat)(T:Int)(d:List I.G)(k x y a b:Int)(s t)(w)(h:WOk I base T w c d)
  (H:∀w,WOk I base T w c d->Ω 78 #[ϖ c,.agg #[ϊ k,ϊ x,ϊ y,ϊ a,ϊ b,ϕ s,ϕ t]] w λe w'=>e=ϱ (ϐ true)/\(∃ds',WOk I base (T+2) w' c ds')/\Below base w w'):
  Ω 40 #[ϖ c,.agg #[ϊ k,ϊ x,ϊ y,ϊ a,ϊ b,ϕ s,ϕ t]] w λe w'=>e=ϱ (ϐ true)/\(∃ds',WOk I base (T+2) w' c ds')/\Below base w w':=by
 have f:Kp [] w (w.alloc (ϲ #[ϊ k,ϊ x,ϊ y,ϊ a,ϊ b,ϕ s,ϕ t] 66)):=kF.alloc _;go_enter func40,ntmps40;go_wp2_with fail;refine(H _ (h.same f (iR _))).mono ?_;rintro e g ⟨rfl,⟨ds',h1⟩,h2⟩;go_wp2;go_ret;exact⟨rfl,⟨ds',h1⟩,(zh (f.below h.hbs sM)).trans h2⟩
def Qd(I:DInv)(base d:Nat)(T:Int)(c:List I.G)(k x y a b:Int)(s t)(w)(h:WOk I base T w d c)
  (H:∀w,Ω 78 #[ϖ d,.agg #[ϊ k,ϊ x,ϊ y,ϊ a,ϊ b,ϕ s,ϕ t]] w λe w'=>e=ϱ (ϐ false)/\Kp [] w w') (m:c.length=0\/k<1):
  Ω 40 #[ϖ d,.agg #[ϊ k,ϊ x,ϊ y,ϊ a,ϊ b,ϕ s,ϕ t]] w λe w'=>e=ϱ (ϐ true)/\(∃ds',WOk I base (T+2) w' d ds')/\Below base w w':=by
 have n:=H (w.alloc (ϲ #[ϊ k,ϊ x,ϊ y,ϊ a,ϊ b,ϕ s,ϕ t] 66));clear H;go_enter func40,ntmps40;go_wp2_with fail;refine n.mono ?_;rintro e o ⟨rfl,i⟩;have g:Hid (Kp [] w o):=(kF.alloc _).tr i;have f:=zh (h.same g (iR _));have j:=i.heap (μ w (ϲ #[ϊ k,ϊ x,ϊ y,ϊ a,ϊ b,ϕ s,ϕ t] 66)) sM;let⟨B,nk,q,xs,A,p,l,r,u,v⟩:=f.out.hW;have:=U l;have:=U j;have:=ϻ l 1;have:=ϻ j 0;by_cases z:(c.length:Int)=0
 .clear m;go_wp2;go_ret;exact⟨rfl,⟨c,f.same kF oM⟩,g.below h.hbs sM⟩
 .have:k<1:=oM
  clear m;have:¬20<k:=oM
  have:k<10:=oM
  go_wp2
  all_goals
   go_ret;exact⟨rfl,⟨c,f.same kF oM⟩,g.below h.hbs sM⟩
def LD(I:DInv)(k:Int):Prop:=∀(base c:Nat)(T:Int)(ds:List I.G)(x y a b:Int)(s t:Ϧ)(w:Ϣ),WOk I base T w c ds->T<=60000->I64 x->I64 a->I64 b->1<=ds.length->
 Ω 124 #[ϖ c,.agg #[ϊ k,ϊ x,ϊ y,ϊ a,ϊ b,ϕ s,ϕ t]] w λe w'=>e=ϱ (ϐ true)/\(∃ds',WOk I base (T+2) w' c ds')/\Below base w w'
def TB(I:DInv):LD I 5:=λbase c T d x y a b s t w h j i e f g=>Zo I base c T d x y a b s t w h oM i e f g
def qF5(I:DInv)(ks:List Int)(u:∀k∈ks,(5<=k/\k<=9/\LD I k)\/(10<=k/\k<=20))(O:DOps I ks):IT I ks:=by
 intro base c T d o w h r q m;let⟨k,x,y,a,b,s,t⟩:=o;let⟨g,j⟩:=r;simp only at g |-;by_cases f:k<1
 .exact Qd I base c T d k x y a b s t w h (λe=>Zy c k x y a b s t e f) (Or.inr f)
 by_cases l:k=3
 .exact Iq I base c T d k x y a b s t w h (λe f=>l ▸ Zw I base c T d x y a b s t e f oM)
 rcases g with g|g
 .have l:k=1\/k=2:=oM
  rcases l with rfl|rfl
  .exact Iq I base c T d 1 x y a b s t w h (λe f=>Zx I base c T d x y a b s t e f oM)
  .exact Iq I base c T d 2 x y a b s t w h (λe f=>Zz I base c T d x y a b s t e f)
 .rcases u k g with⟨i,p,v⟩|i
  .exact Iq I base c T d k x y a b s t w h (λe f=>ZA I base c T d k x y a b s t e f i p λw2 g1 g2=>v base c T d x y a b s t w2 g1 m j.x j.a j.b g2)
  by_cases n:d.length=0
  .exact Qd I base c T d k x y a b s t w h (λe=>Pq c k x y a b s t e oM) (Or.inl n)
  .exact qF4 I ks O base c T d k x y a b s t w h q m j g i.1 i.2 n
end Gw
def Xq{k}(h:1<=k.size):kl ⟨#[]⟩ k=true:=by
 by_cases e:kl ⟨#[]⟩ k=true
 .exact e
 .have c:=FT (a:=⟨#[]⟩) (b:=k) (sU e) (CW k);rw[<-c]at h;exact absurd h dC
def qF8(κ)(V A N C:Nat)(l)(ws)(wr:Int)(qc)(n b:Nat)(s:Int)(L)(w)(E:Dw κ V A N C l ws wr qc w)(f:Laid N (laidAll l ws) n b s L.sub)(H:L.ref=some (b,s))(g:RGood (.at n L))(ai:Am n L.sub<=100000):
  (EW κ V A N C l ws wr qc).toEnv.C 144 #[θ V ⟨⟨#[]⟩,b,s,none⟩] w λe w'=>e=ϱ (ϊ (Am n L.sub))/\Dw κ V A N C l ws wr qc w'/\Kp [A] w w':=by
 have F:Lie N (laidAll l ws) b s (.at n L):=⟨b,rfl,H,f⟩;have x:=g.1;have y:Hid (∀W,Kp [] w W->Ω 92 #[θ V ⟨⟨#[]⟩,b,s,none⟩] W λe w'=>e=ϱ (.bool false)/\Kp [] W w'):=λW hW=>by
  have hr:RR (EW κ V A N C l ws wr qc).toEnv W ⟨⟨#[]⟩,b,s,none⟩ (.at n L):=F.rr g W;exact EQ (EW κ V A N C l ws wr qc).toEnv n ⟨⟨#[]⟩,b,s,none⟩ L W hr x
 have u:Good n ⟨#[]⟩ L.sub:=by have:=g.2.1;rw[x]at this;exact this
 have P:Hid (∀W G,Dw κ V A N C l ws wr qc W->W.heap[G]?=some (Bk V 0 ⟨#[]⟩)->(EW κ V A N C l ws wr qc).toEnv.CM G 211 #[ϖ G,.agg #[ϊ b,.int .u64 s]] W λe w'=>∃q,e=ϱ (ϖ q)/\RN (Laid N (laidAll l ws)) n w' q L.sub/\Dw κ V A N C l ws wr qc w'/\w'.heap[G]?=some (Bk V (0+1) ⟨#[]⟩)/\Kp [G,A] W w'):=λW G h1 h2=>UC n b s L.sub G 0 ⟨#[]⟩ W h1 f h2 oM oM g.2.2 (oW (JO f));have R:Hid (∀W G q,Dw κ V A N C l ws wr qc W->W.heap[G]?=some (Bk V (0+1) ⟨#[]⟩)->RN (Laid N (laidAll l ws)) n W q L.sub->(EW κ V A N C l ws wr qc).toEnv.CM G 210 #[ϖ G,.agg #[ϕ ⟨#[]⟩,ϊ b,.int .u64 s,ϗ none],ϖ q] W λe w'=>e=ϱ (.tuple #[])/\(∃k,w'.heap[G]?=some (Bk V (Am n L.sub) k))/\Dw κ V A N C l ws wr qc w'/\Kp [G,A] W w'):=λW G q h1 h2 h3=>by
  have h:=Qu κ V A N C l ws wr qc n L.sub q G ⟨⟨#[]⟩,b,s,none⟩ _ _ b s W h1 h2 h3 f u (λp hp=>Xq ((Cq n _ _ u).2 p hp).1.1) oM oM;apply h.mono;rintro e w' (h|⟨T,X,Z⟩)
  .exact .inl h
  refine .inr ⟨T,⟨BH ⟨#[]⟩ (cont n L.sub),?_⟩,Z⟩;rw[X]
  congr 2
  omega
 have ag:A<w.heap.size:=by let⟨_,c,h⟩:=E.hA;exact U h
 clear f H g u F x;rw[show θ V ⟨⟨#[]⟩,b,s,none⟩=.agg #[ϖ V,ϕ ⟨#[]⟩,ϊ b,.int .u64 s,ϗ none] from rfl]at y |-;go_enter func144,ntmps144;go_wp2_with fail;let⟨w0,I,ae,ab,B,aj⟩:=alC w (ϲ #[ϖ V,ϕ ⟨#[]⟩,ϊ b,.int .u64 s,ϗ none] 89) (Bk V 0 ⟨#[]⟩)
 rw[Bk]at I;rw[<-I];apply mR (show Calls _ _ _ _ _ from y w0 B);rintro o r;have Q:=zh (r.hp ae);have O:=zh (r.hp ab);have j:=zh (B.tr r);go_wp2_with fail;have m:Kp [] o o.drew:=(Kp.refl [] _).drew;have a:o.drew.heap[w.heap.size]?=some (ϲ #[ϖ V,ϕ ⟨#[]⟩,ϊ b,.int .u64 s,ϗ none] 89):=Q.out;refine wp_region_held_drew (S:=λW=>W.heap[w.heap.size]?=some (ϲ #[ϖ V,ϕ ⟨#[]⟩,ϊ b,.int .u64 s,ϗ none] 89)) kR a (λ_=>?_);refine zU 0 (ϖ (w.heap.size+1)) a ?_;apply zP 1 w.heap.size 1 a;apply zW 2 (.agg #[ϕ ⟨#[]⟩,ϊ b,.int .u64 s,ϗ none]) a id;refine zU 3 (ϖ (w.heap.size+1)) a ?_;apply zP 4 w.heap.size 1 a;apply zP 5 w.heap.size 2 a;refine zW 6 (.agg #[ϊ b,.int .u64 s]) a id ?_;refine zq 7 λK hK=>?_;go_simp;have z:Hid (∀W:World,Kp [w.heap.size+1,A] w W->Kp [A] w W):=λW h=>h.mono (by intro i v af;simp at v |-;omega);refine Env.qP1 (w:=w) (P o.drew _ ((E).qM4 (j.tr m)) O) ((j.tr m).mono sM) ?_ (by intro p w' d;go_wp2;exact⟨rfl,.inl ⟨d.1,d.2.1,z _ d.2.2⟩⟩);rintro e w2 ⟨q2,rfl,ad,aa,ac,t⟩;have D:=t.ho a;apply zk hK D
 refine zq 8 λK hK=>?_;go_simp;refine Env.qP1 (w:=w) (R w2 _ q2 aa ac ad) (((j.tr m).mono (S':=[w.heap.size+1,A]) sM).tr t) ?_ (by intro p w' d;go_wp2;exact⟨rfl,.inl ⟨d.1,d.2.1,z _ d.2.2⟩⟩);rintro e w3 ⟨rfl,⟨kx,hG3⟩,hD3,hK3⟩;refine hK.out _ _ (hK3.ho D) (λ_=>?_);refine zd ?_
 try simp[zZ]
 have M:=zh (n2 hD3 (((j.tr m).mono (S':=[A]) sM).trans (t.tr hK3) (by intro i v af;simp at v |-;omega)));have ah:=U hG3;have g1:=ϻ hG3 1;go_wp2;go_ret;exact .inr ⟨rfl,M⟩
def Dx:(n:Nat)→Nat→Tn n→List (Nat×List KV)
 | 0,b,t=>[(b,prs t)]
 | n+1,_,t=>(J t).flatMap (fun m=>match m.ref with | some x=>Dx n x.1 m.sub | none=>[])
def Fc{N:Nat}{l}{n b:Nat}{s:Int}{t}(h:Laid N l (n+1) b s t):∀m∈J t,∃x,m.ref=some x/\Laid N l n x.1 x.2 m.sub:=by
 let⟨_,_,_,g,c,_⟩:=h;intro m f;obtain⟨i,d,rfl⟩:=gO f;have a:=(c.2 i (by rw[c.1];exact d) d).2
 cases hx:(J t)[i].ref with
 | none=>rw[hx]at a;let⟨_,_,q,_,e⟩:=a;exact e.elim
 | some x=>rw[hx]at a;exact⟨x,rfl,a.2.2.2⟩
def VP{α b:Type}{l:List α}{f g:α->List b}(h:∀a∈l,f a=g a):l.flatMap f=l.flatMap g:=by rw[List.flatMap_def,List.flatMap_def,List.map_congr_left h]
def Ox{N:Nat}{l}:∀(n b:Nat)(s:Int)(t),Laid N l n b s t->(Dx n b t).flatMap Prod.snd=cont n t
 | 0,b,s,t,h=>by
  show prs t++[]=prs t;rw[aN]
 | n+1,b,s,t,h=>by
  show((J t).flatMap _).flatMap Prod.snd=(J t).flatMap λm=>cont n m.sub;rw[List.flatMap_assoc];refine VP λm c=>?_;let⟨x,d,a⟩:=(Fc h) m c;rw[d];exact Ox n x.1 x.2 m.sub a
def Ow{N:Nat}{l}:∀(n b:Nat)(s:Int)(t),Laid N l n b s t->∀y∈Dx n b t,y.1<N/\τ l y.1=toB (Ab 0 y.2 [])/\(∀p∈y.2,AD p)/\2+qM2 ζ y.2<=128
 | 0,b,s,t,h,y,a=>by
  let⟨k,c,o,d,e,f,q⟩:=h;rw[mS a];exact⟨c,d,e,f⟩
 | n+1,b,s,t,h,y,a=>by
  let⟨m,i,a⟩:=mF a;let⟨x,j,g⟩:=Fc h m i;rw[j]at a;exact Ow n x.1 x.2 m.sub g y a
def Oy{N:Nat}{l}:∀(n b:Nat)(s:Int)(t)(lo),Laid N l n b s t->Good n lo t->1<=cnt n t->∀y∈Dx n b t,y.2≠[]
 | 0,b,s,t,lo,h,hg,hc,y,a=>by
  rw[mS a];intro e;have:(prs t).length=0:=by rw[show prs t=[] from e];rfl
  have:1<=(prs t).length:=hc;omega
 | n+1,b,s,t,lo,h,hg,hc,y,a=>by
  let⟨m,c,a⟩:=mF a;let⟨x,g,f⟩:=Fc h m c;rw[g]at a;have d:=hg.all m c;exact Oy n x.1 x.2 m.sub m.key f d.1 oM y a
def Pc{N:Nat}{l}:∀(n b:Nat)(s:Int)(t)(lo),Laid N l n b s t->Good n lo t->min n 1<cnt n t->Am n t+1<=2*(Dx n b t).length
 | 0,b,s,t,lo,h,hg,hc=>by simp[Am,Dx]
 | n+1,b,s,t,lo,h,hg,hc=>by
  have g:∀m∈J t,3<=cnt n m.sub/\Good n m.key m.sub:=λm c=>⟨(hg.all m c).2.1,(hg.all m c).1⟩;have:1<(J t).length:=by
   have d:min (n+1) 1=1:=oM
   rw[d]at hc;exact hc
  have key:∀ls:List (Lnk (Tn n)),(∀m∈ls,∃x,m.ref=some x/\Laid N l n x.1 x.2 m.sub)->(∀m∈ls,3<=cnt n m.sub/\Good n m.key m.sub)->qM2 (λm:Lnk (Tn n)=>Am n m.sub) ls+ls.length<=2*(ls.flatMap (λm=>match m.ref with | some x=>Dx n x.1 m.sub | none=>[])).length:=by
   intro ls
   induction ls with
   | nil=>intro _ _;simp[AJ]
   | cons a ls ih=>
    intro d e;have:=ih (λm c=>d m (by simp[c])) (λm c=>e m (by simp[c]));let⟨x,j,i⟩:=d a sM;let⟨k,f⟩:=e a sM;have:=Pc n x.1 x.2 a.sub a.key i f oM;rw[Au,lC,fC,lA,j];simp only;omega
  have:=key (J t) (Fc h) g;show 1+qM2 (λm:Lnk (Tn n)=>Am n m.sub) (J t)+1<=2*((J t).flatMap _).length;omega
def Jq{a:Ϥ}{N:Nat}(h:a.Nodup)(d:∀x∈a,x<N):a.length<=N:=by
 have b:=Hb a (List.range N) h;have c:a.filter (λk=>decide (k∉List.range N))=[]:=by
  rw[List.filter_eq_nil_iff];intro x e;have:=d x e;simp[List.mem_range,this]
 rw[c,List.length_range]at b;simpa using b
def Yb(b:List (Nat×List KV))(h:∀y∈b,y.2.length<=63):(b.flatMap Prod.snd).length<=b.length*63:=by
 induction b with
 | nil=>simp
 | cons a b ih=>
  have:=ih (λy c=>h y (by simp[c]));have:=h a sM;rw[fC,lA,lC,Nat.add_mul];omega
def FZ(ps)(h:∀p∈ps,AD p):2*ps.length<=qM2 ζ ps:=by
 induction ps with
 | nil=>simp
 | cons a ps ih=>
  have:=ih (λp b=>h p (by simp[b]));have:=(h a sM).1;have:ζ a=1+a.k.size+a.v.size:=rfl;rw[Au,lC];omega
def Ga{N:Nat}{l}{K rs:Int}{r}(h:Lie N l K rs r)(C:RGood r)(Q:N<=400):AE r<=800/\r.cont.length<=25200:=by
 cases r with
 | none=>exact⟨zL _,zL _⟩
 | «at» n L=>
  obtain⟨b,rfl,O,d⟩:=h;let⟨_,f,w⟩:=C;have c:=Ow n b rs L.sub d;have j:=Ox n b rs L.sub d;have m:=(Cq n L.key L.sub f).1;rw[<-j]at m;have G:((Dx n b L.sub).map Prod.fst).Nodup:=by
   refine List.pairwise_map.2 (((List.pairwise_flatMap.1 m).2).imp_of_mem λ{x y} o a H=>?_);intro e;let⟨V,s,g,W⟩:=c x o;let⟨X,M,i,Z⟩:=c y a;rw[e,M]at s;have S:=FZ x.2 g;have T:=FZ y.2 i;have t:=Gv (Cd 0 y.2 [] oM oM sO i sM) (Cd 0 x.2 [] oM oM sO g sM) s;let⟨_,D,q,q',u⟩:=Gi t;have v:=Ic y.2 x.2 _ _ i g (sU D) u;let⟨p,k⟩:=List.exists_mem_of_ne_nil _ ((Oy n b rs L.sub L.key d f oM) x o);have:=H p k p (by rw[v];exact k);rw[Cx]at this;cases this
  have E:=Jq G (λz I=>by
   obtain⟨y,a,rfl⟩:=List.mem_map.1 I;exact(c y a).1)
  rw[List.length_map]at E;have R:=Pc n b rs L.sub L.key d f w;have F:=Yb (Dx n b L.sub) (λy a=>by have:=FZ y.2 (c y a).2.2.1;have:=(c y a).2.2.2;omega);rw[j]at F;have A:AE (.at n L)=Am n L.sub:=rfl;have B:(Root.at n L).cont=cont n L.sub:=rfl;have P:(Dx n b L.sub).length*63<=400*63:=Nat.mul_le_mul_right _ oM;rw[A,B];omega
variable {κ:Kd}
def emp:DataW Unit:=.map []
def qF9{V A N C:Nat}{l}{ws}{wr:Int}{q}{w}(f:Dw κ V A N C l ws wr q w)(i rs:Int)(r)(d:Lie N (laidAll l ws) i rs r)(g:RGood r)(k:N<=400):
  (EW κ V A N C l ws wr q).toEnv.C 144 #[θ V ⟨⟨#[]⟩,i,rs,none⟩] w λe w'=>e=ϱ (ϊ (AE r))/\(EW κ V A N C l ws wr q).toEnv.To w w':=by
 have:=(Ga d g k).1
 cases r with
 | none=>
  obtain⟨rfl,rfl⟩:=d;refine mR (Tj V w) ?_;rintro w' hK;exact .inr ⟨rfl,Env.To.of0 f hK⟩
 | «at» n L=>
  obtain⟨b,rfl,a,c⟩:=d;refine(qF8 κ V A N C l ws wr q n b rs L w f c a g (by have:AE (.at n L)=Am n L.sub:=rfl;omega)).mono ?_;rintro e w' (h|⟨j,a,c⟩)
  .exact .inl h
  .exact .inr ⟨j,a,c⟩
def Zd{A n C:Nat}{l}{ws}{wr:Int}{q}{w}(D X:Nat)(N c rs:Int)(r)(S:w.heap[D]?=some (ϲ #[.iface 27 (ϖ A)] 206))(m:w.heap[X]?=some (ϲ #[ϗ none] 28))(o:Dn κ A n C l ws wr q w)
  (R:8<=n) (Q:n<=400) (hh:Heads (laidAll l ws) N c rs) (ar:Lie n (laidAll l ws) c rs r) (hg:RGood r):
  Ω 143 #[ϖ D,ϖ X] w λe w'=>(((∃p,e=.panicked (ioP p))/\Dn κ.up A n C l ws wr q w'/\w'.heap[X]?=some (ϲ #[ϗ none] 28))\/(e=Al none/\
   ∃V M St t,w.heap.size<=V/\w.heap.size<=M/\w.heap.size<=St/\w.heap.size<=t/\Dq κ V A n C (laidAll l ws) wr w'/\w'.heap[M]?=some (.map #[] 0)/\w'.heap[St]?=some (η 0 ⟨V,M,N,c,rs,AE r,false,0,0⟩)/\w'.heap[t]?=some (ϲ #[ϖ St] 102)/\w'.heap[X]?=some (ϲ #[ϖ t] 28)))/\Kp [A,C,X] w w':=by
 let⟨p0,v0,calls,h⟩:=o.at;have F:=υ m h dC;have ag:=υ m o.hC dC;have:=U S;have:=U m;have:=U h;have:=U o.hC;have u:=hid (And.intro hh (And.intro ar hg));have c0:=Y S 0;simp at c0;go_enter func143,ntmps143;go_wp2_with fail;apply(Kw A _ h).mono;rintro e f ⟨⟨au,_⟩|⟨_,V,rfl,an,ad⟩,k⟩
 .exact (au ⟨R,Q⟩).elim
 have ah:=((hid o).qM4 k).k oM ad;have af:=k.hp m;have W:Kp [A,C,X] w f:=k.mono sM;have v:=hid (And.intro F ag);have d:Hid (∀p w',(EW κ V A n C l ws wr q).toEnv.Z f (.panicked (ioP p)) w'->Dn κ.up A n C l ws wr q w'/\Ϙ w' X (ϲ #[ϗ none] 28)/\Kp [A,C,X] w w'):=λp w' b=>by
  have hk:Kp [A] f w':=b.2.2;exact⟨Dw.n b.2.1,hk.heap af (sU F),W.tr hk⟩
 clear F ag h;have:=k.size;have:=U ad;go_wp2_with fail;refine Env.call (w:=f) (YL ah N c rs R u.1) (Env.To.of0 ah kF) ?_ (by intro p w' b;go_wp2;exact⟨rfl,.inl ⟨⟨p,rfl⟩,(d p w' b).1,(d p w' b).2.1⟩,(d p w' b).2.2⟩);rintro e s ⟨rfl,z⟩;have Z:Kp [A] f s:=z.kp;have:=Z.size;go_wp2_with fail;let⟨H,y⟩:=eX s.heap.size;rw[<-y];obtain⟨j,ae,am,T⟩:∃j,j=s.alloc (ϲ #[.int .u64 N,ϊ c,.int .u64 rs] 166)/\(EW κ V A n C l ws wr q).toEnv.To f j/\Ϙ j H (ϲ #[.int .u64 N,ϊ c,.int .u64 rs] 166):=
  ⟨_,rfl,z.tail (kF.alloc _),by rw[y];exact μ _ _⟩
 rw[<-ae];have:s.heap.size<=H:=oM
 clear ae z Z y;have:=U T;refine mR (Mh V c rs _) ?_;rintro W4 aa;have B:=am.tail aa;go_wp2_with fail;refine Env.call (w:=f) (qF9 B.dev c rs r u.2.1 u.2.2 Q) B ?_ (by intro p w' b;go_wp2;exact⟨rfl,.inl ⟨⟨p,rfl⟩,(d p w' b).1,(d p w' b).2.1⟩,(d p w' b).2.2⟩);rintro e K ⟨rfl,ac⟩;have E:=B.trans ac;have ai:Kp [A] W4 K:=ac.kp;have:=ai.size;have G:Kp [A] f K:=E.kp;have ao:=G.heap af (by simp[v.out.1]);let⟨b5,aj,av⟩:=E.dev;have:=hid E;go_wp2_with fail;apply(KO aj).mono;rintro e a (⟨⟨_,p,rfl⟩,x,g,aq⟩|⟨rfl,x,g⟩)
 .have b:(EW κ V A n C l ws wr q).toEnv.Z f (.panicked (ioP p)) a:=⟨⟨p,rfl⟩,⟨b5,x,aq.trans av⟩,G.tr g⟩;go_wp2;exact⟨rfl,.inl ⟨⟨p,rfl⟩,(d p a b).1,(d p a b).2.1⟩,(d p a b).2.2⟩
 have i:=g.heap ao (by simp[v.out.1,v.out.2]);have ab:=(W.tr G).trans g sC;have:Hid (X≠H):=by show X≠H;omega
 have:Hid (X≠V):=by show X≠V;omega
 have:=ab.size;have:=@run_makeMap prog;have:=Y (g.ho (ai.ho (aa.hp T)));have:=ϻ i 0;have:=ρ i 0;have:=U i;have:X<a.heap.size+1:=oM
 have:X<a.heap.size+1+1:=oM
 go_wp2
 go_end0
 obtain⟨Uu,hU,al,ak,ap,I⟩:∃Uu,Uu=a.setCell (ϰ X 0) (ϖ (a.heap.size+1+1))/\Kp [A,C,X] w Uu/\Dq κ V A n C (laidAll l ws) wr Uu/\Ϙ Uu X (ϲ #[ϖ (a.heap.size+1+1)] 28)/\Uu.heap.size=a.heap.size:=
  ⟨_,rfl,ab.sc _,Dw.qM3 (hid x).q ((Kp.refl [X] _).sc _) (OffD.one i dC),ξ i 0 _,by simp[World.setCell]⟩
 rw[<-hU];have L:=μ Uu (.map #[] 0);have O:=μ (Uu.alloc (.map #[] 0)) (η 0 ⟨V,a.heap.size,N,c,rs,AE r,false,0,0⟩);have P:=μ ((Uu.alloc (.map #[] 0)).alloc (η 0 ⟨V,a.heap.size,N,c,rs,AE r,false,0,0⟩)) (ϲ #[ϖ (a.heap.size+1)] 102);rw[I]at L;rw[show(Uu.alloc (.map #[] 0)).heap.size=a.heap.size+1 from by simp[I]]at O;rw[show((Uu.alloc (.map #[] 0)).alloc (η 0 ⟨V,a.heap.size,N,c,rs,AE r,false,0,0⟩)).heap.size=a.heap.size+1+1 from by simp[I]]at P;exact⟨.inr ⟨rfl,V,a.heap.size,a.heap.size+1,a.heap.size+1+1,an,oM,oM,oM,ak.qM4 (((kF.alloc _).alloc _).alloc _),ν _ (ν _ L),ν _ O,P,ν _ (ν _ (ν _ ap))⟩,((al.alloc _).alloc _).alloc _⟩
def Ze{A n C:Nat}{l}{ws}{wr:Int}{q}{w}(D X:Nat)(t:w.heap[D]?=some (ϲ #[.iface 27 (ϖ A)] 206))(m:Dn κ A n C l ws wr q w)(s:(8<=n/\n<=400)->IsHd (laidAll l ws) 0 none/\IsHd (laidAll l ws) 1 none):
  Ω 143 #[ϖ D,ϖ X] w λe w'=>(((8<=n/\n<=400)/\(∃p,e=.panicked (ioP p))/\Dn κ.up A n C l ws wr q w')\/((8<=n/\n<=400)/\e=Al (some 9)/\Dn κ A n C l ws wr q w')\/(¬(8<=n/\n<=400)/\e=Al (some 10)/\Dn κ A n C l ws wr q w'))/\Kp [A] w w':=by
 let⟨E,F,calls,h⟩:=m.at;have i:=hid m;have c0:=Y t 0;simp at c0;have g:=hid s;go_enter func143,ntmps143;go_wp2_with fail;refine(Kw A _ h).mono ?_;rintro e d ⟨⟨z,rfl⟩|⟨x,V,rfl,B,v⟩,b⟩
 .have c:=hid z;unfold Al;go_wp2;exact⟨rfl,.inr (.inr ⟨c,rfl,i.qM4 b⟩),b.mono sM⟩
 have a:=hid x;have o:=(i.qM4 b).k (oW a.out) v;go_wp2_with fail;have c:=hid (Kk o none none a.1 (g a).1 (g a).2);simp[BA,CV,BE,Option.isSome_none]at c;refine Env.call (w:=d) c (Env.To.of0 o kF) ?_ (by intro p w' r;have y:Kp [A] d w':=r.2.2;go_wp2;exact⟨rfl,.inl ⟨a,⟨p,rfl⟩,Dw.n r.2.1⟩,(b.mono sM).tr y⟩);rintro e f ⟨rfl,k⟩;have u:Kp [A] d f:=k.kp;have j:=hid (show Dn κ A n C l ws wr q f/\Kp [A] w f from⟨Dw.n k.dev,(b.mono sM).tr u⟩);go_wp2;exact⟨rfl,rfl,.inr (.inl ⟨a,rfl,j.1.qM4 (kF.alloc _)⟩),j.2.alloc _⟩
def Py(A:Nat)(S)(R:ϩ->Ϭ->ϯ)(w)(t:∀i∈S,i<w.heap.size)
  (C:∀D X W,W.heap[D]?=some (ϲ #[.iface 27 (ϖ A)] 206)->W.heap[X]?=some (ϲ #[ϗ none] 28)->Kp [] w W->w.heap.size<=X->Ω 143 #[ϖ D,ϖ X] W λe w'=>∃k a,e=Al k/\w'.heap[X]?=some (ϲ #[ϗ a] 28)/\R k a w'/\Kp (X::S) W w'):
  Ω 43 #[ϖ A] w λe w'=>∃k v a b B,e=ϱ (.tuple #[ϗ a,v])/\ErrV w' v k/\R k a b/\w.heap.size<=B/\b.heap[B]?=some (ϲ #[.nilIface] 38)/\Kp [B] b w'/\Kp S w w':=by
 have:=zM;obtain⟨c,u,g,F,s,x⟩:∃c,c=(w.alloc (ϲ #[.iface 27 (ϖ A)] 206)).alloc (ϲ #[ϗ none] 28)/\Kp [] w c/\c.heap.size=w.heap.size+2/\Ϙ c w.heap.size (ϲ #[.iface 27 (ϖ A)] 206)/\c.heap[w.heap.size+1]?=some (ϲ #[ϗ none] 28):=by
  refine⟨_,rfl,(kF.alloc _).alloc _,sM,ν _ (μ _ _),?_⟩;have e:=μ (w.alloc (ϲ #[.iface 27 (ϖ A)] 206)) (ϲ #[ϗ none] 28);simpa using e
 have m:=hid (Jh 143 #[ϖ w.heap.size,ϖ (w.heap.size+1)] ⟨#[79,112,101,110]⟩ c (λk w'=>∃a,w'.heap[w.heap.size+1]?=some (ϲ #[ϗ a] 28)/\R k a w') ((w.heap.size+1)::S) (λi d=>by rcases List.mem_cons.1 d with rfl | d;omega;have:=t i d;omega) (SO _) ((C _ _ _ (ν _ (ν _ s)) (ν _ (ν _ x)) ((g.alloc _).alloc _) oM).mono λe w' ⟨k,a,o,p,q,r⟩=>⟨k,o,⟨a,p,q⟩,r⟩));go_enter func43,ntmps43
 go_wp2_with (go_at_call 86;go_in)
 rw[<-u];refine(show Calls _ _ _ _ _ from m).mono ?_;rintro e f ⟨k,v,b,rfl,hv,hF,⟨a,hx,hR⟩,hE,hK1,hK2⟩;have y:=hK2.ho hx;have E:=Y y 0;simp at E;have n:=hid (show ∃k j l b B,Ending.returned (.tuple #[ϗ a,v])=ϱ (.tuple #[ϗ l,j])/\ErrV f j k/\R k l b/\w.heap.size<=B/\Ϙ b B (ϲ #[.nilIface] 38)/\Kp [B] b f/\Kp S w f from⟨k,v,a,b,c.heap.size+1,rfl,hv,hR,oM,hE,hK2,((g.mono (S':=(w.heap.size+1)::S) sM).trans hK1 (λ_ h _=>h)).trans hK2 (by intro i d z;simp at d;omega) |>.mono (by intro i d z;rcases List.mem_cons.1 d with rfl | h;omega;exact h)⟩);go_wp2
 go_ret2
 exact n
def ZP(A:Nat)(S)(R:ϩ->ϯ)(w)(r:∀i∈S,i<w.heap.size)
  (u:∀D W,W.heap[D]?=some (ϲ #[.iface 27 (ϖ A)] 206)->Kp [] w W->Ω 138 #[ϖ D] W λe w'=>∃k,e=Al k/\R k w'/\Kp S W w'):
  Ω 42 #[ϖ A] w λe w'=>∃k v a B,e=ϱ v/\ErrV w' v k/\R k a/\w.heap.size<=B/\a.heap[B]?=some (ϲ #[.nilIface] 38)/\Kp [B] a w'/\Kp S w w':=by
 have:=zM;let⟨d,s,n,f,y⟩:=AZ w (ϲ #[.iface 27 (ϖ A)] 206);have l:=hid (Jh 138 #[ϖ w.heap.size] ⟨#[70,111,114,109,97,116]⟩ d R S (λi b=>by have:=r i b;omega) (SN _) (u _ _ (ν _ (ν _ n)) ((f.alloc _).alloc _)));go_enter func42,ntmps42
 go_wp2_with (go_at_call 85;go_in)
 rw[<-s];refine(show Calls _ _ _ _ _ from l).mono ?_;rintro e c ⟨k,v,a,rfl,t,x,q,o,p,g⟩;have m:=hid (show ∃k j a B,Ending.returned v=ϱ j/\ErrV c j k/\R k a/\w.heap.size<=B/\Ϙ a B (ϲ #[.nilIface] 38)/\Kp [B] a c/\Kp S w c from⟨k,v,a,d.heap.size+1,rfl,t,q,oM,o,g,((f.mono (S':=S) sM).trans p (λ_ h _=>h)).trans g (by intro i b hlt;simp at b;omega)⟩);go_wp2;go_ret;exact m
variable {κ:Kd}
def FmX(κ:Kd)(A n C:Nat)(l:ϣ)(ws:ϥ)(wr:Int)(q:Ϥ)(x y:Nat×ϣ)(b:Nat)(w:Ϣ):Prop:=
 ∃q',(∀k∈q',k∈q\/b<=k)/\(Dn κ.up A n C l ws wr q' w\/Dn κ.up A n C l (ws++[x]) (nx wr) q' w\/Dn κ.up A n C (laidAll l (ws++[x])) [] (nx wr) q' w\/Dn κ.up A n C (laidAll l (ws++[x])) [y] (nx (nx wr)) q' w)
def VU{A n C:Nat}{l}{ws}{wr:Int}{q}{w}(D:Nat)(T X:Option (Int×Int×Int))(N O rs:Int)(hD:w.heap[D]?=some (ϲ #[.iface 27 (ϖ A)] 206))(hd:Dn κ A n C l ws wr q w)(a6:ws.length<100000)
  (a2:IsHd (laidAll l ws) 0 T) (E:IsHd (laidAll l ws) 1 X) (M:CV (BA T X)=BE N O rs) (i j:Nat) (hi:upN N % 2=(i:Int)) (hj:upN (upN N) % 2=(j:Int)):
  Ω 138 #[ϖ D] w λe w'=>((¬(8<=n/\n<=400)/\e=Al (some 10)/\Dn κ A n C l ws wr q w')\/((8<=n/\n<=400)/\(∃p,e=.panicked (ioP p))/\FmX κ A n C l ws wr q (i,Ae (upN N) 0 0) (j,Ae (upN (upN N)) 0 0) w.heap.size w')\/((8<=n/\n<=400)/\e=Al none/\Dn κ A n C (laidAll (laidAll l (ws++[(i,Ae (upN N) 0 0)])) [(j,Ae (upN (upN N)) 0 0)]) [] (nx (nx wr)) [] w'))/\Kp (A::C::q) w w':=by
 let⟨p0,v0,calls,h⟩:=hd.at;have:=U hD;have:=U h;have:=U hd.hC;have c0:=Y hD 0;simp at c0;have ai:=hid (show upN N % 2=(i:Int)/\upN (upN N) % 2=(j:Int) from⟨hi,hj⟩);have:i<2:=oM
 have:j<2:=oM
 have P:=hid hd;have HI:=hid (And.intro a2 E);let⟨x,a⟩:=eX ((i,Ae (upN N) 0 0));let⟨y,hy⟩:=eX ((j,Ae (upN (upN N)) 0 0));rw[<-a,<-hy];have I:=hid (And.intro a hy);go_enter func138,ntmps138;go_wp2_with fail;apply(Kw A _ h).mono;rintro e w1 ⟨⟨a3,rfl⟩|⟨au,V,rfl,a7,a1⟩,m⟩
 .unfold Al;go_wp2;exact⟨rfl,.inl ⟨hid a3,rfl,P.qM4 m⟩,m.mono sM⟩
 have h8:=au.1;have G:=hid au;have E:=(P.qM4 m).k oM a1;have a4:=m.size;have Q:=hid (Kk E T X h8 HI.1 HI.2);rw[M,BE]at Q;go_wp2_with fail;refine Env.call (w:=w1) Q (Env.To.of0 E kF) ?_ (by intro p w' M;have o:Kp [A] w1 w':=M.2.2;go_wp2;exact⟨rfl,.inr (.inl ⟨G,⟨p,rfl⟩,⟨q,λk o=>.inl o,.inl (Dw.n M.2.1)⟩⟩),(m.mono sM).trans o sC⟩);rintro e F ⟨rfl,ad⟩;have af:Kp [A] w1 F:=ad.kp;have aj:Dw κ V A n C l ws wr q F:=ad.dev;have a5:=af.size;have am:Kp (A::C::q) w F:=(m.mono sM).trans af sC;clear Q ad af E m c0;go_wp2;let⟨H,ac⟩:=eX F.heap.size;rw[<-ac];have r:w.heap.size<=H:=oM
 have ay:A≠H:=oM
 obtain⟨t,ar,an,ak,u⟩:∃t,t=F.alloc (ϲ #[.int .u64 N,ϊ O,.int .u64 rs] 166)/\Kp (A::C::q) w t/\Dw κ V A n C l ws wr q t/\Ϙ t H (ϲ #[.int .u64 N,ϊ O,.int .u64 rs] 166):=
  ⟨_,rfl,am.alloc _,aj.qM4 (kF.alloc _),by rw[ac];exact μ _ _⟩
 rw[<-ar];clear ar am aj ac a5 a4;have av:Hid (H∉q):=λhm=>by
  have:=P.out.qX6 H hm;omega
 have d:=Y u 0;have f:=Y u 1;have g:=Y u 2;simp at d f g;apply wp_loop_rounds 3;rw[rounds_succ];go_wp2_with fail;apply mR (Hx N O rs 0 0 _);rintro R K;have c:=Kp.qN2 K lR;have aw:=ak.qM4 c;have b:=c.hp u;have a0:=an.tr c;clear K c ak u an d f g;have d:=Y b 0;have f:=Y b 1;have g:=Y b 2;simp at d f g;have:=ρ b;go_wp2_with fail;obtain⟨Wb,ae,v,Z,al⟩:∃W,W=((R.setCell (ϰ H 0) (.int .u64 (upN N))).setCell (ϰ H 1) (ϊ 0)).setCell (ϰ H 2) (.int .u64 0)/\Kp (A::C::q) w W/\Dw κ V A n C l ws wr q W/\Ϙ W H (ϲ #[.int .u64 (upN N),ϊ 0,.int .u64 0] 166):=
  ⟨_,rfl,((a0.setCell (Or.inr r) _).setCell (Or.inr r) _).setCell (Or.inr r) _,aw.qM3 (L3 H _ _ _ _) (OffD.one b dC),ξ (ξ (ξ b 0 _) 1 _) 2 _⟩
 rw[<-ae];let⟨b0,ab,ag⟩:=Z;have:=v.size;apply(JD ab a6 i (upN N) 0 0 oM ai.1 (EM _).1 oM oM oM).mono;rw[ag,<-I.out.1];rintro e Wc ⟨ah,ap,z⟩;have ao:=v.trans ap (λ_ h _=>h);have B:∀k∈cch Wc A,k∈q\/w.heap.size<=k:=λk o=>(z k o).imp_right λh=>by omega
 rcases ah with⟨⟨_,p,rfl⟩,a⟩|⟨rfl,aa⟩
 .have s:=hid (show FmX κ A n C l ws wr q x y w.heap.size Wc from⟨_,B,a.elim (λa=>.inl (Dw.n ⟨_,a,rfl⟩)) λa=>.inr (.inl (by rw[I.out.1];exact Dw.n ⟨_,a,rfl⟩))⟩);clear a z B;go_wp2;exact⟨rfl,.inr (.inl ⟨G,⟨p,rfl⟩,s⟩),ao⟩
 have L:=ap.heap al (by
  simp[mC,not_or];exact⟨λe=>ay e.symm,oM,λhm=>av hm⟩)
 have aa:=aa.q;have d:=Y L 0;have f:=Y L 1;have g:=Y L 2;simp at d f g;go_wp2_with fail;rw[rounds_succ];go_wp2_with fail;apply mR (Hx (upN N) 0 0 0 0 _);rintro R K;have c:=Kp.qN2 K lR;have b:=c.hp L;have d:=Y b 0;have f:=Y b 1;have g:=Y b 2;simp at d f g;have:=ρ b;go_wp2_with fail;obtain⟨Wb,ae,v,Z,al⟩:∃W,W=((R.setCell (ϰ H 0) (.int .u64 (upN (upN N)))).setCell (ϰ H 1) (ϊ 0)).setCell (ϰ H 2) (.int .u64 0)/\Kp (A::C::q) w W/\Dq κ V A n C (laidAll l (ws++[x])) (nx wr) W/\Ϙ W H (ϲ #[.int .u64 (upN (upN N)),ϊ 0,.int .u64 0] 166):=
  ⟨_,rfl,(((ao.tr c).setCell (Or.inr r) _).setCell (Or.inr r) _).setCell (Or.inr r) _,(aa.qM4 c).qM3 (L3 H _ _ _ _) (OffD.one b dC),ξ (ξ (ξ b 0 _) 1 _) 2 _⟩
 rw[<-ae];let⟨b1,ab,ag⟩:=Z;have:=v.size;refine(JD ab sM j (upN (upN N)) 0 0 oM ai.2 (EM _).1 oM oM oM).mono ?_;rw[ag,<-I.out.2];rintro e S ⟨ah,az,z⟩;have aq:=v.trans az sC;have B:∀k∈cch S A,k∈q\/w.heap.size<=k:=λk o=>.inr (by rcases z k o with h | h;cases h;omega);rcases ah with⟨⟨_,p,rfl⟩,a⟩|⟨rfl,ax⟩
 .have s:=hid (show FmX κ A n C l ws wr q x y w.heap.size S from⟨_,B,a.elim (λa=>.inr (.inr (.inl (Dw.n ⟨_,a,rfl⟩)))) λa=>.inr (.inr (.inr (by rw[I.out.2];exact Dw.n ⟨_,a,rfl⟩)))⟩);clear a z B;go_wp2;exact⟨rfl,.inr (.inl ⟨G,⟨p,rfl⟩,s⟩),aq⟩
 have s:=hid (show Dn κ A n C (laidAll (laidAll l (ws++[x])) [y]) [] (nx (nx wr)) [] S from Dw.n ax.q);go_wp2_with fail;rw[rounds_succ];go_wp2
 go_end0
 exact⟨.inr (.inr ⟨G,rfl,s⟩),aq⟩
def OY{n:Nat}{m}{x:Nat×Int}(h:m.ref=some x):news n m=0:=by cases n<;>simp[news,h]
def Kv{N:Nat}{l}:∀(n:Nat)(L),BX N l n L->Hd n L
 | 0,L,h=>trivial
 | n+1,L,h=>by
  refine⟨λd=>?_,λm b=>Kv n m (Ia h n rfl m b)⟩;let⟨x,e⟩:=Option.isSome_iff_exists.1 d;have key:∀ls:List (Lnk (Tn n)),(∀m∈ls,news n m=0)->qM2 (news n) ls=0:=λls=>by
   induction ls with
   | nil=>intro _;rfl
   | cons a r ih=>intro c;rw[Au,c a sM,ih λm b=>c m (by simp[b])]
  refine key _ λm b=>?_;let⟨y,f,_⟩:=(Fc (h.1 x e)) m b;exact OY f
def ol:(n:Nat)→Lnk (Tn n)→List (Nat×List KV)
 | 0,l=>match l.ref with | some x=>[(x.1,prs l.sub)] | none=>[]
 | n+1,l=>(J l.sub).flatMap (ol n)
def Nm{α d:Type}{f g:α->List d}:∀(l:List α),(∀a∈l,(f a).Sublist (g a))->(l.flatMap f).Sublist (l.flatMap g)
 | [],_=>List.Sublist.refl _
 | a::l,h=>by
  rw[fC,fC];exact(h a sM).append (Nm l λb c=>h b (by simp[c]))
def Ph:∀(n:Nat) (l:Lnk (Tn n)),((ol n l).flatMap Prod.snd).Sublist (cont n l.sub)
 | 0,l=>by
  unfold ol;split
  .show (prs l.sub++[]).Sublist (prs l.sub);rw[aN];exact List.Sublist.refl _
  .exact List.nil_sublist _
 | n+1,l=>by
  show(((J l.sub).flatMap (ol n)).flatMap Prod.snd).Sublist ((J l.sub).flatMap λm=>cont n m.sub);rw[List.flatMap_assoc];exact Nm _ λm _=>Ph n m
def Kr{N:Nat}{l}:∀(n:Nat)(L),BX N l n L->∀y∈ol n L,y.1<N/\τ l y.1=toB (Ab 0 y.2 [])/\(∀p∈y.2,AD p)/\2+qM2 ζ y.2<=128/\y.1∈BB n L
 | 0,L,h,y,a=>by
  unfold ol at a
  cases hx:L.ref with
  | none=>rw[hx]at a;cases a
  | some x=>
   rw[hx]at a;rw[mS a];let⟨r,j,s,k,o,q,t⟩:=h x hx;exact⟨j,k,o,q,by rw[Dm hx];simp[Blk]⟩
 | n+1,L,h,y,a=>by
  let⟨m,b,a⟩:=mF a;let⟨e,f,g,i,c⟩:=Kr n m (Ia h n rfl m b) y a;refine⟨e,f,g,i,?_⟩
  cases hx:L.ref with
  | none=>simp[BB,hx,List.mem_flatMap];exact⟨m,b,c⟩
  | some x=>
   rw[Dm hx];let⟨z,d,_⟩:=Fc (h.1 x hx) m b;simp[Blk,mC,List.mem_flatMap];refine .inr ⟨m,b,?_⟩;rw[d];rw[Dm d]at c;exact c
def Pg:∀(n:Nat)(l)(lo),Good n lo l.sub->1<=cnt n l.sub->∀y∈ol n l,y.2≠[]
 | 0,l,lo,hg,hc,y,a=>by
  unfold ol at a;split at a
  .rw[mS a];intro e;have b:1<=(prs l.sub).length:=hc;rw[show prs l.sub=[] from e]at b;exact absurd b dC
  .cases a
 | n+1,l,lo,hg,hc,y,a=>by
  let⟨m,d,a⟩:=mF a;have c:=hg.all m d;exact Pg n m m.key c.1 oM y a
def OF:∀(n:Nat)(l),Hd n l->lf n l.sub<=(ol n l).length+news n l
 | 0,l,_=>by
  unfold ol lf news;cases l.ref<;>simp
 | n+1,l,h=>by
  have:=h.sum;have key:∀ls:List (Lnk (Tn n)),(∀m∈ls,Hd n m)->qM2 (λm:Lnk (Tn n)=>lf n m.sub) ls<=(ls.flatMap (ol n)).length+qM2 (news n) ls:=λls=>by
   induction ls with
   | nil=>intro _;simp[qM2]
   | cons a r ih=>
    intro b;have:=ih λm c=>b m (by simp[c]);have:=OF n a (b a sM);rw[Au,Au,fC,lA];omega
  have:=key (J l.sub) h.2;show qM2 (λm:Lnk (Tn n)=>lf n m.sub) (J l.sub)<=((J l.sub).flatMap (ol n)).length+_;omega
def YY{N:Nat}{l}{n:Nat}{L}(r:BX N l n L)(d:Good n L.key L.sub)(m:1<=cnt n L.sub):((ol n L).map Prod.fst).Nodup:=by
 have c:=Kr n L r;refine List.pairwise_map.2 (((List.pairwise_flatMap.1 ((Cq n L.key L.sub d).1.sublist (Ph n L))).2).imp_of_mem λ{x y} g t s=>?_);intro e;let⟨z,h,a,A,_⟩:=c x g;let⟨B,u,b,C,_⟩:=c y t;rw[e,u]at h;have v:=FZ x.2 a;have w:=FZ y.2 b;have i:=Gv (Cd 0 y.2 [] oM oM sO b sM) (Cd 0 x.2 [] oM oM sO a sM) h;let⟨_,o,q,q',j⟩:=Gi i;have k:=Ic y.2 x.2 _ _ b a (sU o) j;let⟨p,f⟩:=List.exists_mem_of_ne_nil _ ((Pg n L L.key d m) x g);have:=s p f p (by rw[k];exact f);rw[Cx]at this;cases this
def OD{N:Nat}{l:ϣ}{r:Root}(f:BY N l r)(k:RGood r)(c:Ϥ)(j:c.Nodup)(h:∀b∈c,b<N)(t:∀b∈c,b∉Cu r):r.lf+c.length<=N+r.news:=by
 cases r with
 | none=>
  have:=Jq j h;show 0+c.length<=N+0;omega
 | «at» n L=>
  have m:=YY f k.2.1 (oW k.2.2);have i:=Kr n L f;have:=OF n L (Kv n L f);have o:=List.nodup_append.2 ⟨m,j,λa q b s e=>by
   obtain⟨y,g,rfl⟩:=List.mem_map.1 q;exact t b s (by rw[<-e];exact(i y g).2.2.2.2)⟩
  have p:=Jq o (λx d=>by
   rcases mA d with d|d
   .obtain⟨y,g,rfl⟩:=List.mem_map.1 d;exact(i y g).1
   .exact h x d)
  rw[lA,List.length_map]at p;show lf n L.sub+c.length<=N+news n L;omega
def OE{N:Nat}{l}{r}(b:BY N l r)(a:RGood r):r.lf<=N+r.news:=by
 have:=OD b a [] List.nodup_nil sM sM;simpa using this
def Ku{N:Nat}{l}{r}(a:BY N l r):∀L,r=.at 6 L->L.ref=none:=λL e=>by
 subst e
 cases hx:L.ref with
 | none=>rfl
 | some x=>have:=(Pj a hx).at;omega
def Ks{N:Nat}{l}{r}(a:BY N l r):r.hd:=by
 cases r with
 | none=>trivial
 | «at» n L=>exact Kv n L a
def Ei{N:Int}(a:0<=N)(b:N<1000000000000):upN N=N+1:=by unfold upN;omega
def UG{d:Nat}{l l1}{ws1}{N f rs:Int}{rt nw}{p}{i j:Nat}(w:d<=1000)(q:2<=d)(r:d*128<=l.length)(O:Heads l N f rs)(s:Lie d l f rs nw)(z:RGood nw)(E:∀k a b c,k<2->Valid l k a b c->1<=a/\a<=N)(D:upN N % 2=(i:Int))(R:upN (upN N) % 2=(j:Int))(aj:N<=1000000000)
  (X:∀u∈p++[nw],BY d (Ap l i (Ae (upN N) f rs)) u) (Z:BY d (Ap l i (Ae (upN N) f rs)) rt) (ad:∀x∈ws1,x.1<d/\x.2.length=128) (ai:OkR rt)
  (W:∀n,n=Ar d ((p++[nw]).foldl ω (ω [] rt))->rt.news<=n.length->∃A:Root,Lie d (laidAll (Ap l i (Ae (upN N) f rs)) (Ao rt n).2) (Ao rt n).1.b (Ao rt n).1.s A/\RGood A/\A.cont=rt.cont/\(∀u∈p++[nw],∀k∈Cu u,τ (laidAll (Ap l i (Ae (upN N) f rs)) (Ao rt n).2) k=τ (Ap l i (Ae (upN N) f rs)) k)/\(∀k,k<2->τ (laidAll (Ap l i (Ae (upN N) f rs)) (Ao rt n).2) k=τ (Ap l i (Ae (upN N) f rs)) k))
  (C:Fv d l N f rs rt nw p i j l1 ws1):∃nm,nm<=N+2/\Pend d l1 ws1 (λc=>c=nw.cont\/c=rt.cont) False nm:=by
 have:1<=N:=by let⟨k,g,_,o⟩:=O.valid;exact(E k _ _ _ g o).1
 have e2:=Ei (N:=N+1) oM oM;unfold Fv at C;simp only[Ei (N:=N) oM oM,e2]at D R X Z W C;have Q:i<2:=oM
 have:j<2:=oM
 have:i≠j:=oM
 have B:=s.bnd w;have ah:HeadOk i (N+1) f rs:=⟨D,oM,oM,B.1,B.2.1,B.2.2,s.sum⟩;have ab:=CT l (Ae (N+1) f rs) i d (BI _ _ _) r oM;have ac:∀k,k≠i->τ (Ap l i (Ae (N+1) f rs)) k=τ l k:=λk g=>Dl l _ i k d (BI _ _ _) r oM g;have S:d*128<=(Ap l i (Ae (N+1) f rs)).length:=EK _ _ i d (BI _ _ _) r oM;have aa:=Valid.laid (by rw[ab]) ah;have F:∀k a b c,k<2->Valid (Ap l i (Ae (N+1) f rs)) k a b c->1<=a/\a<=N+1:=λk a b c g o=>by
  by_cases e:k=i
  .subst e;have:=(Valid.one o aa).1;omega
  .have:=E k a b c g (o.sec (by rw[ac k e]));omega
 have P:=Heads.top Q aa (λk a b c g o=>by have:=F k a b c g o;omega) oM;have V:Lie d (Ap l i (Ae (N+1) f rs)) f rs nw:=s.head r q i Q _ _ _;rcases C with⟨rfl,t⟩|⟨rfl,t⟩|⟨n,M,K,rfl,t⟩
 .have v:Pend d l1 [] (λc=>c=nw.cont) False N:=Pend.side q r sM O s z E sM;rcases t with rfl|rfl
  .exact⟨N,oM,v.mono (λc h=>.inl h) (λh=>h)⟩
  .exact⟨N+1,oM,(v.lay (λm y=>s.move λk g=>y.is k (s.lt k g)) z q w r sM oM D).mono (λc h=>.inl (h.elim id id)) (λh=>h)⟩
 .have L:=EU (N:=d) (ks:=(p++[nw]).foldl ω (ω [] rt));let⟨a1,a2,a3⟩:=GJ w rt [] Z (ClA.nil d _);let⟨b1,b2,b3⟩:=GK w (p++[nw]) _ X a2;exact⟨N+1,oM,(Pend.side q S ad P V z F λx hx=>⟨(L _ (t x hx)).1,λy=>(L _ (t x hx)).2.2 (b3 nw sM _ y)⟩).mono (λc h=>.inl h) (λh=>h)⟩
 .let⟨A,G,d2,d3,d5,H⟩:=W n M K;have T:=Cy d _ _ S (Ok ai K (λb I=>by rw[M]at I;exact((EU (N:=d) (ks:=(p++[nw]).foldl ω (ω [] rt))) b I).2.1));have ae:=P.move (l':=laidAll (Ap l i (Ae (N+1) f rs)) (Ao rt n).2) H;have af:=V.move (l':=laidAll (Ap l i (Ae (N+1) f rs)) (Ao rt n).2) (d5 nw sM);have ag:∀k a b c,k<2->Valid (laidAll (Ap l i (Ae (N+1) f rs)) (Ao rt n).2) k a b c->1<=a/\a<=N+1:=λk a b c g o=>F k a b c g (o.sec (by rw[H k g]));generalize laidAll (Ap l i (Ae (N+1) f rs)) (Ao rt n).2=l3 at *;have v:Pend d l3 [] (λc=>c=nw.cont) False (N+1):=Pend.side q T sM ae af z ag sM;rcases t with rfl|rfl
  .exact⟨N+1,oM,v.mono (λc h=>.inl h) (λh=>h)⟩
  .exact⟨N+1+1,oM,(v.lay (λm y=>G.move λk g=>y.is k (G.lt k g)) d2 q w T sM oM R).mono (λc h=>h.imp id (λh=>h.trans d3)) (λh=>h)⟩
open Go.Maps (Keyed)
def MJ{α g:Type}{Q:α->g->Prop}:∀(a:List α),(∀h∈a,∃r,Q h r)->∃rs,Both Q a rs
 | [],_=>⟨[],rfl,λi h=>by simp at h⟩
 | h::a,hq=>by
  let⟨r,f⟩:=hq h sM;let⟨rs,b,c⟩:=MJ a λx hx=>hq x (by simp[hx]);refine⟨r::rs,by simp[b],λi d e=>?_⟩
  cases i with
  | zero=>exact f
  | succ i=>exact c i (sU d) (sU e)
def Le{h h'}(e:Bq h=Bq h')(a:h.p=none)(b:h'.p=none):h=h':=by
 cases h;cases h';simp[Bq]at e a b;let⟨c,d,f⟩:=e;subst a b d f
 congr
 exact ByteArray.ext c
def AH{w}{a b:Nat}{c}{t}{fr}{V n:Nat}{D}(d:w.heap[a]?=some (ϲ c t fr))(f:RM w V b n D):a≠b:=λe=>by
 let⟨i,g,h,_⟩:=f;rw[e,h]at d;cases d
def PH{E}{w}{h}{r}(a:RR E w h r)(b:RGood r):h.key=⟨#[]⟩:=by
 cases r with
 | none=>rw[show h=_ from a]
 | «at» n L=>exact a.1.trans b.1
def LiveT.key{E}{w}{x A n:Nat}{t}{s}{r}(a:LiveT E w x A n t s r):t.h.key=⟨#[]⟩:=PH a.rr a.qM7
def IZ:∀(n:Nat)(t:Tn n)(ks:Ϥ),∀k∈ks,k∈Bc n t ks
 | 0,t,ks,k,hk=>hk
 | n+1,t,ks,k,hk=>by
  have key:∀(ls:List (Lnk (Tn n))) (ks:List Nat),k∈ks->k∈ls.foldl (Bh (Bc n)) ks:=λls=>by
   induction ls with
   | nil=>intro ks h;exact h
   | cons a r ih=>
    intro ks h;apply ih _;unfold Bh;split
    .exact IZ n _ _ k h
    .split
     .exact h
     .exact IZ n _ _ k (mM _ h)
  exact key (J t) ks hk
def Hg:∀(rs:List Root)(ks:Ϥ) (Uu:List (Int×Nat)),(∀r∈rs,r=.none\/∃n L b s,r=.at n L/\L.ref=some (b,s)/\(b∈ks\/∃u∈Uu,u.1=(b:Int)/\AE r<=u.2))->(rs.foldl ω ks).length<=ks.length+qM2 Prod.snd Uu
 | [],ks,Uu,_=>Nat.le_add_right _ _
 | r::rs,ks,Uu,h=>by
  rcases h r sM with rfl|⟨n,L,b,s,rfl,a,t⟩
  .exact Hg rs ks Uu λr a=>h r (by simp[a])
  .by_cases c:b∈ks
   .have e:ω ks (.at n L)=ks:=by simp[ω,Bh,a,c]
    rw[List.foldl_cons,e];exact Hg rs ks Uu λr a=>h r (by simp[a])
   .let⟨u,x,z,G⟩:=t.resolve_left c;have e:ω ks (.at n L)=Bc n L.sub (b::ks):=by simp[ω,Bh,a,c]
    have:=IU ks (.at n L);have:=Hg rs (ω ks (.at n L)) (Uu.erase u) (λr' v=>by
     rcases h r' (by simp[v]) with rfl|⟨B,m,f,E,rfl,o,d⟩
     .exact .inl rfl
     .refine .inr ⟨B,m,f,E,rfl,o,?_⟩;have j:∀k,k∈b::ks->k∈ω ks (.at n L):=λk c=>by rw[e];exact IZ n L.sub _ k c
      rcases d with d|⟨F,y,g,q⟩
      .exact .inl (j _ (mM _ d))
      .by_cases i:f=b
       .exact .inl (j _ (by rw[i];simp))
       .exact .inr ⟨F,(List.mem_erase_of_ne (λe=>i (by rw[e,z]at g;omega))).2 y,g,q⟩)
    have:qM2 Prod.snd Uu=u.2+qM2 Prod.snd (Uu.erase u):=by
     have p:qM2 Prod.snd Uu=qM2 Prod.snd (u::Uu.erase u):=by
      unfold qM2;exact((List.perm_cons_erase x).map _).sum_nat
     rw[p,Au]
    rw[List.foldl_cons];omega
structure Sh(κ:Kd)(w:Ϣ)(db St A C N nM:Nat)(s:Sto)(D:Ϫ)(l:ϣ)(wr:Int)(nw:Root):Prop where
 hDb:w.heap[db]?=some (ϲ #[ϖ St] 102)
 hSt:w.heap[St]?=some (η 0 s)
 po:s.po=false
 hM:RM w s.V s.M nM D
 m4:Maps.size D<=4
 n1:nM<=1000000
 dev:Dq κ s.V A N C l wr w
 N8:8<=N
 N4:N<=400
 len:N*128<=l.length
 lie:Lie N l s.rb s.rs nw
 qM7:RGood nw
 bl0:0<=s.bl
 bl1:s.bl<=(nw.cont.length:Int)+1
 bg0:0<=s.bg
 kb:∀k,Maps.has D k=true->∃x,k=χ x/\1<=x/\x<=s.bg
 rd:∀x h,Maps.has D (χ x)=true->(∀zd,D.atKey (χ x) zd=Bq h)->h.p=none->h.key=⟨#[]⟩/\∃r,Lie N l h.b h.s r/\RGood r
 qQ1:Heads l s.N s.rb s.rs
 qP5:∀i a b c,i<2->Valid l i a b c->1<=a/\a<=s.N
section
variable {κ:Kd} {w:Ϣ} {db St A C N nM:Nat} {s:Sto} {D:Ϫ} {l:ϣ} {wr:Int} {nw:Root}
def Sh.hA(h:Sh κ w db St A C N nM s D l wr nw):∃v c,w.heap[A]?=some (AF κ N C v c wr):=h.dev.hA
def Sh.hC(h:Sh κ w db St A C N nM s D l wr nw):w.heap[C]?=some (ϲ (enc l) 115):=h.dev.hC
def Sh.VA(h:Sh κ w db St A C N nM s D l wr nw):s.V≠A:=by let⟨v,c,a⟩:=h.hA;exact υ h.dev.hV a dC
def Sh.N1(h:Sh κ w db St A C N nM s D l wr nw):N<=1000:=by have:=h.N4;omega
abbrev Sh.E(h:Sh κ w db St A C N nM s D l wr nw):SEnv:=EF κ s.V A N C l wr
def Sh.qR7(h:Sh κ w db St A C N nM s D l wr nw):Pend N l [] (λc=>c=nw.cont) False s.N:=Pend.side (oW h.N8) h.len sM h.qQ1 h.lie h.qM7 h.qP5 sM
end
def IQ(N:Nat)(D:Ϫ)(l l':ϣ):Prop:=∀y a rs b,Maps.has D (χ y)=true->(∀zd,D.atKey (χ y) zd=Bq ⟨⟨#[]⟩,a,rs,none⟩)->Lie N l a rs b->Lie N l' a rs b
def IM(N:Nat)(D:Ϫ)(l:ϣ)(Uu:List (Int×Nat)):Prop:=∀y h a,Maps.has D (χ y)=true->(∀zd,D.atKey (χ y) zd=Bq h)->h.p=none->Lie N l h.b h.s a->RGood a->∃u∈Uu,u.1=h.b/\AE a<=u.2
def Lie.covered{N:Nat}{l}{a rs:Int}{r}(h:Lie N l a rs r):r=.none\/∃n L b s,r=.at n L/\L.ref=some (b,s)/\a=(b:Int):=by
 cases r with
 | none=>exact .inl rfl
 | «at» n L=>let⟨b,c,d,_⟩:=h;exact .inr ⟨n,L,b,rs,rfl,d,c⟩
def qA7{r}(h:RGood r)(d:r.cont.length<=70000):OkR r:=by
 cases r with
 | none=>trivial
 | «at» n L=>
  apply NB n L h.2.1 (by rw[h.1];decide);have:=NA n _ _ h.2.1;rcases Nat.lt_or_ge n 10 with a|a
  .omega
  .have:=h.2.2;have b:2<=cnt n L.sub:=oM
   have c:3 ^ 10<=3 ^ n:=Nat.pow_le_pow_right oM a;have:2*3 ^ n<=cnt n L.sub*3 ^ n:=Nat.mul_le_mul_right _ b;have:(Root.at n L).cont.length=(cont n L.sub).length:=rfl;simp at c;omega
def XK{N:Nat}{l:ϣ}(G:N<=400)(y:N*128<=l.length)(a:Root)(rs:List Root)(i:BY N l a)(f:RGood a)(E:OkR a)(o:∀r∈rs,BY N l r)(c:Ϥ)(g:c=Ar N (rs.foldl ω (ω [] a)))(v:a.news<=c.length):
  ∃j:Root,Lie N (laidAll l (Ao a c).2) (Ao a c).1.b (Ao a c).1.s j/\RGood j/\j.cont=a.cont/\(Ao a c).2.length=a.news/\(∀r∈rs,∀k∈Cu r,τ (laidAll l (Ao a c).2) k=τ l k)/\(∀k,k<2->τ (laidAll l (Ao a c).2) k=τ l k)/\a.lev<=5:=by
 have h:a.lev<=5:=by
  let⟨F,p,q⟩:=GJ oM a [] i (ClA.nil N l);let⟨t,_,_⟩:=GK oM rs _ o p;have m:=EU (N:=N) (ks:=rs.foldl ω (ω [] a));have u:=OD i f c (by rw[g];exact Nr _ _) (λb d=>by rw[g]at d;exact(m b d).2.1) (λb d z=>by rw[g]at d;exact(m b d).2.2 (t b (q b z)));exact XR f oM
 cases a with
 | none=>exact⟨.none,⟨rfl,rfl⟩,trivial,rfl,rfl,λ_ _ _ _=>rfl,λ_ _=>rfl,h⟩
 | «at» n L=>
  subst g;have B:n<6:=by have:n<=5:=h;omega
  let⟨u,⟨x,h2,h3⟩,h4,h5⟩:=Ty oM y n L rs i E B o v _ rfl;refine⟨.at n (φ n L (Ar N (rs.foldl ω (ω [] (.at n L))))).1,?_,⟨?_,?_,?_⟩,JU _ _ _,Fd _ _ _,h4,h5,h⟩
  .refine⟨x.1,?_,?_,?_⟩
   .simp[Ao,lhl,h2]
   .simp[Ao,lhl,h2]
   .have e:(Ao (.at n L) (Ar N (rs.foldl ω (ω [] (.at n L))))).1.s=x.2:=by simp[Ao,lhl,h2]
    rw[e];exact h3
  .rw[JW];exact f.1
  .rw[JW];exact Oo n L _ _ f.2.1
  .rw[Om];exact f.2.2
def Lu(κ:Kd)(w w':Ϣ)(A C N St:Nat)(s:Sto)(l:ϣ)(wr:Int)(nw r:Root):Prop:=
 ∃(a:Sto)(l1:ϣ)(ws1:ϥ)(kk:Nat)(q:Ϥ)(nm:Int),w'.heap[St]?=some (η 0 { a with po:=true })/\a.V=s.V/\a.M=s.M/\a.bg=s.bg/\(∃es c,w'.heap[s.M]?=some (.map es c))/\Dn κ.up A N C l1 ws1 (nk wr kk) q w'/\(∀k∈q,w.heap.size<=k)/\nm<=s.N+2/\Pend N l1 ws1 (λc=>c=nw.cont\/c=r.cont) False nm/\ws1.length<=1000/\(kk<=1\/(kk<=r.news+2/\r.lev<=5))
def qE1{κ}{w}{db St A C N nM:Nat}{s}{D}{l}{wr:Int}{nw}(d:Sh κ w db St A C N nM s D l wr nw)(x:Nat)(t)(r)(q:LiveT d.E w x A N t s r)(b5:t.St=St)(b9:t.wrt=true)(h0:0<=t.nr)(h1:t.nr<=1000000000)(bn:∀W:Ϣ,Sem.run prog (Op.equalIn 10000 89 (θ s.V t.h) (θ s.V ⟨⟨#[]⟩,s.rb,s.rs,none⟩)) W=.ok false W)
  (ag:∀k,Maps.has (D.del (χ t.nr)) k=true->Maps.has D k=true/\∀zd,(D.del (χ t.nr)).atKey k zd=D.atKey k zd) (ay:Maps.size (D.del (χ t.nr))<=4) (bj:s.N<=1000000000):
  Ω 31 #[ϖ x] w λe w'=>∃v k,e=ϱ v/\ErrV w' v k/\w'.heap[x]?=some (Ac t.ended)/\Kp [St,x,s.M,A,C] w w'/\
   ((k=none/\∃F l' T,Sh κ w' db St A C N nM F (D.del (χ t.nr)) l' (nx (nk (nx wr) r.news)) T/\T.cont=r.cont/\F.N<=s.N+2/\F.bg=s.bg/\F.wr=(s.left t.nr).wr/\F.V=s.V/\F.M=s.M/\l'.length=l.length/\IQ N (D.del (χ t.nr)) l l'/\r.lev<=5)\/
    (k=some 3/\Sh κ w' db St A C N nM (s.left t.nr) (D.del (χ t.nr)) l wr nw/\∀Uu,IM N (D.del (χ t.nr)) l Uu->N<2+r.news+AE r+AE nw+qM2 Prod.snd Uu)\/
    (ioK k=true/\Lu κ w w' A C N St s l wr nw r)):=by
 subst b5;let⟨vA,cA,hA⟩:=d.hA;have ao:=(AH d.hSt d.hM).symm;have az:=q.xS;have cd:=AH q.hx d.hM;have bi:=d.hM.lt;have cb:=υ q.hx hA dC;have cc:=υ q.hx d.hC dC;have bg:=(AH hA d.hM).symm;have bh:=(AH d.hC d.hM).symm;have ba:db∉[t.St,x,s.M,A,C]:=by simp[υ d.hDb d.hSt dC,υ d.hDb hA dC,υ d.hDb d.hC dC,υ d.hDb q.hx dC,AH d.hDb d.hM]
 have bu:=(OffD.one q.hSt dC).cons ((OffD.one q.hx dC).cons (λk o c ty m e=>by rw[mS o]at e;exact absurd rfl (AH e d.hM)));have bl:Apt w [t.St,x,s.M] Bi:=(Apt.one q.hSt dC).cons ((Apt.one q.hx dC).cons (λk o c ty m e=>by rw[mS o]at e;exact absurd rfl (AH e d.hM)));have cg:=d.N8;have a8:=d.N4;have aj:=qA7 q.qM7 q.sz;have b0:∀n l,r=.at n l->l.key=⟨#[]⟩:=λn l e=>by have h:=q.qM7;rw[e]at h;exact h.1
 have bt:∀n l,nw=.at n l->l.key=⟨#[]⟩:=λn l e=>by have h:=d.qM7;rw[e]at h;exact h.1
 have ab:=d.lie.bnd d.N1;obtain⟨i,hi⟩:∃i:Nat,upN s.N % 2=(i:Int):=⟨(upN s.N % 2).toNat,oM⟩;obtain⟨j,hj⟩:∃j:Nat,upN (upN s.N) % 2=(j:Int):=⟨(upN (upN s.N) % 2).toNat,oM⟩;have ae:i<2:=oM
 have ar:j<2:=oM
 obtain⟨P,a9⟩:∃P:List HL->List Root->Prop,P=λf rs=>ReadH (D.del (χ t.nr)) f/\Both (λh r=>h.p=none/\h.key=⟨#[]⟩/\Lie N l h.b h.s r/\RGood r) f rs:=⟨_,rfl⟩;have hP:∀f rs,P f rs->ReadH (D.del (χ t.nr)) f/\Both (λh r=>h.p=none/\h.key=⟨#[]⟩/\Lie N l h.b h.s r/\RGood r) f rs:=λf rs h=>by rw[a9]at h;exact h
 have au:N*128<=(Ap l i (Ae (upN s.N) s.rb s.rs)).length:=EK l _ i N (BI _ _ _) d.len oM;have av:∀f rs,P f rs->∀u∈rs++[nw],RGood u/\∃rb a0,Lie N l rb a0 u:=λf rs h u E=>by
  let⟨h1,h2,h3⟩:=hP f rs h;rcases mA E with E|E
  .obtain⟨k,o,rfl⟩:=gO E;have h4:=h3 k (by rw[h2];exact o) o;exact⟨h4.2.2.2,_,_,h4.2.2.1⟩
  .rw[mS E];exact⟨d.qM7,_,_,d.lie⟩
 have bz:∀f rs,P f rs->qM2 AE (rs++[nw])<=4000:=λf rs h=>by
  let⟨h1,h2,_⟩:=hP f rs h;have h5:=CZ AE 800 (rs++[nw]) (λu E=>by let⟨g,_,_,z⟩:=av f rs h u E;exact(Ga z g a8).1);have h6:=h1.len;rw[lA,<-h2]at h5;simp only[lC,List.length_nil]at h5;omega
 have ai:∀f rs,P f rs->∀m,m=Ar N ((rs++[nw]).foldl ω (ω [] r))->r.news<=m.length->∃T:Root,Lie N (laidAll (Ap l i (Ae (upN s.N) s.rb s.rs)) (Ao r m).2) (Ao r m).1.b (Ao r m).1.s T/\RGood T/\T.cont=r.cont/\(Ao r m).2.length=r.news/\(∀u∈rs++[nw],∀k∈Cu u,τ (laidAll (Ap l i (Ae (upN s.N) s.rb s.rs)) (Ao r m).2) k=τ (Ap l i (Ae (upN s.N) s.rb s.rs)) k)/\(∀k,k<2->τ (laidAll (Ap l i (Ae (upN s.N) s.rb s.rs)) (Ao r m).2) k=τ (Ap l i (Ae (upN s.N) s.rb s.rs)) k)/\r.lev<=5:=λf rs h m hfr hfit=>
  XK a8 au r (rs++[nw]) (Pk (λk o=>Dl l _ i k N (BI _ _ _) d.len oM oM) (Gs q.rr)) q.qM7 aj (λu E=>by
   let⟨_,_,_,g⟩:=av f rs h u E;exact(g.head d.len oM i ae _ _ _).old) m hfr hfit
 refine(Qh x nM s.V t s D [A,C] (λk F W w1=>(ioK k=true/\(F.V=s.V/\F.M=s.M/\F.bg=s.bg)/\∃f rs b l1 aa kk,P f rs/\Fv N l s.N s.rb s.rs r nw rs i j l1 aa/\(kk<=1\/(kk<=r.news+2/\r.news<=(Ar N ((rs++[nw]).foldl ω (ω [] r))).length))/\Dk κ.up s.V A N C b l1 aa (nk wr kk) w1/\W.heap.size<=b/\aa.length<=1000)\/(k=none/\∃f rs m,P f rs/\m=Ar N ((rs++[nw]).foldl ω (ω [] r))/\r.news<=m.length/\F=(s.left t.nr).cmt (Ao r m).1.b (Ao r m).1.s (((ω [] r).length+r.news:Nat):Int)/\
   Dq κ s.V A N C (Ap (laidAll (Ap l i (Ae (upN s.N) s.rb s.rs)) (Ao r m).2) j (Ae (upN (upN s.N)) (Ao r m).1.b (Ao r m).1.s)) (nx (nk (nx wr) (Ao r m).2.length)) w1)\/
   (k=some 3/\F=s.left t.nr/\(∃f rs,P f rs/\(Ar N ((rs++[nw]).foldl ω (ω [] r))).length<r.news)/\Dq κ s.V A N C l wr w1)) w q.hx q.over d.hSt d.po d.hM h0 h1 ao az cd bi q.on b9 (by simp only[mC,lN,or_false];rintro k (rfl | rfl);exact U hA;exact U d.hC) ?_).mono ?_
 .intro W hK be ap am;refine(Tw (s:=s.left t.nr) t.h r nw P oM ap (d.dev.qM3 hK bu) (q.rr.qO1 hK bl) b0 q.qM7 (oW q.sz) (oX (Fo q.qM7) q.sz) aj (d.lie.rr d.qM7 W) bt ab.1 ab.2.1 ab.2.2 bn ?_ ?_ i j hi hj).mono ?_
  .intro W' a6;refine(qF2 t.St nM 1 (s.left t.nr) (D.del (χ t.nr)) W' (a6.hp ap) (am.kp a6 sM) ay).mono ?_;rintro e w' ⟨v,f,M,O,R,K⟩;let⟨rs,hb⟩:=MJ (Q:=λh r=>h.p=none/\h.key=⟨#[]⟩/\Lie N l h.b h.s r/\RGood r) f λh hm=>by
    let⟨G,y,z,H⟩:=R.are h hm;let⟨f1,f2⟩:=ag _ z;let⟨V,u,d2⟩:=d.rd y h f1 (λzd=>(f2 zd).symm.trans (H zd)) G;exact⟨u,G,V,d2⟩
   exact⟨v,f,rs,M,O,by rw[a9];exact⟨R,hb⟩,K⟩
  .intro f rs h;let⟨G,z,H⟩:=hP f rs h;have hm:=bz f rs h;have ch:=G.len;have cj:=Fm q.qM7;have ck:=q.sz;refine⟨z,oM,λk k1 k2=>?_,oM,λhf=>?_⟩
   .let⟨Z,c2,c3,c4⟩:=H k k1 k2;refine⟨?_,λn L e=>?_⟩
    .have e:f[k]=⟨⟨#[]⟩,f[k].b,f[k].s,none⟩:=by
      cases hx:f[k];rw[hx]at Z c2;simp only at Z c2;rw[Z,c2]
     rw[e];exact c3.rr c4 W
    .rw[e]at c4;exact c4.1
   .let⟨T,V,_⟩:=ai f rs h _ rfl hf;exact V.bnd d.N1
  .rintro e w1 ⟨⟨⟨p,e0⟩,f,rs,b,l1,aa,kk,⟨s1,G,z,H,g4,g5,g6⟩,O,R,K,S,X⟩|⟨M,f,rs,O,R,K,S⟩|⟨M,f,rs,m,O,R,K,S,X⟩,o⟩
   .exact⟨some (1000+(p:Int)),s1,FR p,e0.trans (Eb p).symm,.inl ⟨DY p,⟨z,H,g5⟩,f,rs,b,l1,aa,kk,O,R,K,S,X⟩,o,G⟩
   .exact⟨some 3,_,dC,M,.inr (.inr ⟨rfl,rfl,⟨f,rs,O,R⟩,S⟩),o,K⟩
   .exact⟨none,_,sM,M,.inr (.inl ⟨rfl,f,rs,m,O,R,K,rfl,X⟩),o,S⟩
 .rintro e w' ⟨k,F,v,rfl,hv,ah,al,W,w1,B,hK,be,ap,am,hR,a7,ax,ce,ak,ad⟩;have ci:=U q.hx;have bf:=am.kp a7 (by simp[ao,bg,bh]);have an:=bf.kp ad (by simp[ao];omega);have ca:=ad.heap (a7.heap be (by simp[az,cb,cc])) (by simp[az];omega);refine⟨v,k,rfl,hv,ca,al,?_⟩;rcases hR with⟨bb,aw,f,rs,b,l1,aa,kk,M,O,R,K,X,e7⟩|⟨rfl,f,rs,m,M,O,R,I,K⟩|⟨rfl,I,⟨f,rs,M,O⟩,K⟩
  .refine .inr (.inr ⟨bb,?_⟩);have bw:BY N (Ap l i (Ae (upN s.N) s.rb s.rs)) r:=Pk (λk o=>Dl l _ i k N (BI _ _ _) d.len oM oM) (Gs q.rr);have bv:∀u∈rs++[nw],BY N (Ap l i (Ae (upN s.N) s.rb s.rs)) u:=λu E=>by
    let⟨_,_,_,g⟩:=av f rs M u E;exact(g.head d.len oM i ae _ _ _).old
   let⟨nm,bs,hp⟩:=UG d.N1 oM d.len d.qQ1 d.lie d.qM7 d.qP5 hi hj bj bv bw K.fit aj (λm hfr hfit=>by
    let⟨T,V,d2,d3,_,d5,d6,_⟩:=ai f rs M m hfr hfit;exact⟨T,V,d2,d3,d5,d6⟩) O
   have S:=K.qM3 ad (Cs ax ak);have hq:∀k∈cch w' A,w.heap.size<=k:=λk o=>by
    have:=S.qN3 k o;have:=hK.size;omega
   refine⟨F,l1,aa,kk,cch w' A,nm,by rw[ah,Sto.aft,bb,Bool.or_true],aw.1,aw.2.1,aw.2.2,(by let⟨es,c,h,_⟩:=an;exact⟨es,c,h⟩),Dw.n ⟨_,S,rfl⟩,hq,bs,hp,e7,R.imp id λh=>⟨h.1,?_⟩⟩;let⟨_,_,_,_,_,_,_,h7⟩:=ai f rs M _ rfl h.2;exact h7
  .rw[Sto.qO8 rfl]at ah;let⟨T,V,d2,d3,d4,d5,d6,d7⟩:=ai f rs M m O R;rw[d4]at K;have bd:=Ok aj R (λb hb=>by rw[O]at hb;exact(EU b hb).2.1);have ac:=Cy N _ _ au bd;have bm:∀u,(∀k∈Cu u,τ (laidAll (Ap l i (Ae (upN s.N) s.rb s.rs)) (Ao r m).2) k=τ (Ap l i (Ae (upN s.N) s.rb s.rs)) k)->∀a b,Lie N l a b u->Lie N (Ap (laidAll (Ap l i (Ae (upN s.N) s.rb s.rs)) (Ao r m).2) j (Ae (upN (upN s.N)) (Ao r m).1.b (Ao r m).1.s)) a b u:=λu o a b E=>
    ((E.head d.len oM i ae _ _ _).move o).head ac oM j ar _ _ _
   have bc:∀y h r0,Maps.has (D.del (χ t.nr)) (χ y)=true->(∀zd,(D.del (χ t.nr)).atKey (χ y) zd=Bq h)->h.p=none->Lie N l h.b h.s r0->Lie N (Ap (laidAll (Ap l i (Ae (upN s.N) s.rb s.rs)) (Ao r m).2) j (Ae (upN (upN s.N)) (Ao r m).1.b (Ao r m).1.s)) h.b h.s r0:=λy h r0 G z H g4=>by
    let⟨a1,a2,a3⟩:=hP f rs M;let⟨h',br,bx,bk⟩:=a1.all _ G;have bo:=Le ((z (.lit (.int .i64 0))).symm.trans (bk (.lit (.int .i64 0)))) H bx;subst bo;obtain⟨k,o,rfl⟩:=gO br;have af:k<rs.length:=by rw[<-a2];exact o
    let⟨b1,b2,b3,b4⟩:=a3 k o af;refine bm _ (λk' bq=>d5 _ (List.mem_append_left _ (gM af)) k' ?_) _ _ g4;rw[(Lie.one d.N1 b3 g4).2];exact bq
   have bp:i≠j:=by have h1:=Li s.N;have h2:=Li (upN s.N);omega
   have aq:=V.bnd d.N1;have a5:=CT _ (Ae (upN (upN s.N)) (Ao r m).1.b (Ao r m).1.s) j N (BI _ _ _) ac oM;have a4:τ (Ap (laidAll (Ap l i (Ae (upN s.N) s.rb s.rs)) (Ao r m).2) j (Ae (upN (upN s.N)) (Ao r m).1.b (Ao r m).1.s)) i=Ae (upN s.N) s.rb s.rs:=by rw[Dl _ _ j i N (BI _ _ _) ac oM bp,d6 i ae,CT l _ i N (BI _ _ _) d.len oM]
   have oi:HeadOk i (upN s.N) s.rb s.rs:=⟨hi,(EM _).1,(EM _).2,ab.1,ab.2.1,ab.2.2,d.lie.sum⟩;have oj:HeadOk j (upN (upN s.N)) (Ao r m).1.b (Ao r m).1.s:=⟨hj,(EM _).1,(EM _).2,aq.1,aq.2.1,aq.2.2,V.sum⟩;have cf:1<=s.N:=by let⟨k,o,_,hv⟩:=d.qQ1.valid;exact(d.qP5 k _ _ _ o hv).1
   have u1:=Ei (N:=s.N) oM oM;have u2:=Ei (N:=s.N+1) oM oM;refine .inl ⟨rfl,F,_,T,?_,d3,by rw[I];show upN (upN s.N)<=_;rw[u1,u2];omega,by rw[I];rfl,by rw[I];rfl,by rw[I];rfl,by rw[I];rfl,?_,λy rb a0 r0 G z H=>bc y ⟨⟨#[]⟩,rb,a0,none⟩ r0 G z rfl H,d7⟩
   .refine { hDb:=al.heap d.hDb ba,hSt:=ah,po:=by rw[I];exact d.po,hM:=by rw[I];exact an,m4:=ay,n1:=d.n1,dev:=?_,N8:=d.N8,N4:=d.N4,len:=EK _ _ j N (BI _ _ _) ac oM,lie:=?_,qM7:=d2,qQ1:=?_,qP5:=?_,bl0:=?_,bl1:=?_,bg0:=by rw[I];exact d.bg0,kb:=λk o=>by rw[I];exact d.kb k (ag k o).1,rd:=?_ }
    .rw[I];exact K.qM3 ad (Cs ax ak)
    .rw[I];exact V.head ac oM j ar _ _ _
    .rw[I];show(0:Int)<=(((ω [] r).length+r.news:Nat):Int);exact Int.natCast_nonneg _
    .rw[I,d3];have G:=IU [] r;have z:=Fm q.qM7;have H:=Fo q.qM7;show((_:Nat):Int)<=_;simp only[List.length_nil]at G;omega
    .intro y h G z H;let⟨f1,f2⟩:=ag _ G;let⟨Z,u,c2,c3⟩:=d.rd y h f1 (λzd=>(f2 zd).symm.trans (z zd)) H;exact⟨Z,u,bc y h u G z H c2,c3⟩
    .rw[I];exact Heads.made a4 a5 ae ar oi oj
    .intro k a b c o hv;have e:k=i\/k=j:=oM
     rw[I];show 1<=a/\a<=upN (upN s.N);rcases e with rfl|rfl
     .have:=(Valid.one hv (Valid.laid (by rw[a4]) oi)).1;rw[u1]at this |-;rw[u2];omega
     .have:=(Valid.one hv (Valid.laid (by rw[a5]) oj)).1;rw[this,u1,u2];omega
   .rw[KM _ _ j N (BI _ _ _) ac oM,Xr N _ _ au bd,KM _ _ i N (BI _ _ _) d.len oM]
  .rw[Sto.qO8 rfl]at ah;refine .inr (.inl ⟨rfl,?_,λUu hU=>?_⟩)
   .exact { hDb:=al.heap d.hDb ba,hSt:=by rw[<-I];exact ah,po:=d.po,hM:=an,m4:=ay,n1:=d.n1,dev:=K.qM3 ad (Cs ax ak),N8:=d.N8,N4:=d.N4,len:=d.len,lie:=d.lie,qM7:=d.qM7,qQ1:=d.qQ1,qP5:=d.qP5,bl0:=d.bl0,bl1:=d.bl1,bg0:=d.bg0,kb:=λk o=>d.kb k (ag k o).1,rd:=λy h G z H=>by let⟨f1,f2⟩:=ag _ G;exact d.rd y h f1 (λzd=>(f2 zd).symm.trans (z zd)) H }
   .have G:=VZ N ((rs++[nw]).foldl ω (ω [] r));have z:=IU [] r;have H:=Hg (rs++[nw]) (ω [] r) ((s.rb,AE nw)::Uu) (λu E=>by
     let⟨a1,a2,a3⟩:=hP f rs M;rcases mA E with E|E
     .obtain⟨k,o,rfl⟩:=gO E;have af:k<f.length:=by rw[a2];exact o
      let⟨b1,b2,b3,b4⟩:=a3 k af o;let⟨_,y,Z,c2⟩:=a1.are _ (gM af);rcases b3.covered with e|⟨n,L,b,F,S,X,e7⟩
      .exact .inl e
      .let⟨u,b6,b7,b8⟩:=hU y _ _ Z c2 b1 b3 b4;exact .inr ⟨n,L,b,F,S,X,.inr ⟨u,mM _ b6,b7.trans e7,b8⟩⟩
     .rw[mS E];rcases d.lie.covered with e|⟨n,L,b,F,S,X,e7⟩
      .exact .inl e
      .exact .inr ⟨n,L,b,F,S,X,.inr ⟨(s.rb,AE nw),List.mem_cons.2 (.inl rfl),e7,lR⟩⟩)
    rw[Au]at H;simp only[List.length_nil]at z;simp only at H;omega
section
variable {κ:Kd} {A n C:Nat} {l:ϣ} {ws:ϥ} {wr nm:Int} {q:Ϥ} {May:List KV→Prop} {Em:Prop} {w:Ϣ}
def VV(d:Dn κ A n C l ws wr q w)(ae:ws.length<=50000)(ad:nm<=1000000000)(S:(8<=n/\n<=400)->Pend n l ws May Em nm):
  Ω 42 #[ϖ A] w λe w'=>∃v k,e=ϱ v/\ErrV w' v k/\Kp (A::C::q) w w'/\
   ((k=none/\(8<=n/\n<=400)/\∃l',Dn κ A n C l' [] (nx (nx wr)) [] w'/\Pend n l' [] (λc=>c=[]) False (nm+2))\/
    (ioK k=true/\(8<=n/\n<=400)/\∃l1 V P q' aa,aa<=nm+2/\V.length<=ws.length+1/\(P=wr\/P=nx wr\/P=nx (nx wr))/\(∀k∈q',k∈q\/w.heap.size<=k)/\Dn κ.up A n C l1 V P q' w'/\Pend n l1 V (λc=>May c\/c=[]) True aa)\/
    (k=some 10/\¬(8<=n/\n<=400)/\Dn κ A n C l ws wr q w')):=by
 obtain⟨r,s,N,L,rs,g0,g1,g2,X⟩:∃r s N L rs,IsHd (laidAll l ws) 0 r/\IsHd (laidAll l ws) 1 s/\CV (BA r s)=BE N L rs/\((8<=n/\n<=400)->N=nm):=by
  by_cases R:8<=n/\n<=400
  .have o:=S R;by_cases f:1<=nm
   .let⟨L,rs,r,s,e0,e1,e2⟩:=o.top f;exact⟨r,s,nm,L,rs,e0,e1,by rw[e2];rfl,λ_=>rfl⟩
   .have hm:=Mixed.laid d.len d.fit;have G:=o.n0;exact⟨none,none,0,0,0,λa b c I=>by have:=o.qP5 _ 0 a b c hm oM I;omega,λa b c I=>by have:=o.qP5 _ 1 a b c hm oM I;omega,rfl,λ_=>by omega⟩
  .let⟨r,G⟩:=IsHd.is (laidAll l ws) 0;let⟨s,f⟩:=IsHd.is (laidAll l ws) 1
   cases d:BA r s with
   | none=>exact⟨r,s,0,0,0,G,f,by rw[d];rfl,λh=>absurd h R⟩
   | some x=>exact⟨r,s,x.1,x.2.1,x.2.2,G,f,by rw[d];rfl,λh=>absurd h R⟩
 obtain⟨i,E⟩:∃i:Nat,upN N % 2=(i:Int):=⟨(upN N % 2).toNat,oM⟩;obtain⟨j,u⟩:∃j:Nat,upN (upN N) % 2=(j:Int):=⟨(upN (upN N) % 2).toNat,oM⟩;have:=d.sA;have:=U d.hC;refine(ZP A (A::C::q) (λk w'=>(k=some 10/\¬(8<=n/\n<=400)/\Dn κ A n C l ws wr q w')\/(ioK k=true/\(8<=n/\n<=400)/\FmX κ A n C l ws wr q (i,Ae (upN N) 0 0) (j,Ae (upN (upN N)) 0 0) w.heap.size w')\/(k=none/\(8<=n/\n<=400)/\Dn κ A n C (laidAll (laidAll l (ws++[(i,Ae (upN N) 0 0)])) [(j,Ae (upN (upN N)) 0 0)]) [] (nx (nx wr)) [] w')) w (by intro k M;simp[mC]at M;rcases M with h | h | h;omega;omega;exact d.qX6 k h) λD W hD hK=>(VU D r s N L rs hD (d.qM4 hK) oM g0 g1 g2 i j E u).mono ?_).mono ?_
 .rintro e w' ⟨⟨f,t,H⟩|⟨f,⟨p,t⟩,H⟩|⟨f,t,H⟩,hK'⟩
  .exact⟨_,t,.inl ⟨rfl,f,H⟩,hK'⟩
  .refine⟨some (1000+(p:Int)),t.trans (Eb p).symm,.inr (.inl ⟨DY p,f,?_⟩),hK'⟩;let⟨q',y,g⟩:=H;exact⟨q',λk M=>(y k M).imp_right λh=>lT hK.size h,g⟩
  .exact⟨_,t,.inr (.inr ⟨rfl,f,H⟩),hK'⟩
 .rintro e w' ⟨k,v,w1,B,rfl,I,hR,ac,hB,z,hK⟩;have F:=OffD.one hB dC;refine⟨v,k,rfl,I,hK,?_⟩;rcases hR with⟨rfl,f,t⟩|⟨G,f,q',y,g⟩|⟨rfl,f,t⟩
  .exact .inr (.inr ⟨rfl,f,t.qM3 z F⟩)
  .refine .inr (.inl ⟨G,f,?_⟩);have o:=S f;have Q:=o.n0;obtain rfl:=X f;have u1:=Ei Q oM;have T:=Ei (N:=N+1) oM oM;rw[u1]at E u g;rw[T]at u g;have O:∀m,Mixed n l ws m->Lie n m 0 0 .none:=λm _=>⟨rfl,rfl⟩;have Z:=o.settle O trivial oM d.N1 d.len d.fit oM E;rcases g with g|g|g|g
   .exact⟨l,ws,wr,q',N,oM,oM,.inl rfl,y,g.qM3 z F,o.mono (λc h=>.inl h) (λ_=>trivial)⟩
   .exact⟨l,_,_,q',N+1,oM,sM,.inr (.inl rfl),y,g.qM3 z F,(o.lay O trivial oM d.N1 d.len d.fit oM E).mono (λc h=>h) (λ_=>trivial)⟩
   .exact⟨_,[],_,q',N+1,oM,sM,.inr (.inl rfl),y,g.qM3 z F,Z.mono (λc h=>.inr h) (λ_=>trivial)⟩
   .exact⟨_,_,_,q',N+1+1,oM,sM,.inr (.inr rfl),y,g.qM3 z F,(Z.lay (λm _=>⟨rfl,rfl⟩) (r':=.none) trivial oM d.N1 (g.len) sM oM u).mono (λc h=>.inr (h.elim id id)) (λ_=>trivial)⟩
  .refine .inl ⟨rfl,f,_,t.qM3 z F,?_⟩;have o:=S f;have Q:=o.n0;obtain rfl:=X f;have T:=Ei (N:=N+1) oM oM;rw[Ei Q oM]at E u |-;rw[T]at u |-;have O:∀m,Mixed n l ws m->Lie n m 0 0 .none:=λm _=>⟨rfl,rfl⟩;have ab:∀x∈ws++[(i,Ae (N+1) 0 0)],x.1<n/\x.2.length=128:=λx K=>by
    rcases mA K with K|K
    .exact d.fit x K
    .rw[mS K];exact⟨oM,BI _ _ _⟩
   rw[show N+2=N+1+1 by omega];exact(o.settle O trivial oM d.N1 d.len d.fit oM E).settle (ws:=[]) (λm _=>⟨rfl,rfl⟩) (r':=.none) trivial oM d.N1 (Cy n _ l d.len ab) sM oM u
def Zf(s:Dn κ A n C l ws wr q w)(af:nm<=1000000000)(hp:(8<=n/\n<=400)->Pend n l ws May Em nm):
  Ω 43 #[ϖ A] w λe w'=>∃v k g,e=ϱ (.tuple #[ϗ g,v])/\ErrV w' v k/\Kp [A,C] w w'/\
   ((k=none/\∃r V M St P u rs N,g=some (ϰ P 0)/\w.heap.size<=V/\w.heap.size<=M/\w.heap.size<=St/\w.heap.size<=P/\May r.cont/\N<=nm/\Sh κ w' P St A C n 0 ⟨V,M,N,u,rs,AE r,false,0,0⟩ emp (laidAll l ws) wr r)\/
    (ioK k=true/\(8<=n/\n<=400)/\g=none/\Dn κ.up A n C l ws wr q w')\/
    (k=some 9/\(8<=n/\n<=400)/\Em/\g=none/\Dn κ A n C l ws wr q w')\/(k=some 10/\¬(8<=n/\n<=400)/\g=none/\Dn κ A n C l ws wr q w')):=by
 have:=s.sA;have:=U s.hC;have E:=Mixed.laid s.len s.fit;by_cases hc:(8<=n/\n<=400)/\∃N u rs r,Heads (laidAll l ws) N u rs/\Lie n (laidAll l ws) u rs r/\RGood r/\May r.cont
 .let⟨o,N,u,rs,r,L,aa,R,ad⟩:=hc;have Q:=hp o;refine(Py A [A,C] (λk g w'=>(ioK k=true/\g=none/\Dn κ.up A n C l ws wr q w')\/(k=none/\∃V M St y,g=some (ϰ y 0)/\w.heap.size<=V/\w.heap.size<=M/\w.heap.size<=St/\w.heap.size<=y/\Dq κ V A n C (laidAll l ws) wr w'/\w'.heap[M]?=some (.map #[] 0)/\w'.heap[St]?=some (η 0 ⟨V,M,N,u,rs,AE r,false,0,0⟩)/\w'.heap[y]?=some (ϲ #[ϖ St] 102))) w sO λD X W hD hX hK hXs=>(Zd D X N u rs r hD hX (s.qM4 hK) o.1 o.2 L aa R).mono ?_).mono ?_
  .rintro e w' ⟨⟨⟨p,d⟩,f,z⟩|⟨d,V,M,St,y,T,Z,a3,a4,O,F,I,K,a9⟩,m⟩
   .exact⟨_,_,d.trans (Eb p).symm,z,.inl ⟨DY p,rfl,f⟩,m.mono (by intro i t _;simp at t |-;omega)⟩
   .have:=hK.size;exact⟨none,_,d,a9,.inr ⟨rfl,V,M,St,y,rfl,oM,oM,oM,oM,O,F,I,K⟩,m.mono (by intro i t _;simp at t |-;omega)⟩
  .rintro e w' ⟨k,v,g,w1,B,rfl,j,⟨d,rfl,f⟩|⟨rfl,V,M,St,y,rfl,T,Z,a3,a4,O,F,I,K⟩,hBs,hB,hK1,hK⟩
   .exact⟨v,_,_,rfl,j,hK,.inr (.inl ⟨d,o,rfl,f.qM3 hK1 (OffD.one hB dC)⟩)⟩
   have ac:M∉[B]:=by
    intro E;rw[mS E,hB]at F;cases F
   have hN:N<=nm:=by
    let⟨i,t,_,j⟩:=L.valid;exact(Q.qP5 _ i _ _ _ E t j).2
   have ae:∀i a b c,i<2->Valid (laidAll l ws) i a b c->1<=a/\a<=N:=λi a b c t j=>
    ⟨(Q.qP5 _ i a b c E t j).1,L.max t j λk a b c H j=>by have:=Q.qP5 _ k a b c E H j;omega⟩
   exact⟨v,none,_,rfl,j,hK,.inl ⟨rfl,r,V,M,St,y,u,rs,N,rfl,T,Z,a3,a4,ad,hN,{ hDb:=hK1.heap K (by simpa using υ K hB dC),hSt:=hK1.heap I (by simpa using υ I hB dC),po:=rfl,hM:=⟨#[],0,hK1.heap F ac,⟨sM,MapKept.stamped_empty 0,sM⟩,lR,rfl⟩,m4:=by simp[emp,Maps.size],n1:=oM,dev:=O.qM3 hK1 (OffD.one hB dC),N8:=o.1,N4:=o.2,len:=Cy n ws l s.len s.fit,lie:=aa,qM7:=R,qQ1:=L,qP5:=ae,bl0:=Int.natCast_nonneg _,bl1:=by have:=Fm R;show((AE r:Nat):Int)<=_;omega,bg0:=iR _,kb:=λk H=>by simp[emp,Maps.has]at H,rd:=λx h H=>by simp[emp,Maps.has]at H }⟩⟩
 .have ab:(8<=n/\n<=400)->Em/\IsHd (laidAll l ws) 0 none/\IsHd (laidAll l ws) 1 none:=λo=>by
   rcases(hp o).each _ E with⟨d,f⟩|h
   .exact⟨d,λa b c=>f 0 a b c oM,λa b c=>f 1 a b c oM⟩
   .exact absurd ⟨o,h⟩ hc
  refine(Py A [A,C] (λk g w'=>g=none/\((ioK k=true/\(8<=n/\n<=400)/\Dn κ.up A n C l ws wr q w')\/(k=some 9/\(8<=n/\n<=400)/\Dn κ A n C l ws wr q w')\/(k=some 10/\¬(8<=n/\n<=400)/\Dn κ A n C l ws wr q w'))) w sO λD X W hD hX hK hXs=>(Ze D X hD (s.qM4 hK) λh=>(ab h).2).mono ?_).mono ?_
  .rintro e w' ⟨⟨d,⟨p,f⟩,z⟩|⟨d,f,z⟩|⟨d,f,z⟩,m⟩
   .exact⟨_,none,f.trans (Eb p).symm,m.ho hX,⟨rfl,.inl ⟨DY p,d,z⟩⟩,m.mono sC⟩
   .exact⟨_,none,f,m.ho hX,⟨rfl,.inr (.inl ⟨rfl,d,z⟩)⟩,m.mono sC⟩
   .exact⟨_,none,f,m.ho hX,⟨rfl,.inr (.inr ⟨rfl,d,z⟩)⟩,m.mono sC⟩
  .rintro e w' ⟨k,v,g,w1,B,rfl,j,⟨rfl,hR⟩,hBs,hB,hK1,hK⟩;have S:=OffD.one hB dC;refine⟨v,k,none,rfl,j,hK,.inr ?_⟩;rcases hR with⟨G,d,f⟩|⟨G,d,f⟩|⟨G,d,f⟩
   .exact .inl ⟨G,d,rfl,f.qM3 hK1 S⟩
   .exact .inr (.inl ⟨G,d,(ab d).1,rfl,f.qM3 hK1 S⟩)
   .exact .inr (.inr ⟨G,d,rfl,f.qM3 hK1 S⟩)
end
section
variable {κ:Kd} {w:Ϣ} {db St A C N nM:Nat} {s:Sto} {D:Ϫ} {l:ϣ} {wr:Int} {nw:Root}
def Sh.qO4(a:Sh κ w db St A C N nM s D l wr nw){w'}{L}(hK:Kp L w w')(j:db∉L)(m:Dq κ s.V A N C l wr w'){s'}{b:Nat}{D'}(e:s'.V=s.V/\s'.N=s.N/\s'.rb=s.rb/\s'.rs=s.rs/\s'.bl=s.bl/\s'.po=s.po)
  (hSt:w'.heap[St]?=some (η 0 s')) (hM:RM w' s'.V s'.M b D') (m4:Maps.size D'<=4) (n1:b<=1000000) (bg0:0<=s'.bg) (kb:∀k,Maps.has D' k=true->∃x,k=χ x/\1<=x/\x<=s'.bg)
  (rd:∀x h,Maps.has D' (χ x)=true->(∀zd,D'.atKey (χ x) zd=Bq h)->h.p=none->h.key=⟨#[]⟩/\∃r,Lie N l h.b h.s r/\RGood r):Sh κ w' db St A C N b s' D' l wr nw:=by
 let⟨g,c,e3,d,f,i⟩:=e;exact { hDb:=hK.heap a.hDb j,hSt:=hSt,po:=by rw[i];exact a.po,hM:=hM,m4:=m4,n1:=n1,dev:=by rw[g];exact m,N8:=a.N8,N4:=a.N4,len:=a.len,lie:=by rw[e3,d];exact a.lie,qM7:=a.qM7,qQ1:=by rw[c,e3,d];exact a.qQ1,qP5:=by rw[c];exact a.qP5,bl0:=by rw[f];exact a.bl0,bl1:=by rw[f];exact a.bl1,bg0:=bg0,kb:=kb,rd:=rd }
def Sh.qU8(a:Sh κ w db St A C N nM s D l wr nw):db≠St/\db≠A/\db≠C/\db≠s.M:=by
 let⟨v,c,h⟩:=a.hA;exact⟨υ a.hDb a.hSt dC,υ a.hDb h dC,υ a.hDb a.hC dC,AH a.hDb a.hM⟩
def Sh.quiet(a:Sh κ w db St A C N nM s D l wr nw){w'}{x:Nat}{c}(b:w.heap[x]?=some (ϲ c 99))(hK:Kp [St,x,A] w w')(i:Dq κ s.V A N C l wr w')(h:w'.heap[St]?=some (η 0 s)):Sh κ w' db St A C N nM s D l wr nw:=by
 let⟨j,n2,n3,n4⟩:=a.qU8;let⟨k,cA,g⟩:=a.hA;have d:=(AH a.hSt a.hM).symm;have e:=(AH b a.hM).symm;have f:=(AH g a.hM).symm;exact a.qO4 hK (by simp[j,n2];exact υ a.hDb b dC) i ⟨rfl,rfl,rfl,rfl,rfl,rfl⟩ h (a.hM.kp hK (by simp[d,e,f])) a.m4 a.n1 a.bg0 a.kb a.rd
def Sh.live(a:Sh κ w db St A C N nM s D l wr nw){x:Nat}{t}(hx:w.heap[x]?=some (Ac t))(c:t.over=false)(d:t.on=some (ϰ s.V 0))(e:t.St=St)(b:t.h=⟨⟨#[]⟩,s.rb,s.rs,none⟩)(f:t.ch=0): LiveT a.E w x A N t s nw:=
 { hx:=hx,over:=c,on:=d,hSt:=by rw[e];exact a.hSt,po:=a.po,sV:=rfl,hV:=a.dev.hV,n1:=a.N1,bl0:=a.bl0,bl1:=by have:=a.bl1;have:=(Ga a.lie a.qM7 a.N4).2;omega,dev:=a.dev,vS:=by show s.V∉[A];simpa using a.VA,rr:=by rw[b];exact a.lie.rr a.qM7 w,qM7:=a.qM7,sz:=by have:=(Ga a.lie a.qM7 a.N4).2;omega,ch0:=oM,ch1:=by omega }
def Sh.qX7(a:Sh κ w db St A C N nM s D l wr nw)(j:s.wr=0)(h:s.bg<=100000000):
  Ω 29 #[ϖ db,ϐ true] w λe w'=>∃x t,e=ϱ (.tuple #[ϖ x,.nilIface])/\w.heap.size<=x/\t.St=St/\t.nr=s.bg+1/\t.wrt=true/\t.ch=0/\t.h=⟨⟨#[]⟩,s.rb,s.rs,none⟩/\Kp [St] w w'/\∃b:Sh κ w' db St A C N nM s.wrote D l wr nw,LiveT b.E w' x A N t s.wrote nw:=by
 let⟨c,n2,n3,n4⟩:=a.qU8;have d:=(AH a.hSt a.hM).symm;refine(RZ db St nM s D w a.hDb a.hSt a.hM a.po c d a.hM.lt j a.bg0 h).mono ?_;rintro e w' ⟨x,rfl,n,m,g,f,hK⟩;have b:Sh κ w' db St A C N nM s.wrote D l wr nw:=a.qO4 hK (sU c) (a.dev.qM3 hK (OffD.one a.hSt dC)) ⟨rfl,rfl,rfl,rfl,rfl,rfl⟩ g f a.m4 a.n1 (by show 0<=s.bg+1;have:=a.bg0;omega) (λk i=>by let⟨y,e1,e2,e3⟩:=a.kb k i;exact⟨y,e1,e2,by show y<=s.bg+1;omega⟩) a.rd;exact⟨x,_,rfl,n,rfl,rfl,rfl,rfl,rfl,hK,b,b.live m rfl rfl rfl rfl rfl⟩
def Sh.qV3(a:Sh κ w db St A C N nM s D l wr nw)(o:Maps.size D<4)(F:nM<=999999)(r:s.bg<=100000000):
  Ω 29 #[ϖ db,ϐ false] w λe w'=>∃x t D',e=ϱ (.tuple #[ϖ x,.nilIface])/\w.heap.size<=x/\t.St=St/\t.nr=s.bg+1/\t.wrt=false/\t.ch=0/\t.h=⟨⟨#[]⟩,s.rb,s.rs,none⟩/\Kp [St,s.M] w w'/\D'=D.put (χ (s.bg+1)) (Bq ⟨⟨#[]⟩,s.rb,s.rs,none⟩)/\∃b:Sh κ w' db St A C N (nM+1) s.read D' l wr nw,LiveT b.E w' x A N t s.read nw:=by
 let⟨m,n2,n3,n4⟩:=a.qU8;refine(RY db St nM s D w a.hDb a.hSt a.hM a.po m ((AH a.hSt a.hM).symm) n4 a.hM.lt o oM a.bg0 r).mono ?_;rintro e w' ⟨x,rfl,B,z,q,p,hK⟩;have v:=(OffD.one a.hSt dC).cons (λk d c G E e=>by rw[mS d]at e;exact absurd rfl (AH e a.hM));have u:Maps.has D (χ (s.bg+1))=false:=by
  cases hh:Maps.has D (χ (s.bg+1)) with
  | false=>rfl
  | true=>let⟨y,f,g,n⟩:=a.kb _ hh;cases f;omega
 have j:=a.hM.tidy CH;have b:Sh κ w' db St A C N (nM+1) s.read (D.put (χ (s.bg+1)) (Bq ⟨⟨#[]⟩,s.rb,s.rs,none⟩)) l wr nw:=by
  refine a.qO4 hK (by simp[m,n4]) (a.dev.qM3 hK v) ⟨rfl,rfl,rfl,rfl,rfl,rfl⟩ q p ?_ oM (by show 0<=s.bg+1;have:=a.bg0;omega) (λk d=>?_) (λy h g1 g2 g3=>?_)
  .rw[Maps.size_put j,if_neg (by simp[u])];omega
  .by_cases e:k=χ (s.bg+1)
   .exact⟨s.bg+1,e,oW a.bg0,iR _⟩
   .rw[Maps.has_put_other e]at d;let⟨y,f,g,n⟩:=a.kb k d;exact⟨y,f,g,by show y<=s.bg+1;omega⟩
  .by_cases e:χ y=χ (s.bg+1)
   .rw[e]at g2;have i:=g2 (.lit (.int .i64 0));rw[Maps.atKey_put_same j.isMap (show WideAt.IsKeyLit (χ _) from trivial)]at i;rw[Le i.symm g3 rfl];exact⟨rfl,nw,a.lie,a.qM7⟩
   .rw[Maps.has_put_other e]at g1;exact a.rd y h g1 (λzd=>by rw[<-g2 zd,Maps.atKey_put_other e]) g3
 exact⟨x,_,_,rfl,B,rfl,rfl,rfl,rfl,rfl,hK,rfl,b,b.live z rfl rfl rfl rfl rfl⟩
def Sh.leave(F:Nat)(a:Sh κ w db St A C N nM s D l wr nw){x:Nat}{t}{r}(d:LiveT a.E w x A N t s r)(m:t.St=St)(i:Calls prog F #[ϖ x] w λe w'=>e=ϱ .nilIface/\w'.heap[x]?=some (Ac t.ended)/\w'.heap[t.St]?=some (η 0 (s.left t.nr))/\RM w' s.V s.M nM (D.del (χ t.nr))/\Kp [t.St,x,s.M] w w'):
  Calls prog F #[ϖ x] w λe w'=>e=ϱ .nilIface/\w'.heap[x]?=some (Ac t.ended)/\Sh κ w' db St A C N nM (s.left t.nr) (D.del (χ t.nr)) l wr nw/\Kp [St,x,s.M] w w':=by
 subst m;let⟨o,n2,n3,n4⟩:=a.qU8;have j:=(OffD.one d.hSt dC).cons ((OffD.one d.hx dC).cons (λk b c q p e=>by rw[mS b]at e;exact absurd rfl (AH e a.hM)));refine i.mono ?_;rintro e w' ⟨rfl,n,g,f,hK⟩;refine⟨rfl,n,a.qO4 hK (by simp[o,n4];exact υ a.hDb d.hx dC) (a.dev.qM3 hK j) ⟨rfl,rfl,rfl,rfl,rfl,rfl⟩ g f ?_ a.n1 a.bg0 (λk b=>?_) (λy h g1 g2 g3=>?_),hK⟩
 .have:=Maps.size_del (k:=χ t.nr) (a.hM.tidy CH);have:=a.m4;omega
 .by_cases e:k=χ t.nr
  .rw[e,Maps.has_del_same]at b;cases b
  .rw[Maps.has_del_other e]at b;exact a.kb k b
 .by_cases e:χ y=χ t.nr
  .rw[e,Maps.has_del_same]at g1;cases g1
  .rw[Maps.has_del_other e]at g1;exact a.rd y h g1 (λzd=>by rw[<-g2 zd,Maps.atKey_del_other e]) g3
def Sh.abort(a:Sh κ w db St A C N nM s D l wr nw){x:Nat}{t}{r}(b:LiveT a.E w x A N t s r)(c:t.St=St)(d:0<=t.nr)(f:t.nr<=1000000000):
  Ω 36 #[ϖ x] w λe w'=>e=ϱ .nilIface/\w'.heap[x]?=some (Ac t.ended)/\Sh κ w' db St A C N nM (s.left t.nr) (D.del (χ t.nr)) l wr nw/\Kp [St,x,s.M] w w':=
 a.leave _ b c (Rj x nM t s D w b.hx b.over b.hSt a.po a.hM d f (by rw[c];exact(AH a.hSt a.hM).symm) b.xS (AH b.hx a.hM) a.hM.lt)
def Sh.qW2(a:Sh κ w db St A C N nM s D l wr nw){x:Nat}{t}{r}(b:LiveT a.E w x A N t s r)(c:t.St=St)(d:0<=t.nr)(f:t.nr<=1000000000)(g:t.wrt=false):
  Ω 31 #[ϖ x] w λe w'=>e=ϱ .nilIface/\w'.heap[x]?=some (Ac t.ended)/\Sh κ w' db St A C N nM (s.left t.nr) (D.del (χ t.nr)) l wr nw/\Kp [St,x,s.M] w w':=
 a.leave _ b c (qG1 x nM s.V t s D w b.hx b.over b.hSt a.po a.hM d f (by rw[c];exact(AH a.hSt a.hM).symm) b.xS (AH b.hx a.hM) a.hM.lt b.on g)
def Sh.again(c:Sh κ w db St A C N nM s D l wr nw){w'}{x:Nat}{t}{r}(a:LiveT c.E w x A N t s r)(f:t.St=St)(b:BadT c.E w w' t s):∃g:Sh κ w' db St A C N nM s D l wr nw,LiveT g.E w' x A N t s r:=by
 let⟨k,cA,e⟩:=c.hA;have d:Kp [t.St,A] w w':=b.kp;have h:Apt w [t.St,A] Bi:=(Apt.one a.hSt dC).cons (Apt.one e dC);refine⟨c.quiet a.hx (d.mono (by rw[f];intro i j _;simp at j |-;omega)) b.dev (by rw[<-f];exact b.hSt),?_⟩;exact { a with hx:=d.heap a.hx (by simp[a.xS,υ a.hx e dC]),hSt:=b.hSt,hV:=d.heap a.hV (by simp[υ a.hV a.hSt dC,υ a.hV e dC]),dev:=b.dev,rr:=a.rr.qO1 d h }
end
def Ew:ByteArray:=⟨#[255,255,255,255,255,255,255,255,255]⟩
def OB:∀(a)(n:Nat),a.length<n->Op.bytesLess a (List.replicate n 255)=true
 | [],n,h=>by
  obtain⟨m,rfl⟩:∃m,n=m+1:=⟨n-1,by simp at h;omega⟩;rfl
 | x::a,n,h=>by
  obtain⟨m,rfl⟩:∃m,n=m+1:=⟨n-1,by simp at h;omega⟩;have c:=OB a m (by simp at h;omega);rw[List.replicate_succ,Op.bytesLess,c];by_cases e:x=255
  .simp[e]
  .have:x.toNat≠255:=λh=>e (UInt8.toNat_inj.1 h);have:=x.toNat_lt;have b:x<255:=UInt8.lt_iff_toNat_lt.2 (by show x.toNat<255;omega);simp[b]
def qC8{ps}(h:∀p∈ps,AD p)(c:ps.length<=1048576):Bu ps ⟨#[]⟩ Ew 1048576=ps:=by
 unfold Bu;have e:ps.filter (inR ⟨#[]⟩ Ew)=ps:=List.filter_eq_self.2 λp d=>by
  have:=(h p d).2.1;unfold inR;rw[CW];have a:=OB p.k.toList 9 (by rw[ByteArray.toList_eq,Array.length_toList];have e:p.k.data.size=p.k.size:=rfl;omega);have b:Ew.toList=List.replicate 9 255:=by rw[ByteArray.toList_eq];rfl
  simp only[kl,b,a];rfl
 rw[e];exact tL c
def Lk{a:Kd}(b:0<=a.told)(c:a.told<=1000000000):a.told<a.up.told:=by show a.told<nx a.told;simp only[nx,wrap64];omega
def Dn.more{a:Kd}{A N C:Nat}{l:ϣ}{ws:ϥ}{wr:Int}{q:Ϥ}{w:Ϣ}(h:Dn a.up A N C l ws wr q w)(b:0<=a.told)(c:a.told<=1000000000):More w A a.told:=⟨_,Lk b c,h.tld⟩
def GE(i:Kd)(B e St A C n b:Nat)(j:Ϩ)(s:Sto)(l:ϣ)(wr:Int)(nw:Root)(k:KF)(w w':Ϣ):Prop:=Kp [B,St,s.M,A] w w'/\((Dn i.up A n C l [] wr [] w'/\w'.heap[B]?=some (kob k))\/
 ∃h a v f g d,Sh i w' e St A C n 1 h a l wr nw/\Maps.size a=0/\(∀m,Maps.has a (χ m)=false)/\h=s.read.left (s.bg+1)/\SPR w' v nw.cont/\w'.heap[B]?=some (kob { k.only f g b d with c:=v,com:=0,x:=some (ϰ e 0) })/\w'.ownsRow w.heap.size 126 1 (.slice (some (ϰ f 0)) 1 1) 1 [v]/\RowM w' w.heap.size (.slice (some (ϰ g 0)) (b+1) d) (b+1) (j++[v]))
def VY{κ}(B F St A C n:Nat)(s)(l)(wr:Int)(nw)(k:KF)(w)(G:w.heap[B]?=some (kob k))(ek:k.A=A)(hS:Sh κ w F St A C n 0 s emp l wr nw)(cn:s.bg=0)(dv:0<=κ.told)(W:κ.told<=1000000000)(hg:w.cell? (ϰ 0 0)=some Bd)(h0:0<St/\0<s.M/\0<A)
  (base m o d u:Nat) (pm pw) (y:List (List KV)) (L:Ϩ) (dr:k.may=.slice pm m o) (d0:k.qN4=.slice pw d u) (hm:RowC w base (.slice pm m o) y) (hk:RowM w base (.slice pw d u) d L) (dm:m=y.length) (dn:m<=5000000000) (dq:∀q∈y,q.length<=100000) (hk1:d<=100000) (d2:k.qO5=false) (dt:nw.cont∈y):
  Ω 131 #[ϖ B,ϖ F] w λe w'=>e=ϱ (ϐ true)/\GE κ B F St A C n d L s l wr nw k w w':=by
 have ei:=U G;let⟨vA,cA,hA⟩:=hS.hA;have bl:=hid (show Tld w A κ.told/\0<=κ.told/\κ.told<=1000000000 from⟨(show Dw _ _ _ _ _ _ _ _ _ w from hS.dev).n.tld,dv,W⟩);have HG:=hid (And.intro hg h0);have ed:=hid d2;have ds:=(Gp hS.qM7).2;have du:=(Ga hS.lie hS.qM7 hS.N4).2;have ea:=hid (show Bu nw.cont ⟨#[]⟩ Ew 1048576=nw.cont from qC8 ds oM);have dd:=hid du;have HB:=hid G;have HM:=hid (show k.may=.slice pm m o/\k.qN4=.slice pw d u/\RowC w base (.slice pm m o) y/\RowM w base (.slice pw d u) d L/\m=y.length/\d<=100000/\m<=5000000000/\(∀q∈y,q.length<=100000) from⟨dr,d0,hm,hk,dm,hk1,dn,dq⟩);have HA:=hid hA;subst ek;have b0:=ϻ G 0;have cy:=hid (show Ω 29 #[ϖ F,.bool false] w _ from hS.qV3 dC dC (by rw[cn];decide));have E:=hid (show B∉[St,s.M]/\B≠k.A from⟨by simp only[List.mem_cons,List.not_mem_nil,or_false,not_or];exact⟨υ G hS.hSt dC,AH G hS.hM⟩,υ G hA dC⟩);have eb:=hid dt;have da:=hid hS;have HZ:=hid cn;clear G hm hk dr d0 hk1 ds du dt hS cn dm dn dq hg h0 dv W d2;have hAs:=U hA;clear hA;go_enter func131,ntmps131;go_wp2_with fail;refine bl.1.call.mono ?_;rintro e w ⟨rfl,rfl⟩;go_wp2_with fail;refine(show Calls _ _ _ _ _ from cy).mono ?_;rintro e w1 ⟨x,t,D1,rfl,d3,W,dw,em,en,eo,hK1,bg,hS1,hL1⟩;have cz:=hid hK1;have cx:=hid (hK1.heap HB E.1);have j:=hid (show t.St=St/\t.nr=s.bg+1/\w.heap.size<=x/\D1=emp.put (χ (s.bg+1)) (Bq ⟨⟨#[]⟩,s.rb,s.rs,none⟩) from⟨W,dw,d3,bg⟩);have a1:=hid (show Ω 71 #[ϖ x,.string ⟨#[]⟩,.string Ew,ϊ 1048576] w1 _ from KK hS1.E x k.A n t s.read nw ⟨#[]⟩ Ew 1048576 w1 (.inl hL1) dC dC);have Q:=hid hL1;rw[ea.out,Ew]at a1;clear d3 W dw em en eo hK1 bg hL1 b0 cy
 go_wp2_with (go_at_call 24;refine(KZ _).mono ?_;rintro e w1 ⟨rfl,rfl⟩)
 go_wp2_with (go_at_call 127;refine(BN _ _).mono ?_;rintro e w1 ⟨rfl,rfl⟩)
 refine(show Calls _ _ _ _ _ from a1).mono ?_;rintro e w2 ⟨v,d4,ko,rfl,cs,cq⟩;rcases cq with⟨rfl,hv,ca⟩|⟨rfl,cq⟩
 rotate_left
 .rcases cq with⟨cp,_,dk,_,hK2⟩|⟨_,ho,_⟩
  rotate_left
  .rcases ho with e|e
   .rw[Q.out.po]at e;cases e
   .rw[Q.out.over]at e;cases e
  replace hK2:Kp [t.St,k.A] w1 w2:=hK2
  rw[j.out.1]at hK2;have dj:=(show Dw _ _ _ _ _ _ _ _ _ w2 from dk).n;have N:=hid (hK2.heap cx (by simp only[List.mem_cons,List.not_mem_nil,or_false,not_or];exact⟨λe=>E.1 (by simp[e]),E.2⟩));have ad:=hid (show Kp [St,s.M,k.A] w w2 from(cz.mono (by simp +contextual)).trans hK2 (by simp +contextual));have dl:=(ad.cell (a:=(ϰ 0 0)) (Nat.lt_of_le_of_lt (Nat.zero_le B) ei) (by have h:=HG.out.2;simp;omega)).trans HG.1;have HD2:=hid dj;have es:=hid cp;let⟨tk,htk⟩:=eY (Ce ko);obtain rfl:(8:Int)=tk:=(Ci cp).1.symm.trans htk;have bb:=hid (Dh d4 ko w2 dl cs);rw[htk]at bb;clear dk hK2 dj cp dl htk cs a1 Q;go_wp2_with fail;refine(show Calls _ _ _ _ _ from bb).mono ?_;rintro e w3 ⟨rfl,z⟩;have HD3:=hid (HD2.qM4 z);have HE:=hid (show GE κ B F St k.A C n d L s l wr nw k w w3 from⟨(ad.mono (by simp +contextual)).tr z,.inl ⟨HD3,z.hp N⟩⟩);have I:=z.hp N.out;have:=U I;have b0:=ϻ I 0;have aa:=Lk bl.2.1 bl.2.2;clear z I bb
  go_wp2_with (go_at_call 127;refine(BN _ _).mono ?_;rintro e w3 ⟨rfl,rfl⟩)
  refine(show Calls _ _ _ _ _ from HD3.tld.call).mono ?_;rintro e w3 ⟨rfl,rfl⟩;go_wp2;go_ret;exact⟨rfl,HE⟩
 obtain rfl:d4=.nilIface:=cs;let⟨bt,hL2⟩:=hS1.again Q j.1 ca;have hK2:Kp [t.St,k.A] w1 w2:=ca.kp;rw[j.out.1]at hK2;have N:=hid (hK2.heap cx (by simp only[List.mem_cons,List.not_mem_nil,or_false,not_or];exact⟨λe=>E.1 (by simp[e]),E.2⟩));have ad:=hid hK2;obtain⟨vb,er,rfl⟩:=hv.form;let⟨vn,cu⟩:=eX nw.cont.length;have ec:=hid cu;have c6:=hid hv;have cv:=hid (show Ω 36 #[ϖ x] w2 _ from bt.abort hL2 j.1 (by rw[j.out.2.1,HZ.out];decide) (by rw[j.out.2.1,HZ.out];decide));have df:=hid hL2.hx;rw[<-cu];clear ca hK2 cu hL2 a1 Q
 go_wp2_with (go_at_call 24;refine(KZ _).mono ?_;rintro e w2 ⟨rfl,rfl⟩)
 go_wp2_with (go_at_call 127;refine(BN _ _).mono ?_;rintro e w2 ⟨rfl,rfl⟩)
 refine(show Calls _ _ _ _ _ from cv).mono ?_;rintro e w3 ⟨rfl,ep,bu,z⟩;have a5:s.read.M=s.M:=rfl;have dg:=υ N df dC;have O:=hid (z.heap N (by rw[a5];simp only[List.mem_cons,List.not_mem_nil,or_false,not_or];exact⟨λe=>E.1 (by simp[e]),dg,λe=>E.1 (by simp[e])⟩));have a0:=hid (show Kp [St,s.M,k.A] w w3 from((cz.mono (by simp +contextual)).trans ad (by simp +contextual)).trans z (by
  intro i hi aa;have:=j.out.2.2.1;rw[a5]at hi;simp only[List.mem_cons,List.not_mem_nil,or_false]at hi |-;omega))
 have cr:=c6.out.qM3 z (λq hq c fr e=>by
  rw[a5]at hq;simp only[List.mem_cons,List.not_mem_nil,or_false]at hq;rcases hq with rfl|rfl|rfl
  .rw[bt.hSt]at e;cases e
  .rw[df.out]at e;cases e
  .exact absurd rfl (AH e bt.hM))
 rw[<-ec.out]at cr;have H:∀q c t fr,w.heap[q]?=some (ϲ c t fr)->q∈[St,s.M,k.A]->t≠126/\t≠284:=λq c t fr e hq=>by
  simp only[List.mem_cons,List.not_mem_nil,or_false]at hq;rcases hq with rfl|rfl|rfl
  .rw[da.out.hSt]at e;cases e;decide
  .exact absurd rfl (AH e da.hM)
  .rw[HA.out]at e;cases e;decide
 have c2:=hid (show RowC w3 base (.slice pm m o) y/\RowM w3 base (.slice pw d u) d L from⟨HM.2.2.1.kp a0 H,HM.2.2.2.1.kp a0 λq c t fr e hq=>(H q c t fr e hq).1⟩);have g:=hid bu;have I:=O.out;have eg:=U I;clear z H ep bt hS1 cv bu a5 dg c6;go_wp2_with fail;refine(show Calls _ _ _ _ _ from(by have h:=Pr (.slice vb vn er) nw.cont w3 cr.sp (by have:=dd.out;omega);exact h)).mono ?_;rintro e w4 ⟨v4,rfl,cl,hK4⟩;obtain⟨vp,vc,rfl⟩:=cl.form;let⟨vl,ct⟩:=eX nw.cont.length;rw[<-ct];have D:=hK4.hp I;have a7:=hid D;have:=U D;have de:=hid (show SPR w4 (.slice vp vl vc) nw.cont from by rw[ct];exact cl.sp);have ba:=hid (show RowC w4 base (.slice pm m o) y/\RowM w4 base (.slice pw d u) d L from⟨c2.1.qM4 hK4,c2.2.qM3 hK4 (by intro q hq;cases hq)⟩);have c0:=hid (show Kp [] w3 w4 from hK4);have b1:=ϻ D 1;have b2:=ϻ D 2;have b3:=ϻ D 3;have b4:=ϻ D 4;have b5:=ϻ D 5;have b6:=ϻ D 6;rw[HM.out.1]at b2;rw[HM.out.2.1]at b4;have a8:=hid (show Ω 190 #[.agg #[ϊ k.n,.slice pm m o,.bool k.emp,.slice pw d u,.bool k.qO5,.bool k.bit],.slice vp vl vc] w4 λr w'=>r=ϱ (.bool (decide (nw.cont∈y)))/\Kp [] w4 w' from by
  have h:=WA base pm o (.slice pw d u) (.slice vp vl vc) k.n k.emp k.qO5 k.bit y nw.cont w4 (by have h:=ba.out.1;rw[HM.out.2.2.2.2.1]at h;exact h) de (by have:=dd.out;omega) HM.2.2.2.2.2.2.2 (by have h:=HM.out.2.2.2.2.2.2.1;rw[HM.out.2.2.2.2.1]at h;exact h);rw[<-HM.out.2.2.2.2.1]at h;exact h)
 obtain⟨hs0,co⟩:∃b,b=decide (nw.cont∈y):=⟨_,rfl⟩;rw[<-co]at a8;have d7:=hid co;clear cl ct D hK4 I cr eg co;go_wp2_with fail;refine(show Calls _ _ _ _ _ from a8).mono ?_;rintro e w5 ⟨rfl,cb⟩;have M:=cb.hp a7.out;have ev:=U M;clear b1 b2 b3 b4 b5 b6 a8;have b5:=ϻ M 5;have b8:=ϻ M 8;have ef:=ρ M 8;have d5:=hid M;have d8:=hid cb;clear M cb;rw[ed.out]at b5;have hh:hs0=true:=by rw[d7.out];exact decide_eq_true eb
 subst hh;go_wp2_with fail;obtain⟨f,dx,bs,a3⟩:∃f,f=w5.setCell (ϰ B 8) (.slice vp vl vc)/\f.heap[B]?=some (kob { k with c:=.slice vp vl vc })/\Kp [B] w4 f:=⟨_,rfl,ξ d5 8 _,(d8.mono sM).sc _⟩;rw[<-dx];clear dx b8 ef;have P:=hid bs;have a9:=hid a3;have H:∀q c t fr,w4.heap[q]?=some (ϲ c t fr)->q∈[B]->t≠126:=λq c t fr e hq=>by
  rw[List.mem_singleton.1 hq,a7.out]at e;cases e;decide
 have c3:=hid (show(∃xm,RowM f.drew base (.slice pm m o) m xm)/\RowM f.drew base (.slice pw d u) d L from⟨by let⟨xm,a6,_⟩:=ba.out.1;rw[<-HM.out.2.2.2.2.1]at a6;exact⟨xm,(a6.kp a3 H).qM3 ((Kp.refl [] _).drew) (by intro q hq;cases hq)⟩,(ba.2.kp a3 H).qM3 ((Kp.refl [] _).drew) (by intro q hq;cases hq)⟩);have:B<f.drew.heap.size:=U bs;clear bs a3 H;refine shr (α:=Prop) (R:=λX=>X) ?_;apply Exists.intro;apply And.intro
 rotate_left
 .intro HREST;have Tz:Hid (∀{p:Prop},(_h:p:=by
   refine AllReady.cons rfl (λK hK=>?_) (AllReady.cons rfl (λK hK=>?_) AllReady.nil)
   .refine AU rfl (Cw (t:=123) rfl kR 6 kR B 1 rfl (show f.drew.heap[B]?=_ from P) (by simp[kob]) (show _=#[ϊ k.n,.slice pm m o,.bool k.emp,.slice pw d u,.bool k.qO5,.bool k.bit] from by (try simp only[kob]);rw[HM.out.1,HM.out.2.1];rfl)) ?_;refine hK _ _ ?_
    try simp only[zZ]
    refine zQ 8 λK hK=>?_;refine AU rfl (Cw (t:=126) rfl kR 1 kR B 8 rfl (show f.drew.heap[B]?=_ from P) (by simp[kob]) (show _=#[.slice vp vl vc] from rfl)) ?_;refine hK _ _ ?_
    try simp only[zZ]
    exact HREST
   .refine AU rfl (Cw (t:=126) rfl kR 1 kR B 8 rfl (show f.drew.heap[B]?=_ from P) (by simp[kob]) (show _=#[.slice vp vl vc] from rfl)) ?_;refine hK _ _ ?_
    try simp only[zZ]
    refine zQ 4 λK hK=>?_;refine AU rfl (Cw (t:=123) rfl kR 6 kR B 1 rfl (show f.drew.heap[B]?=_ from P) (by simp[kob]) (show _=#[ϊ k.n,.slice pm m o,.bool k.emp,.slice pw d u,.bool k.qO5,.bool k.bit] from by (try simp only[kob]);rw[HM.out.1,HM.out.2.1];rfl)) ?_;refine hK _ _ ?_
    try simp only[zZ]
    exact HREST)->p):=λh=>h;exact QM
 refine zQ 9 λK hK=>?_;go_simp;let⟨xm,a6⟩:=c3.out.1;refine(Kx base m o d u pm pw k.n k.emp k.qO5 k.bit vp vl vc f.drew a6 c3.2 HM.2.2.2.2.2.2.1 HM.2.2.2.2.2.1).mono ?_;rintro e Z ⟨gm,gw,a2,rfl,dp,d1,cc⟩;have V:=cc.heap (k:=B) P sM;have dc:=hid V;have c1:=hid cc;have c4:=hid (And.intro dp d1);have eu:=U V;refine hK _ _ ?_;clear hK K cc dp d1
 try simp only[zZ]
 refine zu 10 (ϖ B) ?_;refine zu 11 (.pointer (some (ϰ B 1))) ?_;have b1:=Y V;simp only[kob,zG,zH,zI]at b1;have ee:=ρ V;clear V;refine zQ 12 λK hK=>?_;go_simp;refine hK _ _ ?_;refine wpAny_done kR ?_ _;obtain⟨w8,dy,S,dh⟩:∃w8,w8=(((((Z.setCell (ϰ B 1) (ϊ k.n)).setCell (ϰ B 2) (.slice (some (ϰ gm 0)) 1 1)).setCell (ϰ B 3) (.bool false)).setCell (ϰ B 4) (.slice (some (ϰ gw 0)) (d+1) a2)).setCell (ϰ B 5) (.bool k.qO5)).setCell (ϰ B 6) (.bool k.bit)/\w8.heap[B]?=some (kob { k.only gm gw d a2 with c:=.slice vp vl vc })/\Kp [B] Z w8:=
  ⟨_,rfl,ξ (ξ (ξ (ξ (ξ (ξ dc 1 _) 2 _) 3 _) 4 _) 5 _) 6 _,(((((((Kp.refl [B] Z).sc _).sc _).sc _).sc _).sc _).sc _)⟩
 rw[<-dy];clear dy b1 ee;have:=U S;have b7:=Y S;simp only[kob,zG,zH,zI]at b7;have et:=ρ S;have d6:=hid S;have d9:=hid dh;clear S dh;go_wp2;go_ret;obtain⟨w9,dz,eh,a4⟩:∃w9,w9=(w8.setCell (ϰ B 7) (ϖ F)).setCell (ϰ B 9) (ϊ 0)/\w9.heap[B]?=some (kob { k.only gm gw d a2 with c:=.slice vp vl vc,com:=0,x:=some (ϰ F 0) })/\Kp [B] Z w9:=⟨_,rfl,ξ (ξ d6 7 _) 9 _,(d9.sc _).sc _⟩;rw[<-dz];clear dz;have T:Kp [B] w3 w9:=(((c0.mono sM).tr a9).trans (((Kp.refl [] _).drew).tr c1) sM).tr a4;have ej:=(a9.trans (((Kp.refl [] _).drew).tr c1) sM).tr a4;have di:∀q c t fr,Z.heap[q]?=some (ϲ c t fr)->q∈[B]->t≠126:=λq c t fr e hq=>by
  rw[List.mem_singleton.1 hq,dc.out]at e;cases e;decide
 have hsz:w.heap.size<=f.drew.heap.size:=by
  have h1:=a0.out.size;have h2:=c0.out.size;have:=a9.out.size;show w.heap.size<=f.heap.size;omega
 have el:=OffD.one O dC;let⟨m1,m2,m3,m4⟩:=g.out.qU8;refine⟨rfl,(a0.mono (by simp +contextual)).trans T (by simp +contextual),.inr ⟨_,_,.slice vp vl vc,gm,gw,a2,g.qO4 T (by simpa using υ g.hDb O dC) ((show Dw _ _ _ _ _ _ _ _ _ w3 from g.dev).qM3 T el) ⟨rfl,rfl,rfl,rfl,rfl,rfl⟩ (T.heap g.hSt (by simpa using υ g.hSt O dC)) (g.hM.kp T (by simpa using(AH O g.hM).symm)) g.m4 g.n1 g.bg0 g.kb g.rd,?_,?_,by rw[j.out.2.1],de.qM3 ej (λq hq c t fr e hm=>by rw[List.mem_singleton.1 hq,a7.out]at e;cases e;revert hm;decide),eh,Bp (Ct c4.1 hsz) a4 di,(c4.2.le hsz).kp a4 di⟩⟩
 .rw[j.out.2.1,j.out.2.2.2,HZ.out];rfl
 .intro m;rw[j.out.2.1,j.out.2.2.2,HZ.out];rfl
def Fy(a:Kd)(B C d:Nat)(h:Ϩ)(l:ϣ)(ws:ϥ)(wr f:Int)(q:Ϥ)(e:List (List KV))(k:KF)(w w':Ϣ):Prop:=(w'.heap[B]?=some (kob k.shut)/\(Dn a k.A k.n C l ws wr q w'\/Dn a.up k.A k.n C l ws wr q w')/\Kp [B,k.A,C] w w')\/
 ∃r V M St b g rs N c,r.cont∈e/\N<=f/\w.heap.size<=V/\w.heap.size<=M/\w.heap.size<=St/\w.heap.size<=b/\Kp [B,k.A,C] w c/\GE a B b St k.A C k.n d h ⟨V,M,N,g,rs,AE r,false,0,0⟩ (laidAll l ws) wr r k.shut c w'
def Zi{κ}(B C:Nat)(k:KF)(l)(ws)(wr y:Int)(q)(w)(H:w.heap[B]?=some (kob k))(i:Dn κ k.A k.n C l ws wr q w)(au:y<=1000000000)(av:0<=κ.told)(aw:κ.told<=1000000000)(hg:w.cell? (ϰ 0 0)=some Bd)(h0:0<B/\0<k.A/\0<C)
  (base m cm f cw:Nat) (pm pw) (g:List (List KV)) (s:Ϩ) (ar:k.may=.slice pm m cm) (ay:k.qN4=.slice pw f cw) (hm:RowC w base (.slice pm m cm) g) (hk:RowM w base (.slice pw f cw) f s) (Z:m=g.length) (ap:m<=5000000000) (aq:∀q∈g,q.length<=100000) (ao:f<=100000) (az:k.qO5=false) (hp:(8<=k.n/\k.n<=400)->Pend k.n l ws (λc=>c∈g) (k.emp=true\/g=[]) y):
  Ω 81 #[ϖ B] w λe w'=>e=ϱ (ϐ true)/\Fy κ B C f s l ws wr y q g k w w':=by
 have ba:=U H;let⟨p,vA,cA,W⟩:=i.at;have HB:=hid H;have ag:=hid (show B≠k.A/\B≠C from⟨υ H W dC,υ H i.hC dC⟩);have F:=hid (And.intro i (And.intro au hp));have L:=hid (And.intro av aw);have aj:=hid az;have h:=hid (And.intro ar (And.intro ay (And.intro hm (And.intro hk (And.intro Z (And.intro ap (And.intro aq ao)))))));have HG:=hid (And.intro hg h0);clear H i au hp ar ay hm hk Z ap aq ao az hg h0 W av aw;go_enter func81,ntmps81;go_wp2_with fail;apply mR (Jk B k w HB);rintro w1 ⟨X,aa⟩;have ad:=F.out.1.qM3 aa (OffD.one HB dC);have a8:=ad.tld;have:=U X;have b0:=Y X 0;simp[kob,KF.shut,zG,zH,zI]at b0;have a0:=hid X;have ah:=hid aa;have a3:=hid (show Ω 43 #[ϖ k.A] w1 _ from Zf ad F.2.1 F.2.2);clear X aa ad;go_wp2_with fail;apply a8.call.mono;rintro e w1 ⟨rfl,rfl⟩;go_wp2_with fail;apply(show Calls _ _ _ _ _ from a3).mono;rintro e w2 ⟨v,ko,xo,rfl,hv,ak,bj⟩;have a2:=hid (show B∉[k.A,C] from by simp[ag.out.1,ag.out.2]);have a9:=ak.heap a0 a2.out;have am:Kp [B,k.A,C] w w2:=(ah.mono sM).trans ak (by simp +contextual);have ae:=(am.cell (a:=(ϰ 0 0)) (Nat.lt_of_le_of_lt (zL B) ba) (by have:=HG.out.2;simp;omega)).trans HG.1;have K:=hid am;have E:=hid ah.size;have a6:=hid bj;have af:=hid a9;go_wp2_with fail;let⟨tk,ax⟩:=eY (Ce ko);have a4:=hid ae;apply(Dh v ko w2 ae hv).mono;rintro e w3 ⟨A,ab⟩;rw[ax]at A;subst A;have O:=hid ax;have j:=ab.hp af.out;have:=U j;have b1:=Y j 1;have P:=Y j 2;have G:=Y j 3;have b4:=Y j 4;have Q:=Y j 5;have b6:=Y j 6;simp[kob,KF.shut,zG,zH,zI]at b1 P G b4 Q b6;have a1:=hid j;have a5:=hid ab;clear ab ae hv j
 go_wp2_with (go_at_call 127;apply mR (BN _ _);rintro w3 rfl)
 apply mR (Nj _ _ k.n _ _ _ w3);rintro o al;have n:=al.hp a1.out;have:=U n;have b:=hid (show Kp [] w2 o from a5.tr al);have I:=hid n;rcases a6 with⟨rfl,r,V,M,St,R,rb,rs,N,rfl,hV,hM,bd,be,x,bb,d⟩|⟨bi,u,rfl,i⟩|⟨rfl,u,bf,rfl,i⟩|⟨rfl,u,rfl,i⟩
 .have u:=n2 d.N8 d.N4;rw[decide_eq_true u];obtain rfl:(0:Int)=tk:=O.out;have ac:=K.out.tr b.out;have an:∀q c t S,w.heap[q]?=some (ϲ c t S)->q∈[B,k.A,C]->t≠126/\t≠284:=λq c t S e x=>by
   simp[mC,lN,or_false]at x;let⟨_,_,_,W⟩:=F.out.1.at;rcases x with rfl|rfl|rfl
   .rw[HB.out]at e;cases e;decide
   .rw[W]at e;cases e;decide
   .rw[F.out.1.hC]at e;cases e;decide
  have bc:=d.qO4 b sM ((show Dw _ _ _ _ _ _ _ _ _ w2 from d.dev).qM4 b) ⟨rfl,rfl,rfl,rfl,rfl,rfl⟩ (b.hp d.hSt) (d.hM.kp b sM) d.m4 d.n1 d.bg0 d.kb d.rd;have:=b.out.size;have bh:=(b.cell (a:=(ϰ 0 0)) (Nat.lt_of_le_of_lt (zL B) (U af)) sM).trans a4.out;have:=E.out;have bg:=VY B R St k.A C k.n ⟨V,M,N,rb,rs,AE r,false,0,0⟩ (laidAll l ws) wr r k.shut o I rfl bc rfl L.1 L.2 bh ⟨oM,dO,HG.2.2.1⟩ base m cm f cw pm pw g s h.1 h.2.1 (h.2.2.1.kp ac an) (h.2.2.2.1.kp ac λq c t S e x=>(an q c t S e x).1) h.2.2.2.2.1 h.2.2.2.2.2.1 h.2.2.2.2.2.2.1 h.2.2.2.2.2.2.2 aj x;have HF:=hid (show Ω 131 #[ϖ B,ϖ R] o _ from bg);have ai:=hid (show ∀D,GE κ B R St k.A C k.n f s ⟨V,M,N,rb,rs,AE r,false,0,0⟩ (laidAll l ws) wr r k.shut o D->Fy κ B C f s l ws wr y q g k w D from λD T=>.inr ⟨r,V,M,St,R,rb,rs,N,o,x,bb,lT E hV,lT E hM,lT E bd,lT E be,ac,T⟩);go_wp2_with fail;apply mR (show Calls _ _ _ _ _ from HF);rintro D T;have H5:=hid (ai D T);clear T HF ai;go_wp2;go_ret;exact⟨rfl,H5⟩
 .rw[decide_eq_true u];obtain rfl:(8:Int)=tk:=(Ci bi).1.symm.trans O.out;have HD:=hid (i.qM4 b);have z:=hid (show Fy κ B C f s l ws wr y q g k w o from .inl ⟨I,.inr HD,K.tr b⟩);have b0:=Y n 0;simp[kob,KF.shut,zG,zH,zI]at b0;have bk:=Lk L.1 L.2;go_wp2_with fail;apply mR (show Calls _ _ _ _ _ from HD.tld.call);rintro D rfl;go_wp2;go_ret;exact⟨by simp[bk],z⟩
 .rw[decide_eq_true u];obtain rfl:(9:Int)=tk:=O.out;have z:=hid (show Fy κ B C f s l ws wr y q g k w o from .inl ⟨I,.inl (i.qM4 b),K.tr b⟩);have b1:=Y n 1;have P:=Y n 2;have G:=Y n 3;have b4:=Y n 4;have Q:=Y n 5;have b6:=Y n 6;simp[kob,KF.shut,zG,zH,zI]at b1 P G b4 Q b6;rw[h.out.1]at P;rw[aj.out]at Q;have a7:=hid h.2.2.2.2.1;by_cases A:k.emp=true
  .rw[A]at G;go_wp2;go_ret;exact⟨rfl,z⟩
  .rw[show k.emp=false by simpa using A]at G;have Z:m=0:=by rw[a7.out,bf.resolve_left A];rfl
   subst Z;go_wp2;go_ret;exact⟨rfl,z⟩
 .rw[decide_eq_false u];obtain rfl:(10:Int)=tk:=O.out;have z:=hid (show Fy κ B C f s l ws wr y q g k w o from .inl ⟨I,.inl (i.qM4 b),K.tr b⟩);go_wp2;go_ret;exact⟨rfl,z⟩
def TA(St:Nat)(s)(h)(w)(d:w.heap[St]?=some (η 1 s))
  (g:∀W:Ϣ,Sem.run prog (Op.equalIn 10000 89 (θ s.V h) (θ s.V ⟨⟨#[]⟩,s.rb,s.rs,none⟩)) W=.ok true W):
  Ω 70 #[ϖ St,θ s.V h] w λe w'=>e=ϱ (.tuple #[])/\Kp [] w w':=by
 rw[θ,show θ s.V ⟨⟨#[]⟩,s.rb,s.rs,none⟩=.agg #[ϖ s.V,ϕ ⟨#[]⟩,ϊ s.rb,.int .u64 s.rs,ϗ none] from rfl]at g;rw[θ];go_enter func70,ntmps70;go_wp2_with fail;let⟨j,i,f,a,k⟩:=AZ w (ϲ (ϟ s.V h) 89);rw[<-i];refine mR (Gk St 1 s j (a.hp d)) ?_;rintro m b;rw[show θ s.V ⟨⟨#[]⟩,s.rb,s.rs,none⟩=.agg #[ϖ s.V,ϕ ⟨#[]⟩,ϊ s.rb,.int .u64 s.rs,ϗ none] from rfl];have c:=b.hp f;have:=U c;have:=Y c;go_wp2;apply bodyPost_ret (results_none results70 _ _ _) rfl;exact⟨rfl,(zh (a.tr b)).alloc _⟩
section
variable {κ:Kd} {w:Ϣ} {db St A C N nM:Nat} {s:Sto} {D:Ϫ} {l:ϣ} {wr:Int} {nw:Root}
def LiveT.lie{x:Nat}{t}{r}(g:LiveT (EF κ s.V A N C l wr) w x A N t s r)(h:t.h.p=none):Lie N l t.h.b t.h.s r:=by
 have c:=g.rr
 cases r with
 | none=>rw[show t.h=_ from c];exact⟨rfl,rfl⟩
 | «at» n L=>
  have a:=c.2
  cases hx:L.ref with
  | none=>
   rw[hx]at a;let⟨_,_,q,e,_⟩:=a;rw[h]at e;cases e
  | some x=>
   rw[hx]at a;let⟨d,b,_,f⟩:=a;refine⟨x.1,d,?_,?_⟩
   .rw[hx,b]
   .rw[b];exact f
def CmE(κ:Kd)(w:Ϣ)(db St A C N nM x:Nat)(s:Sto)(D:Ϫ)(l:ϣ)(wr:Int)(nw r:Root)(t:Tx)(e:Ending)(w':Ϣ):Prop:=
 ∃v k,e=ϱ v/\ErrV w' v k/\w'.heap[x]?=some (Ac t.ended)/\Kp [St,x,s.M,A,C] w w'/\((k=none/\∃s' l' wr' nt,Sh κ w' db St A C N nM s' (D.del (χ t.nr)) l' wr' nt/\nt.cont=r.cont/\s'.N<=s.N+2/\s'.bg=s.bg/\s'.wr=(s.left t.nr).wr/\s'.V=s.V/\s'.M=s.M/\l'.length=l.length/\IQ N (D.del (χ t.nr)) l l'/\(wr'=wr\/(wr'=nx (nk (nx wr) r.news)/\r.lev<=5)))\/(k=some 3/\Sh κ w' db St A C N nM (s.left t.nr) (D.del (χ t.nr)) l wr nw/\∀Uu,IM N (D.del (χ t.nr)) l Uu->N<2+r.news+AE r+AE nw+qM2 Prod.snd Uu)\/(ioK k=true/\Lu κ w w' A C N St s l wr nw r))
def Sh.qW3(a:Sh κ w db St A C N nM s D l wr nw){x:Nat}{t}{r}(b:LiveT a.E w x A N t s r)(H:t.St=St)(I:t.wrt=true)(u:0<=t.nr)(z:t.nr<=1000000000)(aa:s.N<=1000000000):
  Ω 31 #[ϖ x] w (CmE κ w db St A C N nM x s D l wr nw r t):=by
 have:=Maps.size_del (k:=χ t.nr) (a.hM.tidy CH);have:=a.m4;have n:∀k,Maps.has (D.del (χ t.nr)) k=true->Maps.has D k=true/\∀zd,(D.del (χ t.nr)).atKey k zd=D.atKey k zd:=λk d=>by
  by_cases e:k=χ t.nr
  .rw[e,Maps.has_del_same]at d;cases d
  .rw[Maps.has_del_other e]at d;exact⟨d,λzd=>Maps.atKey_del_other e zd⟩
 have G:(∀W:World,Sem.run prog (Op.equalIn 10000 89 (θ s.V t.h) (θ s.V ⟨⟨#[]⟩,s.rb,s.rs,none⟩)) W=.ok false W)->Ω 31 #[ϖ x] w (CmE κ w db St A C N nM x s D l wr nw r t):=λo=>by
  refine(qE1 a x t r b H I u z o n oM aa).mono ?_;rintro e w' ⟨v,k,L,M,O,P,Q⟩;refine⟨v,k,L,M,O,P,Q.imp ?_ id⟩;rintro⟨R,g,l',nt,V,X,Z,b5,b6,b7,b8,b9,S,T⟩;exact⟨R,g,l',_,nt,V,X,Z,b5,b6,b7,b8,b9,S,.inr ⟨rfl,T⟩⟩
 cases hp:t.h.p with
 | some q=>exact G (λW=>qI2 s.V q t.h s.rb s.rs hp b.key W)
 | none=>
  by_cases f:t.h.b=s.rb/\t.h.s=s.rs
  .have o:∀W:World,Sem.run prog (Op.equalIn 10000 89 (θ s.V t.h) (θ s.V ⟨⟨#[]⟩,s.rb,s.rs,none⟩)) W=.ok true W:=λW=>by rw[Qk s.V t.h s.rb s.rs hp b.key W];simp[f]
   have ab:Lie N l s.rb s.rs r:=by
    have h:=LiveT.lie b hp;rw[f.1,f.2]at h;exact h
   subst H;let⟨vA,cA,hA⟩:=a.hA;have F:=(AH a.hSt a.hM).symm;have ad:=AH b.hx a.hM;have ac:=(OffD.one b.hSt dC).cons ((OffD.one b.hx dC).cons (λk d c ty fr e=>by rw[mS d]at e;exact absurd rfl (AH e a.hM)));let⟨n1,n2,n3,n4⟩:=a.qU8;refine(Qh x nM s.V t s D [] (λk g W p=>k=none/\g=s.left t.nr/\Kp [] W p) w b.hx b.over a.hSt a.po a.hM u z F b.xS ad a.hM.lt b.on I sM ?_).mono ?_
   .intro W hK K m E;refine mR (TA t.St (s.left t.nr) t.h W m o) ?_;rintro p j;exact⟨none,s.left t.nr,sM,rfl,⟨rfl,rfl,j⟩,j.mono sM,j.hp m⟩
   .rintro e w' ⟨k,g,v,rfl,hv,hs2,hKw,W,p,B,hK,K,m,E,⟨rfl,rfl,hR⟩,_,hs1,hB0,hB1,hKB⟩;have:=U b.hx;have:=a.hM.lt;refine⟨v,none,rfl,hv,hKB.heap (hR.hp K) (by simp[b.xS];omega),hKw.mono (by intro i hi _;simp at hi |-;omega),.inl ⟨rfl,s.left t.nr,l,wr,nw,?_,(Lie.one a.N1 a.lie ab).1,(by show s.N<=s.N+2;omega),rfl,rfl,rfl,rfl,rfl,λ_ _ _ _ _ _ h=>h,.inl rfl⟩⟩;rw[Sto.qO8 rfl]at hs2;refine a.qO4 hKw (by simp[n1,n4];exact υ a.hDb b.hx dC) (((a.dev.qM3 hK ac).qM4 hR).qM3 hKB (Cs hs1 hB1)) ⟨rfl,rfl,rfl,rfl,rfl,rfl⟩ hs2 ((E.kp hR sM).kp hKB (by simp[F];omega)) oM a.n1 a.bg0 (λk d=>a.kb k (n k d).1) (λy h g1 g2 g3=>?_);let⟨f1,f2⟩:=n _ g1;exact a.rd y h f1 (λzd=>(f2 zd).symm.trans (g2 zd)) g3
  .exact G (λW=>by rw[Qk s.V t.h s.rb s.rs hp b.key W];simp[f])
end
namespace Gf
open Gw (TK Books CI CD Muts MutC DInv CO DStep)
open Go.ChangeMaps
structure CG where
 cb:Nat
 Cb:Nat
 key:Ϧ
 since:Int
structure YG where
 tb:Nat
 f:TF
 t:Tx
 r:Root
 ps:List KV
 cs:List CG
def BZ(y:YG):List Nat:=y.cs.map CG.cb
def Ek(y:YG):List Nat:=y.cs.map CG.Cb
def AO(y:YG):List Nat:=[y.tb,y.f.x]++y.f.cs.ownBlock.toList++BZ y++Ek y
structure COk(base:Nat)(w:Ϣ)(y:YG)(c:CG):Prop where
 bc:base<=c.cb
 bC:base<=c.Cb
 hc:w.heap[c.cb]?=some (Cz c.Cb c.key (!c.key.toList.isEmpty) c.since)
 hC:w.heap[c.Cb]?=some (AW y.f.x c.key c.since)
 s0:0<=c.since
 s1:c.since<=y.t.ch
 at_:c.key.toList.isEmpty=false->c.since=y.t.ch->y.t.over=false->∃j,∃h:j<y.ps.length,y.ps[j].k=c.key
structure SG where
 Db:Nat
 St:Nat
 nM:Nat
 s:Sto
 D:Ϫ
structure Lv(w:Ϣ)(N:Nat)(com:Int)(E:SEnv)(l:ϣ)(q:SG)(y:YG):Prop where
 on:y.t.on=some (ϰ q.s.V 0)
 rr:RR E.toEnv w y.t.h y.r
 qM7:RGood y.r
 cont:y.r.cont=y.ps
 wrt:y.t.wrt=true->(∃c:Nat,y.f.chg=c/\BW c y.r)/\y.r.lf<=1400
 red:y.t.wrt=false->y.t.h.p=none/\Lie N l y.t.h.b y.t.h.s y.r/\(∀zd,q.D.atKey (χ y.t.nr) zd=Bq y.t.h)/\(y.f.com<com\/(y.t.h.b=q.s.rb/\y.t.h.s=q.s.rs))
structure YOk(base:Nat)(T:Int)(w:Ϣ)(N:Nat)(com:Int)(E:SEnv)(l:ϣ)(q:SG)(y:YG):Prop where
 bT:base<=y.tb
 bX:base<=y.f.x
 hT:w.heap[y.tb]?=some (tob y.f)
 hx:w.heap[y.f.x]?=some (Ac y.t)
 st:y.t.St=q.St
 sp:SPR w y.f.v y.ps
 m0:(y.ps.length:Int)<=y.f.qN8
 m1:y.f.qN8<=T
 c0:0<=y.f.chg
 c1:y.f.chg<=T
 cm:y.f.com<=com
 wr:y.f.wr=y.t.wrt
 dn:y.f.dn=y.t.over
 ch0:0<=y.t.ch
 ch1:y.t.ch<=T
 stp:y.f.stp=y.t.ch
 qP7:w.ownsRow base 203 1 y.f.cs (BZ y).length (BK (BZ y))
 qQ0:(y.cs.length:Int)<=T
 qO7:∀c∈y.cs,COk base w y c
 cbs:(BZ y).Nodup
 Cbs:(Ek y).Nodup
 live:q.s.po=false->y.t.over=false->Lv w N com E l q y
def kOf(y:YG):TK:=⟨y.t.over,y.t.wrt,y.t.nr⟩
def Bt(ys:List YG):List (TF×Nat):=ys.map fun y=>(y.f,y.ps.length)
structure SOk(base:Nat)(T:Int)(w:Ϣ)(κ:Kd)(A C n:Nat)(l:ϣ)(ws:ϥ)(wr com:Int)(r:Root)(q:SG)(ys:List YG):Prop where
 bSt:base<=q.St
 bM:base<=q.s.M
 hDb:w.heap[q.Db]?=some (ϲ #[ϖ q.St] 102)
 hSt:w.heap[q.St]?=some (η 0 q.s)
 hM:∃es c,w.heap[q.s.M]?=some (.map es c)
 sh:q.s.po=false->ws=[]/\Sh κ w q.Db q.St A C n q.nM q.s q.D l wr r/\Books q.s q.D (ys.map kOf)
 bg1:q.s.bg<=T
 nM:(q.nM:Int)<=T
 ys:∀y∈ys,YOk base T w n com (EF κ q.s.V A n C l wr) l q y
structure TG where
 B:Nat
 C:Nat
 k:KF
 κ:Kd
 l:ϣ
 ws:ϥ
 wr:Int
 ca:Ϥ
 nm:Int
 qN7:List (List KV)
 qM8:List (List KV)
 so:Option SG
 ys:List YG
 hs:List HEnt
abbrev TG.A(g:TG):Nat:=g.k.A
abbrev TG.n(g:TG):Nat:=g.k.n
def Ba(g:TG):List Nat:=g.ys.map YG.tb
def BQ:Option SG→List Nat
 | none=>[]
 | some q=>[q.St,q.s.M]
def EA(g:TG):List Nat:=[g.B,g.A,g.C]++g.ca++g.k.ts.ownBlock.toList++g.k.li.ownBlock.toList++g.k.wa.ownBlock.toList++BQ g.so++g.ys.flatMap AO
structure DOk(base:Nat)(T:Int)(w:Ϣ)(g:TG):Prop where
 bB:base<=g.B
 bA:base<=g.A
 bC:base<=g.C
 bca:∀i∈g.ca,base<=i
 hB:w.heap[g.B]?=some (kob g.k)
 n1:g.n<1000
 wl:g.k.qO5=false
 dev:Dn g.κ g.A g.n g.C g.l g.ws g.wr g.ca w
 qR7:(8<=g.n/\g.n<=400)->Pend g.n g.l g.ws (λc=>c∈g.qN7) (g.k.emp=true\/g.qN7=[]) g.nm
 nm1:g.nm<=T
 nm2:g.nm<=100000
 td0:0<=g.κ.told
 td1:g.κ.told<=T
 wsl:(g.ws.length:Int)<=T-20000
 wr0:0<=g.wr
 wr1:g.wr<=15002*(T-26000)
 may:RowC w base g.k.may g.qN7
 qN4:RowC w base g.k.qN4 g.qM8
 qR6:(g.qN7.length:Int)<=T
 qR2:(g.qM8.length:Int)<=T
 mms:∀m∈g.qN7,(m.length:Int)<=T
 qQ9:0<=g.k.com
 qR4:g.k.com<=T
structure TOk(base:Nat)(T:Int)(w:Ϣ)(g:TG):Prop where
 d:DOk base T w g
 held:Held w base g.k g.hs
 hlen:(g.hs.length:Int)<=T
 hps:∀x∈g.hs,(x.ps.length:Int)<=T+2
 row:w.ownsRow base 132 1 g.k.ts (Ba g).length (BK (Ba g))
 qR9:(g.ys.length:Int)<=T
 so:(g.k.x=none/\g.so=none/\g.ys=[]/\g.k.po=false)\/∃q r,g.so=some q/\g.k.x=some (ϰ q.Db 0)/\g.k.po=q.s.po/\(q.s.po=false->r.cont∈g.qN7/\q.s.N<=g.nm)/\(r.cont.length:Int)<=T/\SPR w g.k.c r.cont/\SOk base T w g.κ g.A g.C g.n g.l g.ws g.wr g.k.com r q g.ys
 sep:g.ys.Pairwise λa b=>∀i∈AO a,i∉AO b
def Az{g:TG}{i:Nat}:i∈EA g↔(i=g.B\/i=g.A\/i=g.C)\/i∈g.ca\/g.k.ts.ownBlock=some i\/g.k.li.ownBlock=some i\/g.k.wa.ownBlock=some i\/i∈BQ g.so\/∃y∈g.ys,i∈AO y:=by
 simp[EA,List.mem_append,mC,lN,or_false,Option.mem_toList,or_assoc,Option.mem_def,List.mem_flatMap]
def Bl{y:YG}{i:Nat}:i∈AO y↔i=y.tb\/i=y.f.x\/y.f.cs.ownBlock=some i\/i∈BZ y\/i∈Ek y:=by
 simp[AO,List.mem_append,mC,lN,or_false,Option.mem_toList,or_assoc,Option.mem_def]
section
variable {κ:Kd} {base N A C n:Nat} {T T' wr com:Int} {w w':Ϣ} {E:SEnv} {l:ϣ} {ws:ϥ} {q:SG} {y:YG} {L:Ϥ} {g:TG} {ys:List YG} {r:Root}
def YOk.sz(h:YOk base T w N com E l q y):(y.ps.length:Int)<=T:=Int.le_trans h.m0 h.m1
def COk.kp{c:CG}(h:COk base w y c)(hK:Kp L w w')(a:c.cb∉L)(d:c.Cb∉L):COk base w' y c:=⟨h.bc,h.bC,hK.heap h.hc a,hK.heap h.hC d,h.s0,h.s1,h.at_⟩
def YOk.kp(h:YOk base T w N com E l q y)(hK:Kp L w w')(hT:T<=T')(a:∀i∈AO y,i∉L)(o:Apt w L (284::Bi)):YOk base T' w' N com E l q y:=
 { h with
  hT:=hK.heap h.hT (a _ (Bl.2 (.inl rfl))),hx:=hK.heap h.hx (a _ (Bl.2 (.inr (.inl rfl)))),sp:=h.sp.qM3 hK (λk m c t f e d=>o k m c t f e (by simp at d;simp[d])),m1:=Int.le_trans h.m1 hT,c1:=Int.le_trans h.c1 hT,ch1:=Int.le_trans h.ch1 hT,qP7:=CO h.qP7 hK (λi u=>a i (Bl.2 (.inr (.inr (.inl u))))),qQ0:=Int.le_trans h.qQ0 hT
  qO7:=λc j=>(h.qO7 c j).kp hK (a _ (Bl.2 (.inr (.inr (.inr (.inl (List.mem_map.2 ⟨c,j,rfl⟩))))))) (a _ (Bl.2 (.inr (.inr (.inr (.inr (List.mem_map.2 ⟨c,j,rfl⟩)))))))
  live:=λs p=>{ h.live s p with rr:=(h.live s p).rr.qO1 hK (λk m c t f e d=>o k m c t f e (mM _ d)) } }
def YOk.move{q':SG}(h:YOk base T w N com E l q y)(e:q'.St=q.St/\q'.s.V=q.s.V/\q'.s.rb=q.s.rb/\q'.s.rs=q.s.rs/\q'.s.po=q.s.po)(u:y.t.over=false->y.t.wrt=false->∀zd,q'.D.atKey (χ y.t.nr) zd=q.D.atKey (χ y.t.nr) zd):YOk base T w N com E l q' y:=by
 let⟨m,o,p,s,t⟩:=e;refine { h with st:=by rw[m];exact h.st,live:=λi f=>?_ };rw[t]at i;exact { h.live i f with on:=by rw[o];exact(h.live i f).on,red:=λj=>by rw[p,s];let⟨a,b,c,d⟩:=(h.live i f).red j;exact⟨a,b,λzd=>(u f j zd).trans (c zd),d⟩ }
def YOk.qS6{q':SG}{E'}{l'}(h:YOk base T w N com E l q y)(e:q'.St=q.St)(a:q'.s.po=true):YOk base T w N com E' l' q' y:=
 { h with st:=by rw[e];exact h.st,live:=λh=>by rw[a]at h;cases h }
def Sh.kp{c St d:Nat}{s}{D}(h:Sh κ w c St A C n d s D l wr r)(hK:Kp L w w')(a:∀i∈[c,St,s.M,s.V,A,C],i∉L)(e:Apt w L DR):Sh κ w' c St A C n d s D l wr r:=
 { h with hDb:=hK.heap h.hDb (a _ sM),hSt:=hK.heap h.hSt (a _ sM),hM:=h.hM.kp hK (a _ sM),dev:=((show Dw _ _ _ _ _ _ _ _ _ w from h.dev).n.off hK (a _ sM) (a _ sM) sM e).k (oW h.N8) (hK.heap h.dev.hV (a _ sM)) }
def SOk.kp(h:SOk base T w κ A C n l ws wr com r q ys)(hK:Kp L w w')(j:T<=T')(d:∀i∈[q.St,q.s.M,A,C],i∉L)(o:∀y∈ys,∀i∈AO y,i∉L)(f:Apt w L ([102,263,284]++Bi))(s:Apt w L DR):SOk base T' w' κ A C n l ws wr com r q ys:=
 ⟨h.bSt,h.bM,hK.heap h.hDb (λa=>f _ a _ _ _ h.hDb sM),hK.heap h.hSt (d _ sM),by let⟨es,c,e⟩:=h.hM;exact⟨es,c,hK.heap e (d _ sM)⟩,λu=>by
  let⟨e,hs,p⟩:=h.sh u;refine⟨e,Sh.kp hs hK ?_ s,p⟩;simp only[mC,lN,or_false]at d |-;rintro i (rfl|rfl|rfl|rfl|rfl|rfl)
  .exact λa=>f _ a _ _ _ hs.hDb sM
  .exact d _ sM
  .exact d _ sM
  .exact λa=>f _ a _ _ _ hs.dev.hV sM
  .exact d _ sM
  .exact d _ sM,Int.le_trans h.bg1 j,Int.le_trans h.nM j,λy m=>(h.ys y m).kp hK j (o y m) (λk hk c t fr e a=>f k hk c t fr e (by
   simp only[mC,List.mem_append,lN,or_false]at a |-;rcases a with a|a<;>simp[a]))⟩
def DOk.qS7(h:DOk base T w g)(ts li wa)(po:Bool)(κ)(so:Option SG)(ys:List YG)(hs:List HEnt)(hK:Kp L w w')(a:T<=T')(hB:w'.heap[g.B]?=some (kob { g.k with ts:=ts,li:=li,wa:=wa,po:=po }))(s:Dn κ g.A g.n g.C g.l g.ws g.wr g.ca w')(j:0<=κ.told)(o:κ.told<=T')(p:Apt w L [126,284]):DOk base T' w' { g with k:={ g.k with ts:=ts,li:=li,wa:=wa,po:=po },κ:=κ,so:=so,ys:=ys,hs:=hs }:=by
 have f:∀i c t d,Ϙ w i (ϲ c t d)->i∈L->t≠126/\t≠284:=λi c t d e hi=>by have:=p i hi c t d e;simpa using this
 exact { bB:=h.bB,bA:=h.bA,bC:=h.bC,bca:=h.bca,n1:=h.n1,wl:=h.wl,qR7:=h.qR7,td0:=j,td1:=o,wr0:=h.wr0,qQ9:=h.qQ9,hB:=hB,dev:=s,nm1:=Int.le_trans h.nm1 a,nm2:=h.nm2,wsl:=by have:=h.wsl;show((g.ws.length:Nat):Int)<=_;omega,wr1:=by have:=h.wr1;show g.wr<=_;omega,may:=h.may.kp hK f,qN4:=h.qN4.kp hK f,qR6:=Int.le_trans h.qR6 a,qR2:=Int.le_trans h.qR2 a,mms:=λm u=>Int.le_trans (h.mms m u) a,qR4:=Int.le_trans h.qR4 a }
def DOk.qO4(h:DOk base T w g)(hK:Kp L w w')(a:T<=T')(c:w'.heap[g.B]?=some (kob g.k))(e:Dn g.κ g.A g.n g.C g.l g.ws g.wr g.ca w')(d:Apt w L [126,284]):DOk base T' w' g:=h.qS7 g.k.ts g.k.li g.k.wa g.k.po g.κ g.so g.ys g.hs hK a c e h.td0 (Int.le_trans h.td1 a) d
def DOk.ne(h:DOk base T w g):g.A≠g.B/\g.C≠g.B:=by
 let⟨_,_,_,a⟩:=h.dev.at;exact⟨υ a h.hB dC,υ h.dev.hC h.hB dC⟩
def TOk.qM3(h:TOk base T w g)(hK:Kp L w w')(d:Muts base (CI++CD) w L)(v:∀i∈L,i∉EA g)(e:T<=T'):TOk base T' w' g:=by
 have c:∀i,i∈EA g->i∉L:=λi a hm=>v i hm a;refine⟨h.d.qO4 hK e (hK.heap h.d.hB (c _ (Az.2 sM))) (h.d.dev.off hK (c _ (Az.2 sM)) (c _ (Az.2 sM)) (λi a=>c i (Az.2 (by simp[a]))) (d.apt dC)) (d.apt dC),Gw.Held.kp h.held hK (λi a=>c i (Az.2 (by simp[a]))) (λi a=>c i (Az.2 (by simp[a]))) (d.apt dC),Int.le_trans h.hlen e,λx hx=>by have:=h.hps x hx;omega,CO h.row hK (λi a=>c i (Az.2 (by simp[a]))),Int.le_trans h.qR9 e,?_,h.sep⟩;rcases h.so with t|⟨q,r,f,j,m,o,p,s,u⟩
 .exact .inl t
 .refine .inr ⟨q,r,f,j,m,o,Int.le_trans p e,s.qM3 hK (d.apt dC),u.kp hK e ?_ (λy z i a=>c i (Az.2 (.inr (.inr (.inr (.inr (.inr (.inr ⟨y,z,a⟩)))))))) (d.apt dC) (d.apt dC)⟩;simp only[mC,lN,or_false];rintro i (rfl|rfl|rfl|rfl)<;>exact c _ (Az.2 (by simp[f,BQ]))
def Dn.qS3{A N C:Nat}{ca}(h:Dn κ A N C l ws wr ca w){i:Nat}(a:i∈ca):∃c,w.heap[i]?=some (ϲ c 117):=by
 let⟨b,p,v,c,j,d,m,f,o⟩:=h.hA;rw[<-h.cq,DV d]at a;let⟨_,c,e⟩:=Bg f i (sU a);exact⟨c,e⟩
def TOk.qN9(h:TOk base T w g):Muts base CD w (EA g):=by
 intro k a;rcases Az.1 a with (rfl|rfl|rfl)|a|a|a|a|a|⟨y,p,a⟩
 .exact⟨h.d.bB,_,h.d.hB,λc t d e=>by cases e;decide⟩
 .let⟨_,_,_,v⟩:=h.d.dev.at;exact⟨h.d.bA,_,v,λc t d e=>by cases e;decide⟩
 .exact⟨h.d.bC,_,h.d.dev.hC,λc t d e=>by cases e;decide⟩
 .let⟨c,e⟩:=Dn.qS3 h.d.dev a;exact⟨h.d.bca k a,_,e,λc t d e=>by cases e;decide⟩
 .let⟨i,c,j⟩:=Bg h.row k (by simp[a]);exact⟨i,_,j,λc t d e=>by cases e;decide⟩
 .let⟨i,c,j⟩:=Bg h.held.li k (by simp[a]);exact⟨i,_,j,λc t d e=>by cases e;decide⟩
 .let⟨i,c,j⟩:=Bg h.held.wa k (by simp[a]);exact⟨i,_,j,λc t d e=>by cases e;decide⟩
 .rcases h.so with⟨_,e,_⟩|⟨q,r,s,_,_,_,_,_,m⟩
  .rw[e]at a;cases a
  .rw[s]at a;simp[BQ,mC,lN,or_false]at a;rcases a with rfl|rfl
   .exact⟨m.bSt,_,m.hSt,λc t d e=>by cases e;decide⟩
   .let⟨x,c,u⟩:=m.hM;exact⟨m.bM,_,u,λc t d e=>by cases e⟩
 .rcases h.so with⟨_,_,e,_⟩|⟨q,r,s,_,_,_,_,_,m⟩
  .rw[e]at p;cases p
  .have f:=m.ys y p;rcases Bl.1 a with rfl|rfl|a|a|a
   .exact⟨f.bT,_,f.hT,λc t d e=>by cases e;decide⟩
   .exact⟨f.bX,_,f.hx,λc t d e=>by cases e;decide⟩
   .let⟨i,c,j⟩:=Bg f.qP7 k (by simp[a]);exact⟨i,_,j,λc t d e=>by cases e;decide⟩
   .obtain⟨c,o,rfl⟩:=List.mem_map.1 a;exact⟨(f.qO7 c o).bc,_,(f.qO7 c o).hc,λc t d e=>by cases e;decide⟩
   .obtain⟨c,o,rfl⟩:=List.mem_map.1 a;exact⟨(f.qO7 c o).bC,_,(f.qO7 c o).hC,λc t d e=>by cases e;decide⟩
end
def TG.bare(b C:Nat)(k:KF)(κ:Kd)(l:List UInt8)(ws:List (Nat×List UInt8))(wr:Int)(ca:List Nat)(nm:Int)(ms we:List (List KV))(hs:List HEnt):TG:=⟨b,C,k,κ,l,ws,wr,ca,nm,ms,we,none,[],hs⟩
section
variable {base b C:Nat} {T wr nm:Int} {w:Ϣ} {k:KF} {κ:Kd} {l:ϣ} {ws:ϥ} {ca:Ϥ} {ms we:List (List KV)} {hs:List HEnt}
def TG.qS2(c:k.ts=.slice none 0 0){i:Nat}(a:i∈EA (TG.bare b C k κ l ws wr ca nm ms we hs)):(i=b\/i=k.A\/i=C)\/i∈ca\/k.li.ownBlock=some i\/k.wa.ownBlock=some i:=by
 rcases Az.1 a with h|h|h|h|h|h|⟨y,d,_⟩
 .exact .inl h
 .exact .inr (.inl h)
 .rw[show(TG.bare b C k κ l ws wr ca nm ms we hs).k.ts=_ from c]at h;cases h
 .exact .inr (.inr (.inl h))
 .exact .inr (.inr (.inr h))
 .cases h
 .cases d
def TOk.bare(a:0<=T)(h:DOk base T w (TG.bare b C k κ l ws wr ca nm ms we hs))(c:Held w base k hs)(d:(hs.length:Int)<=T)(e:∀x∈hs,(x.ps.length:Int)<=T+2)(i:k.ts=.slice none 0 0)(j:k.x=none)(f:k.po=false):TOk base T w (TG.bare b C k κ l ws wr ca nm ms we hs):=
 ⟨h,c,d,e,by rw[show(TG.bare b C k κ l ws wr ca nm ms we hs).k.ts=_ from i];exact wN _ _ _ _,a,.inl ⟨j,rfl,rfl,f⟩,List.Pairwise.nil⟩
end
def Gr{w}{base b:Nat}{v}{m}{a:Nat}(h:w.ownsRow b 126 1 (.slice (some (ϰ a 0)) 1 1) 1 [v])(f:base<=b)(hs:SPR w v m):RowC w base (.slice (some (ϰ a 0)) 1 1) [m]:=
 ⟨[v],⟨λu j=>by rw[mS j];let⟨p,c,e⟩:=hs.form;exact⟨p,_,c,e⟩,Ct h f⟩,rfl,λi d o=>by
  have e:i=0:=by simp at d;omega
  subst e;exact hs⟩
def Qe{n k:Nat}{l}(c:n*128<=l.length)(a:k<n):τ (l.take (n*128)) k=τ l k:=by
 unfold τ;rw[List.drop_take,List.take_take]
 congr 1
 omega
def ZO(m:Nat)(h:8<=m){j:List KV->Prop}{f:Prop}(p:f):Pend m (List.replicate (m*128) 0) [] j f 0:=by
 have e:∀c,Mixed m (List.replicate (m*128) 0) [] c->∀i N rb rs,i<2->¬Valid c i N rb rs:=λc a i N rb rs hi d=>by
  have d:Valid (List.replicate (m*128) 0) i N rb rs:=d.sec (by rw[a.is i oM]);have o:=congrArg (λx=>x[0]?) d.2.2.2.2;have a:min 32 (min 128 (m*128-i*128))=32:=oM
  simp[τ,toB,BP,De,a,Cj]at o
 exact⟨λc a=>.inl ⟨p,e c a⟩,iR _,λc i n rb rs a hi d=>absurd d (e c a i n rb rs hi),λh=>absurd h dC⟩
def DOk.left{base:Nat}{T:Int}{w}{g:TG}(h:DOk base T w g){l'}(i:Mixed g.n g.l g.ws l'):∃a,a<=g.nm/\((8<=g.n/\g.n<=400)->Pend g.n l' [] (λc=>c∈g.qN7) (g.k.emp=true\/g.qN7=[]) a):=by
 by_cases d:8<=g.n/\g.n<=400
 .let⟨a,e,f⟩:=(h.qR7 d).after i oM (oW h.nm2);exact⟨a,e,λ_=>f⟩
 .exact⟨g.nm,iR _,λh=>absurd h d⟩
def AK:DInv where
 G:=TG
 kf:=fun g=>g.k
 B:=fun g=>g.B
 tbs:=Ba
 tur:=EA
 ok:=TOk
 qY1:=fun h=>h.d.hB
 row:=fun h=>PRow.of h.row
 zA0:=fun h=>by have:=h.qR9;simp only[Ba,List.length_map];exact this
 inB:=fun g=>Az.2 (by simp)
 qN9:=fun h=>h.qN9
 qM3:=fun h hK hM hL hT=>h.qM3 hK hM hL hT
 fresh:=fun base T w κ b A C m hb hA hC hT hm h1 h0 h2=>by
  have hd:DOk base T w (TG.bare b C ⟨A,m,.slice none 0 0,false,.slice none 0 0,false,false,none,.slice none 0 0,0,false,.slice none 0 0,.slice none 0 0,.slice none 0 0⟩ κ (List.replicate (m*128) 0) [] 0 [] 0 [] [] []):=⟨hb,hA,hC,fun i hi=>(by cases hi),h1,hm,rfl,h2,fun h=>ZO m h.1 (.inr rfl),by show(0:Int)≤T;omega,by show(0:Int)≤100000;omega,by show 0≤κ.told;omega,by show κ.told≤T;omega,by show((0:Nat):Int)≤T-20000;omega,Int.le_refl _,by show(0:Int)≤15002*(T-26000);omega,RowC.nil _ _,RowC.nil _ _,by show((0:Nat):Int)≤T;omega,by show((0:Nat):Int)≤T;omega,fun m hm=>(by cases hm),Int.le_refl _,by show(0:Int)≤T;omega⟩;refine⟨_,TOk.bare (by omega) hd ⟨World.ownsRow_nil _ _ _ _,World.ownsRow_nil _ _ _ _,fun i hi=>(by cases hi),fun x hx=>(by cases hx)⟩ (by simp;omega) (fun x hx=>(by cases hx)) rfl rfl rfl,rfl,fun i hi=>?_⟩;rcases TG.qS2 rfl hi with h|h|h|h
  ·exact h
  ·cases h
  ·cases h
  ·cases h
 copy:=fun {base T w g} h=>by
  refine⟨g.κ,g.C,g.l,g.ws,g.wr,g.ca,h.d.n1,h.d.dev,fun T' w' κ' b A' C' hT hT0 hK hb hA' hC' h1 h0 h2=>?_⟩;have hlen:g.n*128≤g.l.length:=h.d.dev.len;have ha:∀i c t fr,w.heap[i]?=some (.cells c t fr)→i∈([]:List Nat)→t≠126∧t≠284:=fun i c t fr e hi=>by cases hi
  have hmx:Mixed g.n g.l g.ws (g.l.take (g.n*128)):=⟨by rw[List.length_take];omega,fun k hk _=>Qe hlen hk,fun k hk=>.inl (by rw[Qe hlen hk])⟩;obtain⟨nm',hn1,hn2⟩:=h.d.left hmx;have hd:DOk base T' w' (TG.bare b C' ⟨A',g.k.n,g.k.may,g.k.emp,g.k.qN4,g.k.qO5,g.k.bit,none,.slice none 0 0,0,false,.slice none 0 0,.slice none 0 0,.slice none 0 0⟩ κ' (g.l.take (g.n*128)) [] 0 [] nm' g.qN7 g.qM8 []):=⟨hb,hA',hC',fun i hi=>(by cases hi),h1,h.d.n1,h.d.wl,h2,hn2,Int.le_trans (Int.le_trans hn1 h.d.nm1) hT,Int.le_trans hn1 h.d.nm2,by show 0≤κ'.told;omega,by show κ'.told≤T';omega,by show((0:Nat):Int)≤T'-20000;omega,Int.le_refl _,by show(0:Int)≤15002*(T'-26000);omega,h.d.may.kp hK ha,h.d.qN4.kp hK ha,Int.le_trans h.d.qR6 hT,Int.le_trans h.d.qR2 hT,fun m hm=>Int.le_trans (h.d.mms m hm) hT,Int.le_refl _,by show(0:Int)≤T';omega⟩;refine⟨_,TOk.bare (by omega) hd ⟨World.ownsRow_nil _ _ _ _,World.ownsRow_nil _ _ _ _,fun i hi=>(by cases hi),fun x hx=>(by cases hx)⟩ (by simp;omega) (fun x hx=>(by cases hx)) rfl rfl rfl,rfl,fun i hi=>?_⟩;rcases TG.qS2 rfl hi with h|h|h|h
  ·exact h
  ·cases h
  ·cases h
  ·cases h
def Ik{a:Type}(f:YG->a){l:List YG}{i:Nat}(d:i<l.length){y:YG}(h:f y=f l[i]):(l.set i y).map f=l.map f:=by
 rw[List.map_set,h];exact List.ext_getElem sM (λj b c=>by
  rw[List.getElem_set];split
  .rename_i e;subst e;simp
  .rfl)
def yTs:List TypeId:=[197,99,203,282,80]
section
variable {κ:Kd} {ca:Ϥ} {base N A C n i:Nat} {T T' wr com:Int} {w w':Ϣ} {E:SEnv} {l:ϣ} {ws:ϥ} {q q':SG} {y y':YG} {L:Ϥ} {g g':TG} {ys:List YG} {r:Root}
def YOk.qR8(h:YOk base T w N com E l q y):MutC base yTs w (AO y):=λk a=>by
 rcases Bl.1 a with rfl|rfl|a|a|a
 .exact⟨h.bT,_,_,_,h.hT,dC⟩
 .exact⟨h.bX,_,_,_,h.hx,dC⟩
 .let⟨d,c,e⟩:=Bg h.qP7 k (by simp[a]);exact⟨d,_,_,_,e,dC⟩
 .obtain⟨c,b,rfl⟩:=List.mem_map.1 a;exact⟨(h.qO7 c b).bc,_,_,_,(h.qO7 c b).hc,dC⟩
 .obtain⟨c,b,rfl⟩:=List.mem_map.1 a;exact⟨(h.qO7 c b).bC,_,_,_,(h.qO7 c b).hC,dC⟩
def Dn.ca0(h:Dn κ A n C l ws wr ca w)(e:ws=[]):ca=[]:=by
 let⟨b,p,v,c,f,a,j,k,d⟩:=h.hA;rw[<-h.cq,DV a,d e];rfl
def SOk.off(h:SOk base T w κ A C n l ws wr com r q ys)(d:Dn κ A n C l ws wr ca w){B:Nat}{k:KF}(f:w.heap[B]?=some (kob k)):∀y∈ys,∀j∈AO y,j∉[B,A,C,q.St,q.s.M]:=λy hy j hj=>by
 let⟨_,c,t,s,a,b⟩:=(h.ys y hy).qR8 j hj;let⟨_,_,_,e⟩:=d.at;let⟨p,o,m⟩:=h.hM;simp[mC,lN,or_false,not_or];refine⟨?_,?_,?_,?_,?_⟩<;>rintro rfl
 .rw[f]at a;cases a;revert b;decide
 .rw[e]at a;cases a;revert b;decide
 .rw[d.hC]at a;cases a;revert b;decide
 .rw[h.hSt]at a;cases a;revert b;decide
 .rw[m]at a;cases a
def SOk.apt(h:SOk base T w κ A C n l ws wr com r q ys)(b:Dn κ A n C l ws wr ca w){B:Nat}{k:KF}(f:w.heap[B]?=some (kob k))(o:i<ys.length)(j:∀k∈L,k∈[B,A,C,q.St,q.s.M]\/k∈AO ys[i]):Apt w L (284::Bi):=λk a c t fr e=>by
 let⟨_,_,_,d⟩:=b.at;let⟨s,p,m⟩:=h.hM;rcases j k a with a|a
 .simp[mC,lN,or_false]at a;rcases a with rfl|rfl|rfl|rfl|rfl
  .rw[f]at e;cases e;decide
  .rw[d]at e;cases e;decide
  .rw[b.hC]at e;cases e;decide
  .rw[h.hSt]at e;cases e;decide
  .rw[m]at e;cases e
 .exact ((h.ys _ (gM o)).qR8.qN9.apt (Us:=284::Bi) dC) k a c t fr e
def SOk.others(h:SOk base T w κ A C n l ws wr com r q ys)(m:Dn κ A n C l ws wr ca w){B:Nat}{k:KF}(u:w.heap[B]?=some (kob k))(o:i<ys.length)(M:ys.Pairwise λa b=>∀i∈AO a,i∉AO b)(hK:Kp L w w')(v:∀k∈L,k∈[B,A,C,q.St,q.s.M]\/k∈AO ys[i])(G:T<=T')(j:Nat)(p:j<ys.length)(K:j≠i):YOk base T' w' n com (EF κ q.s.V A n C l wr) l q ys[j]:=by
 have z:=h.ys _ (gM p);have x:=pG M;let⟨_,_,_,D⟩:=m.at;let⟨P,O,F⟩:=h.hM;refine z.kp hK G (λk s e=>?_) (h.apt m u o v);rcases v k e with e|e
 .let⟨_,c,t,Q,d,f⟩:=z.qR8 k s;simp[mC,lN,or_false]at e;rcases e with rfl|rfl|rfl|rfl|rfl
  .rw[u]at d;cases d;revert f;decide
  .rw[D]at d;cases d;revert f;decide
  .rw[m.hC]at d;cases d;revert f;decide
  .rw[h.hSt]at d;cases d;revert f;decide
  .rw[F]at d;cases d
 .rcases Nat.lt_or_gt_of_ne K with I|H
  .exact x j i p o I k s e
  .exact x i j o p H k e s
def SOk.set(h:SOk base T w κ A C n l ws wr com r q ys)(F:Dn κ A n C l ws wr ca w){B:Nat}{k:KF}(o:w.heap[B]?=some (kob k))(G:i<ys.length)(O:ys.Pairwise λa b=>∀i∈AO a,i∉AO b)(hK:Kp L w w')(t:∀k∈L,k∈[B,A,C,q.St,q.s.M]\/k∈AO ys[i])(x:T<=T')(s:w'.heap[q'.Db]?=some (ϲ #[ϖ q'.St] 102))(v:w'.heap[q'.St]?=some (η 0 q'.s))(u:∃es c,w'.heap[q'.s.M]?=some (.map es c))(I:q'.s.po=false->ws=[]/\Sh κ w' q'.Db q'.St A C n q'.nM q'.s q'.D l wr r/\Books q'.s q'.D ((ys.set i y').map kOf))
  (e:q'.St=q.St/\q'.s.V=q.s.V/\q'.s.rb=q.s.rb/\q'.s.rs=q.s.rs/\q'.s.po=q.s.po) (m:q'.s.M=q.s.M) (D:q'.s.bg<=T') (H:(q'.nM:Int)<=T') (p:∀j (d:j<ys.length),j≠i->ys[j].t.over=false->ys[j].t.wrt=false->∀zd,q'.D.atKey (χ ys[j].t.nr) zd=q.D.atKey (χ ys[j].t.nr) zd) (K:YOk base T' w' n com (EF κ q.s.V A n C l wr) l q' y'):SOk base T' w' κ A C n l ws wr com r q' (ys.set i y'):=by
 refine⟨by rw[e.1];exact h.bSt,by rw[m];exact h.bM,s,v,u,I,D,H,λz M=>?_⟩;obtain⟨j,d,rfl⟩:=gO M;simp[List.length_set]at d;rw[List.getElem_set,e.2.1];split
 .exact K
 .rename_i f;exact(h.others F o G O hK t x j d (λe=>f e.symm)).move e (p j d (λe=>f e.symm))
def SOk.qS6(h:SOk base T w κ A C n l ws wr com r q ys)(D:Dn κ A n C l ws wr ca w){B:Nat}{k:KF}(o:w.heap[B]?=some (kob k))(F:i<ys.length)(M:ys.Pairwise λa b=>∀i∈AO a,i∉AO b)(hK:Kp L w w')(s:∀k∈L,k∈[B,A,C,q.St,q.s.M]\/k∈AO ys[i])(v:T<=T'){κ'}{l'}{ws'}{m:Int}(p:w'.heap[q'.Db]?=some (ϲ #[ϖ q'.St] 102))(u:w'.heap[q'.St]?=some (η 0 q'.s))(t:∃es c,w'.heap[q'.s.M]?=some (.map es c))(f:q'.s.po=true)(e:q'.St=q.St/\q'.s.M=q.s.M)(x:q'.s.bg<=T')(G:(q'.nM:Int)<=T')(I:YOk base T' w' n com (EF κ' q'.s.V A n C l' m) l' q' y'):SOk base T' w' κ' A C n l' ws' m com r q' (ys.set i y'):=by
 refine⟨by rw[e.1];exact h.bSt,by rw[e.2];exact h.bM,p,u,t,λh=>(by rw[f]at h;cases h),x,G,λz K=>?_⟩;obtain⟨j,d,rfl⟩:=gO K;simp[List.length_set]at d;rw[List.getElem_set];split
 .exact I
 .rename_i H;exact(h.others D o F M hK s v j d (λe=>H e.symm)).qS6 e.1 f
def TOk.store(h:TOk base T w g)(a:g.k.x≠none):∃q r,g.so=some q/\g.k.x=some (ϰ q.Db 0)/\g.k.po=q.s.po/\(q.s.po=false->r.cont∈g.qN7/\q.s.N<=g.nm)/\(r.cont.length:Int)<=T/\SPR w g.k.c r.cont/\SOk base T w g.κ g.A g.C g.n g.l g.ws g.wr g.k.com r q g.ys:=by
 rcases h.so with⟨e,_⟩|h
 .exact absurd e a
 .exact h
def TOk.txn(h:TOk base T w g)(O:g.so=some q)(p:SOk base T w g.κ g.A g.C g.n g.l g.ws g.wr g.k.com r q g.ys)(s:i<g.ys.length)(hK:Kp L w w')(V:∀k∈L,k∈[g.B,g.A,g.C,q.St,q.s.M]\/k∈AO g.ys[i])(W:T<=T')
  (eg:g'.B=g.B/\g'.A=g.A/\g'.C=g.C/\g'.hs=g.hs/\g'.so=some q'/\g'.ys=g.ys.set i y') (ek:g'.k.ts=g.k.ts/\g'.k.li=g.k.li/\g'.k.wa=g.k.wa) (et:y'.tb=g.ys[i].tb) (P:∀k∈AO y',k∈AO g.ys[i]\/w.heap.size<=k) (S:q'.St=q.St/\q'.s.M=q.s.M) (ab:∀k∈g'.ca,k∈g.ca\/w.heap.size<=k)
  (hd:DOk base T' w' g') (ad:∃r,g'.k.x=some (ϰ q'.Db 0)/\g'.k.po=q'.s.po/\(q'.s.po=false->r.cont∈g'.qN7/\q'.s.N<=g'.nm)/\(r.cont.length:Int)<=T'/\SPR w' g'.k.c r.cont/\SOk base T' w' g'.κ g'.A g'.C g'.n g'.l g'.ws g'.wr g'.k.com r q' g'.ys):DStep AK base T' w w' g:=by
 let⟨z,I,K,M,R,B⟩:=eg;let⟨k1,k2,k3⟩:=ek;let⟨r',c1,c2,c3,c4,c5,c6⟩:=ad;have:=p.off h.d.dev h.d.hB;let⟨_,_,_,hA⟩:=h.d.dev.at;have D:Muts base ([130,114,115,169]++yTs) w L:=λk d=>by
  rcases V k d with d|d
  .simp[mC,lN,or_false]at d;rcases d with rfl|rfl|rfl|rfl|rfl
   .exact⟨h.d.bB,_,h.d.hB,λc t u e=>by cases e;decide⟩
   .exact⟨h.d.bA,_,hA,λc t u e=>by cases e;decide⟩
   .exact⟨h.d.bC,_,h.d.dev.hC,λc t u e=>by cases e;decide⟩
   .exact⟨p.bSt,_,p.hSt,λc t u e=>by cases e;decide⟩
   .let⟨es,mc,hM⟩:=p.hM;exact⟨p.bM,_,hM,λc t u e=>by cases e⟩
  .let⟨z,c,t,u,I,K⟩:=(p.ys _ (gM s)).qR8 k d;exact⟨z,_,I,λc' t' af e=>by cases e;exact List.mem_append_right _ K⟩
 have Q:=pG h.sep;have X:∀j (m:j<g.ys.length),i≠j->∀k∈AO g.ys[i],k∉AO g.ys[j]:=λj m v k d f=>by
  rcases Nat.lt_or_gt_of_ne v with H|ac
  .exact Q i j s m H k d f
  .exact Q j i m s ac k f d
 have H:∀j (m:j<g.ys.length),∀k∈AO g.ys[j],k<w.heap.size:=λj m k d=>(p.ys _ (gM m)).qR8.qN9.lt d;have ae:Ba g'=Ba g:=by rw[Ba,B];exact Ik YG.tb s et
 refine⟨g',L,⟨hd,?_,by rw[M];exact Int.le_trans h.hlen W,by rw[M];exact λx hx=>by have:=h.hps x hx;omega,?_,by rw[B,List.length_set];exact Int.le_trans h.qR9 W,.inr ⟨q',r',R,c1,c2,c3,c4,c5,c6⟩,?_⟩,z,λk d=>?_,hK,λk d=>?_⟩
 .rw[M];refine Gw.Held.cast (Gw.Held.kp h.held hK (λk d=>?_) (λk d=>?_) (D.apt dC)) k2 k3
  .let⟨_,c,o⟩:=Bg h.held.li k (sU d);exact D.not o dC
  .let⟨_,c,o⟩:=Bg h.held.wa k (sU d);exact D.not o dC
 .rw[ae,k1];refine CO h.row hK (λk d=>?_);let⟨_,c,o⟩:=Bg h.row k (by simp[d]);exact D.not o dC
 .rw[B,List.pairwise_iff_getElem];intro a b F G aa;simp[List.length_set]at F G;rw[List.getElem_set,List.getElem_set];split
  .rename_i h1;subst h1;split
   .omega
   .rename_i v;intro k d f;rcases P k d with d|d
    .exact X b G v k d f
    .have:=H b G k f;omega
  .split
   .rename_i v o;subst o;intro k d f;rcases P k f with f|f
    .exact X a F (λe=>v e) k f d
    .have:=H a F k d;omega
   .exact Q a b F G aa
 .rcases Az.1 d with d|d|d|d|d|d|⟨y,Z,d⟩
  .rw[z,I,K]at d;exact .inl (Az.2 (.inl d))
  .exact (ab k d).imp (λd=>Az.2 (.inr (.inl d))) id
  .rw[k1]at d;exact .inl (Az.2 (.inr (.inr (.inl d))))
  .rw[k2]at d;exact .inl (Az.2 (.inr (.inr (.inr (.inl d)))))
  .rw[k3]at d;exact .inl (Az.2 (.inr (.inr (.inr (.inr (.inl d))))))
  .refine .inl (Az.2 (.inr (.inr (.inr (.inr (.inr (.inl ?_)))))));rw[R]at d;rw[O];simp[BQ,S.1,S.2]at d |-;exact d
  .rw[B]at Z;obtain⟨j,m,rfl⟩:=gO Z;simp[List.length_set]at m;rw[List.getElem_set]at d;split at d
   .rcases P k d with d|d
    .exact .inl (Az.2 (.inr (.inr (.inr (.inr (.inr (.inr ⟨_,gM s,d⟩)))))))
    .exact .inr d
   .exact .inl (Az.2 (.inr (.inr (.inr (.inr (.inr (.inr ⟨_,gM m,d⟩)))))))
 .apply Az.2;rcases V k d with d|d
  .simp[mC,lN,or_false]at d;rcases d with h|h|h|h|h
   .exact .inl (.inl h)
   .exact .inl (.inr (.inl h))
   .exact .inl (.inr (.inr h))
   .exact .inr (.inr (.inr (.inr (.inr (.inl (by rw[O];simp[BQ,h]))))))
   .exact .inr (.inr (.inr (.inr (.inr (.inl (by rw[O];simp[BQ,h]))))))
  .exact .inr (.inr (.inr (.inr (.inr (.inr ⟨_,gM s,d⟩)))))
end
structure At(base:Nat)(T:Int)(w:Ϣ)(g:TG)(q:SG)(r:Root)(i:Nat)(y:YG):Prop where
 ok:TOk base T w g
 T0:26000<=T
 T1:T<=60000
 hb:0<base
 hbs:base<=w.heap.size
 g0:w.cell? (ϰ 0 0)=some Bd
 e1:g.so=some q
 ex:g.k.x=some (ϰ q.Db 0)
 ep:g.k.po=q.s.po
 em:q.s.po=false->r.cont∈g.qN7/\q.s.N<=g.nm
 el:(r.cont.length:Int)<=T
 ec:SPR w g.k.c r.cont
 S:SOk base T w g.κ g.A g.C g.n g.l g.ws g.wr g.k.com r q g.ys
 hi:i<g.ys.length
 hy:g.ys[i]=y
abbrev TG.Dv(g:TG)(κ:Kd)(w:World):Prop:=Dn κ g.A g.n g.C g.l g.ws g.wr g.ca w
section
variable {base i:Nat} {T:Int} {w w' w1:Ϣ} {q q':SG} {y y':YG} {g:TG} {r:Root} {L:Ϥ}
def At.yy(h:At base T w g q r i y):YOk base T w g.n g.k.com (EF g.κ q.s.V g.A g.n g.C g.l g.wr) g.l q y:=by
 have:=h.S.ys _ (gM h.hi);rw[h.hy]at this;exact this
def At.mem(h:At base T w g q r i y):y∈g.ys:=by have:=gM h.hi;rw[h.hy]at this;exact this
def At.sh(h:At base T w g q r i y)(a:q.s.po=false):Sh g.κ w q.Db q.St g.A g.C g.n q.nM q.s q.D g.l g.wr r:=(h.S.sh a).2.1
def At.live(h:At base T w g q r i y)(e:q.s.po=false)(d:y.t.over=false):LiveT (EF g.κ q.s.V g.A g.n g.C g.l g.wr) w y.f.x g.A g.n y.t q.s y.r:=
 have a:=h.sh e;have b:=h.yy;have c:=b.live e d;have:=h.T1
 { hx:=b.hx,over:=d,on:=c.on,hSt:=by rw[b.st];exact a.hSt,po:=a.po,sV:=rfl,hV:=a.dev.hV,n1:=a.N1,bl0:=a.bl0,bl1:=by have:=a.bl1;have:=h.el;omega,dev:=a.dev,vS:=by show q.s.V∉[g.A];simpa using a.VA,rr:=c.rr,qM7:=c.qM7,sz:=by rw[c.cont];have:=b.sz;omega,ch0:=b.ch0,ch1:=by have:=b.ch1;omega }
def At.qR5(h:At base T w g q r i y):w.heap[y.t.St]?=some (η 0 q.s):=by
 rw[h.yy.st];exact h.S.hSt
def At.xS(h:At base T w g q r i y):y.f.x≠y.t.St:=υ h.yy.hx h.qR5 dC
def At.prog(h:At base T w g q r i y):ProgS w [q.St,g.A,g.C,y.f.x,q.s.M]:=λk b=>by
 have:=h.hb;let⟨_,_,_,d⟩:=h.ok.d.dev.at;let⟨m,j,f⟩:=h.S.hM;simp[mC,lN,or_false]at b;rcases b with rfl|rfl|rfl|rfl|rfl
 .exact⟨oW h.S.bSt,λc t a e=>by rw[h.S.hSt]at e;cases e;decide⟩
 .exact⟨oW h.ok.d.bA,λc t a e=>by rw[d]at e;cases e;decide⟩
 .exact⟨oW h.ok.d.bC,λc t a e=>by rw[h.ok.d.dev.hC]at e;cases e;decide⟩
 .exact⟨oW h.yy.bX,λc t a e=>by rw[h.yy.hx]at e;cases e;decide⟩
 .exact⟨oW h.S.bM,λc t a e=>by rw[f]at e;cases e⟩
def At.qQ5(h:At base T w g q r i y){S}(a:∀k∈S,k∈[q.St,g.A,g.C,y.f.x,q.s.M]):ProgS w S:=λk hk=>h.prog k (a k hk)
def At.look(h:At base T w g q r i y):LkIn w g.B y.tb g.κ.told g.k y.f y.ps:=
 ⟨h.ok.d.hB,h.ok.d.dev.tld,h.yy.hT,h.yy.sp,oX h.yy.sz h.T1,h.g0⟩
def At.same(h:At base T w g q r i y)(hK:Kp [] w w'):At base T w' g q r i y:=
 ⟨h.ok.qM3 hK (Muts.nil _ _ _) sM (iR _),h.T0,h.T1,h.hb,lT h.hbs hK.size,Nv h.g0 hK h.hb h.hbs sM,h.e1,h.ex,h.ep,h.em,h.el,h.ec.qM3 hK (Apt.nil _ _),h.S.kp hK (iR _) sM sM (Apt.nil _ _) (Apt.nil _ _),h.hi,h.hy⟩
def At.qN9(h:At base T w g q r i y)(b:∀k∈L,k∈[g.B,g.A,g.C,q.St,q.s.M]\/k∈AO y):Muts base CD w L:=h.ok.qN9.mono (λt ht=>ht) λk a=>by
 rcases b k a with a|a
 .simp[mC,lN,or_false]at a;exact Az.2 (by rw[h.e1];simp[BQ,mC,lN,or_false];rcases a with e | e | e | e | e<;>simp[e])
 .exact Az.2 (.inr (.inr (.inr (.inr (.inr (.inr ⟨_,gM h.hi,by rw[h.hy];exact a⟩))))))
def At.nB(h:At base T w g q r i y)(c:∀k∈L,k∈[g.A,g.C,q.St,q.s.M]\/k∈AO y):g.B∉L:=λhm=>by
 let⟨j,f,d⟩:=h.S.hM;rcases c _ hm with a|a
 .simp[mC,lN,or_false]at a;rcases a with e|e|e|e
  .exact h.ok.d.ne.1 e.symm
  .exact h.ok.d.ne.2 e.symm
  .exact υ h.ok.d.hB h.S.hSt dC e
  .have b:=h.ok.d.hB;rw[e,d]at b;cases b
 .exact h.S.off h.ok.d.dev h.ok.d.hB y h.mem _ a sM
def At.step(h:At base T w g q r i y)(hK:Kp L w w')(o:∀k∈L,k∈[g.A,g.C,q.St,q.s.M]\/k∈AO y)(x:y'.tb=y.tb)(G:∀k∈AO y',k∈AO y\/w.heap.size<=k)(F:g.Dv g.κ w')(D:w'.heap[q'.St]?=some (η 0 q'.s))(B:∃es c,w'.heap[q'.s.M]?=some (.map es c))(H:q'.s.po=false->Sh g.κ w' q'.Db q'.St g.A g.C g.n q'.nM q'.s q'.D g.l g.wr r/\Books q'.s q'.D ((g.ys.set i y').map kOf))
  (e:q'.St=q.St/\q'.s.V=q.s.V/\q'.s.rb=q.s.rb/\q'.s.rs=q.s.rs/\q'.s.po=q.s.po) (s:q'.s.M=q.s.M/\q'.Db=q.Db/\q'.s.N=q.s.N/\q'.s.bg=q.s.bg/\q'.nM=q.nM) (z:∀j (K:j<g.ys.length),j≠i->g.ys[j].t.over=false->g.ys[j].t.wrt=false->∀zd,q'.D.atKey (χ g.ys[j].t.nr) zd=q.D.atKey (χ g.ys[j].t.nr) zd) (I:YOk base (T+2) w' g.n g.k.com (EF g.κ q.s.V g.A g.n g.C g.l g.wr) g.l q' y'):DStep AK base (T+2) w w' g:=by
 let⟨f,m,t,u,v⟩:=s;have:=h.S.bg1;have:=h.S.nM;have a:∀k∈L,k∈[g.B,g.A,g.C,q.St,q.s.M]\/k∈AO y:=λk b=>(o k b).imp_left λh=>mM _ h;have d:=h.qN9 a;refine h.ok.txn (g':={ g with so:=some q',ys:=g.ys.set i y' }) h.e1 h.S h.hi hK (by rw[h.hy];exact a) oM ⟨rfl,rfl,rfl,rfl,rfl,rfl⟩ ⟨rfl,rfl,rfl⟩ (by rw[h.hy];exact x) (by rw[h.hy];exact G) ⟨e.1,f⟩ (λk b=>.inl b) ?_ ⟨r,by rw[m];exact h.ex,by rw[e.2.2.2.2];exact h.ep,by rw[e.2.2.2.2,t];exact h.em,oW h.el,h.ec.qM3 hK (d.apt dC),h.S.set h.ok.d.dev h.ok.d.hB h.hi h.ok.sep hK (by rw[h.hy];exact a) oM (by rw[m,e.1];exact hK.heap h.S.hDb (d.not h.S.hDb dC)) D B (λp=>⟨(h.S.sh (by rw[<-e.2.2.2.2];exact p)).1,H p⟩) e f (by rw[u];omega) (by rw[v];omega) z I⟩;exact { h.ok.d.qO4 hK (T':=T+2) oM (hK.heap h.ok.d.hB (h.nB o)) F (d.apt dC) with }
def At.quiet(h:At base T w g q r i y)(j:w'.heap[q.St]?=some (η 0 q.s))(m:g.Dv g.κ w')(hK:Kp [q.St,g.A] w w'):DStep AK base (T+2) w w' g:=by
 have o:=h.yy;let⟨_,_,_,f⟩:=h.ok.d.dev.at;let⟨s,p,c⟩:=h.S.hM;have t:q.s.M∉[q.St,g.A]:=by
  simp[mC,lN,or_false,not_or];exact⟨λe=>(by rw[e,h.S.hSt]at c;cases c),λe=>(by rw[e,f]at c;cases c)⟩
 refine h.step (q':=q) (y':=y) hK (λk a=>.inl (by simp at a |-;rcases a with e | e<;>simp[e])) rfl (λk a=>.inl a) m j ⟨s,p,hK.heap c t⟩ (λhp=>⟨?_,by rw[<-h.hy];simpa using(h.S.sh hp).2.2⟩) ⟨rfl,rfl,rfl,rfl,rfl⟩ ⟨rfl,rfl,rfl,rfl,rfl⟩ (λ_ _ _ _ _ _=>rfl) (o.kp hK oM (λk a hm=>?_) ((Apt.one h.S.hSt dC).cons (Apt.one f dC)))
 .have b:=h.sh hp;have e:=(h.S.sh hp).1;have d:Dn g.κ g.A g.n g.C g.l g.ws g.wr g.ca w':=m;rw[Dn.ca0 d e,e]at d;exact b.quiet o.hx (hK.mono sC) (d.k (oW b.N8) (hK.heap b.dev.hV (by simp[mC,lN,or_false,not_or];exact⟨υ b.dev.hV b.hSt dC,b.VA⟩))) j
 .exact h.S.off h.ok.d.dev h.ok.d.hB y h.mem k a (by simp at hm |-;rcases hm with e | e<;>simp[e])
def At.qS6(h:At base T w g q r i y)(u:w'.heap[q.St]?=some (η 0 { q.s with po:=true }))(v:g.Dv g.κ.up w')(p:w'.heap[g.B]?=some (kob { g.k with po:=true }))(hK:Kp [q.St,g.A,g.B] w w'):DStep AK base (T+2) w w' g:=by
 have:=h.T1;have:=h.ok.d.td0;have:=h.ok.d.td1;have:g.κ.up.told=g.κ.told+1:=by show nx g.κ.told=_;simp[nx,wrap64];omega
 let⟨_,_,_,o⟩:=h.ok.d.dev.at;let⟨m,j,b⟩:=h.S.hM;have t:q.s.M∉[q.St,g.A,g.B]:=by
  simp[mC,lN,or_false,not_or];exact⟨λe=>(by rw[e,h.S.hSt]at b;cases b),λe=>(by rw[e,o]at b;cases b),λe=>(by rw[e,h.ok.d.hB]at b;cases b)⟩
 have d:∀k∈[q.St,g.A,g.B],k∈[g.B,g.A,g.C,q.St,q.s.M]\/k∈AO y:=λk a=>.inl (by simp at a |-;rcases a with e | e | e<;>simp[e]);have c:=h.qN9 d;have:=h.S.bg1;have:=h.S.nM;refine h.ok.txn (g':={ g with k:={ g.k with po:=true },κ:=g.κ.up,so:=some { q with s:={ q.s with po:=true } },ys:=g.ys.set i y }) (y':=y) (q':={ q with s:={ q.s with po:=true } }) h.e1 h.S h.hi hK (by rw[h.hy];exact d) oM ⟨rfl,rfl,rfl,rfl,rfl,rfl⟩ ⟨rfl,rfl,rfl⟩ (by rw[h.hy]) (by rw[h.hy];exact λk a=>.inl a) ⟨rfl,rfl⟩ (λk a=>.inl a) ?_ ⟨r,h.ex,rfl,λh=>(by cases h),oW h.el,h.ec.qM3 hK (c.apt dC),h.S.qS6 h.ok.d.dev h.ok.d.hB h.hi h.ok.sep hK (by rw[h.hy];exact d) oM (hK.heap h.S.hDb (c.not h.S.hDb dC)) u ⟨m,j,hK.heap b t⟩ rfl ⟨rfl,rfl⟩ dO dO ((h.yy.kp hK oM (λk a f=>?_) (c.apt dC)).qS6 rfl rfl)⟩
 .exact { h.ok.d.qS7 g.k.ts g.k.li g.k.wa true g.κ.up g.so g.ys g.hs hK (T':=T+2) oM p v oM oM (c.apt dC) with }
 .exact h.S.off h.ok.d.dev h.ok.d.hB y h.mem k a (by simp at f |-;rcases f with e | e | e<;>simp[e])
end
def FD:List TypeId:=[203,282,80]
def Qt(g:TG)(q:SG)(w:Ϣ):Prop:=w.heap[q.St]?=some (η 0 q.s)/\g.Dv g.κ w
def Sk(g:TG)(q:SG)(w:Ϣ):Prop:=w.heap[q.St]?=some (η 0 { q.s with po:=true })/\g.Dv g.κ.up w
def Lks(g:TG)(q:SG)(w:Ϣ)(ko:ϩ)(w1:Ϣ):Prop:=(ioK ko=false/\Qt g q w1/\Kp [q.St,g.A] w w1)\/(ioK ko=true/\Sk g q w1/\Kp [q.St,g.A] w w1)
def IN(g:TG)(q:SG)(w:Ϣ)(F:ϯ)(ko:ϩ)(w1:Ϣ):Prop:=(ko=none/\F w1)\/(ko≠none/\Lks g q w ko w1)
def CSt(base:Nat)(T:Int)(w:Ϣ)(g:TG)(F:Nat)(vs:ϧ):Prop:=Calls prog F vs w λe w'=>e=ϱ (ϐ true)/\DStep AK base (T+2) w w' g
section
variable {κ:Kd} {base N A C n i:Nat} {T wr com:Int} {w w' w1:Ϣ} {E:SEnv} {l:ϣ} {q:SG} {y y':YG} {L:Ϥ} {g:TG} {r:Root}
def YOk.qX2(h:YOk base T w N com E l q y)(hK:Kp L w w')(b:Apt w L FD):w'.ownsRow base 203 1 y.f.cs (BZ y).length (BK (BZ y)):=
 CO h.qP7 hK (λk d e=>by
  let⟨_,c,a⟩:=Bg h.qP7 k (by simp[show y.f.cs.ownBlock=some k from d]);exact b k e _ _ _ a dC)
def YOk.qX3(h:YOk base T w N com E l q y)(hK:Kp L w w')(d:Apt w L FD)(f:y'.f.x=y.f.x)(k:y.t.ch<=y'.t.ch)(j:y'.t.over=true\/y.t.ch<y'.t.ch):∀c∈y.cs,COk base w' y' c:=λc hm=>by
 have a:=h.qO7 c hm;have:=a.s1;refine⟨a.bc,a.bC,hK.heap a.hc (λb=>d _ b _ _ _ a.hc dC),?_,a.s0,oM,λ_ e1 e2=>?_⟩
 .rw[f];exact hK.heap a.hC (λb=>d _ b _ _ _ a.hC dC)
 .rcases j with e|e
  .rw[e]at e2;cases e2
  .omega
def Sh.one{f St j k:Nat}{s}{D}(h:Sh κ w f St A C n j s D l wr r)(hK:Kp [k] w w'){c}{t}{fr}(a:w.heap[k]?=some (ϲ c t fr))(b:t∉[102,169,263,114,115]++DR):Sh κ w' f St A C n j s D l wr r:=by
 let⟨p,cA,m⟩:=h.hA;simp only[mC,List.mem_append,lN,or_false,not_or]at b;refine Sh.kp h hK (λi d o=>?_) (λi d c' t' fr' e=>by rw[mS d,a]at e;cases e;exact b.2);rw[mS o]at d;simp only[mC,lN,or_false]at d;rcases d with rfl|rfl|rfl|rfl|rfl|rfl
 .exact υ a h.hDb b.1.1 rfl
 .exact υ a h.hSt b.1.2.1 rfl
 .exact AH a h.hM rfl
 .exact υ a h.dev.hV b.1.2.2.1 rfl
 .exact υ a m b.1.2.2.2.1 rfl
 .exact υ a h.dev.hC b.1.2.2.2.2 rfl
def At.chg(h:At base T w g q r i y):ChIn w g.B y.tb g.κ.told g.k y.f y.ps:=
 have:=h.T1;have a:=h.yy
 ⟨h.ok.d.hB,h.ok.d.dev.tld,a.hT,a.sp,oW a.sz,h.g0,oW a.m0,oW a.m1,a.c0,oW a.c1,by rw[a.stp];exact a.ch0,by rw[a.stp];have:=a.ch1;omega⟩
def At.tfs(h:At base T w g q r i y):TFs w g.k (Ba g) (Bt g.ys):=
 ⟨PRow.of h.ok.row,by simp[Ba,Bt],λj d k=>by
  have f:j<g.ys.length:=by simpa [Ba] using d
  have a:=h.S.ys _ (gM f);let⟨b,c,e⟩:=a.sp.form;exact⟨by simpa [Ba,Bt] using a.hT,b,c,by simpa [Bt] using e⟩⟩
def At.ne(h:At base T w g q r i y):y.tb≠q.St/\y.tb≠y.f.x/\y.tb≠g.A/\y.f.x≠q.St/\y.f.x≠g.A/\y.tb≠q.s.M/\y.f.x≠q.s.M:=by
 let⟨_,_,_,b⟩:=h.ok.d.dev.at;let⟨k,j,c⟩:=h.S.hM;have a:=h.yy;have d:=a.hT;have f:=a.hx;exact⟨υ a.hT h.S.hSt dC,υ a.hT a.hx dC,υ a.hT b dC,υ a.hx h.S.hSt dC,υ a.hx b dC,λe=>(by rw[e,c]at d;cases d),λe=>(by rw[e,c]at f;cases f)⟩
def At.apt(h:At base T w g q r i y){b:List Ϯ}(a:∀t∈[169,99,197,114],t∉b):Apt w [q.St,y.f.x,g.A,q.s.M,y.tb] b:=λk hk c t fr e=>by
 let⟨_,_,_,f⟩:=h.ok.d.dev.at;let⟨o,m,j⟩:=h.S.hM;have d:=h.yy;simp[mC,lN,or_false]at hk;rcases hk with rfl|rfl|rfl|rfl|rfl
 .rw[h.S.hSt]at e;cases e;exact a _ sM
 .rw[d.hx]at e;cases e;exact a _ sM
 .rw[f]at e;cases e;exact a _ sM
 .rw[j]at e;cases e
 .rw[d.hT]at e;cases e;exact a _ sM
def At.own(h:At base T w g q r i y):∀k∈[q.St,y.f.x,g.A,q.s.M,y.tb],k∈[g.A,g.C,q.St,q.s.M]\/k∈AO y:=λk hk=>by
 simp[mC,lN,or_false]at hk;rcases hk with e|e|e|e|e
 .exact .inl (by simp[e])
 .exact .inr (Bl.2 (.inr (.inl e)))
 .exact .inl (by simp[e])
 .exact .inl (by simp[e])
 .exact .inr (Bl.2 (.inl e))
def At.bad(h:At base T w g q r i y)(f:q.s.po=false)(a:BadT (EF g.κ q.s.V g.A g.n g.C g.l g.wr) w w' y.t q.s):Qt g q w'/\Kp [q.St,g.A] w w':=by
 have b:=a.hSt;have c:=a.kp;have d:=(show Dw _ _ _ _ _ _ _ _ _ w' from a.dev).n;have e:=(h.S.sh f).1;rw[h.yy.st]at b c;refine⟨⟨b,?_⟩,c⟩;show Dn g.κ g.A g.n g.C g.l g.ws g.wr g.ca w';rw[Dn.ca0 h.ok.d.dev e,e];exact d
def At.ill(h:At base T w g q r i y)(f:q.s.po=false)(a:SickT (EF g.κ q.s.V g.A g.n g.C g.l g.wr) w w' y.t q.s):Sk g q w'/\Kp [q.St,g.A] w w':=by
 have b:=a.hSt;have c:=a.kp;have d:=(show Dw _ _ _ _ _ _ _ _ _ w' from a.fail).n;have e:=(h.S.sh f).1;rw[h.yy.st]at b c;refine⟨⟨b,?_⟩,c⟩;show Dn g.κ.up g.A g.n g.C g.l g.ws g.wr g.ca w';rw[Dn.ca0 h.ok.d.dev e,e];exact d
def At.over(h:At base T w g q r i y)(b:w'.heap[y.t.St]?=some (η 0 q.s))(a:Kp [y.t.St] w w'):Qt g q w'/\Kp [q.St,g.A] w w':=by
 rw[h.yy.st]at b a;exact⟨⟨b,h.ok.d.dev.qM3 a (OffD.one h.S.hSt dC)⟩,a.mono sC⟩
def At.told(h:At base T w g q r i y)(a:Sk g q w'):More w' g.k.A g.κ.told:=Dn.more a.2 h.ok.d.td0 (oX h.ok.d.td1 h.T1)
def At.looks{ko:ϩ}(h:At base T w g q r i y)(p:Lks g q w ko w1)(m:LkT g.B g.k ko w1 w'):DStep AK base (T+2) w w' g:=by
 rcases p with⟨e,b,d⟩|⟨e,b,d⟩
 .rcases m with⟨_,a⟩|⟨c,_⟩
  .exact h.quiet (a.hp b.1) (Dn.qM4 b.2 a) (d.tr a)
  .rw[e]at c;cases c
 .rcases m with⟨c,_⟩|⟨_,a,o⟩
  .rw[e]at c;cases c
  .have f:=d.heap h.ok.d.hB (h.nB λk j=>.inl (by simp at j |-;rcases j with e | e<;>simp[e]));exact h.qS6 (a.heap b.1 (by simpa using υ b.1 f dC)) (Dn.qM3 b.2 a (OffD.one f dC)) o ((d.mono sC).trans a sC)
def At.changed{r'}{qs}{X:ϩ->ϯ}(h:At base T w g q r i y)
  (I:IK y.f y.tb g.B g.k (λko w1=>X ko w1/\IN g q w (λw1=>(q.s.po=false/\y.t.over=false)/\(y.t.wrt=true/\RGood r'/\r'.cont=qs/\qs.length<=y.ps.length+1/\(∀c,BW c y.r->BW (c+1) r')/\r'.lf<=1400)/\∃h',FineT (EF g.κ q.s.V g.A g.n g.C g.l g.wr) w w1 y.f.x y.t q.s r' h') ko w1) [q.St,y.f.x,g.A] qs w w'):DStep AK base (T+2) w w' g:=by
 obtain⟨ko,w1,⟨_,he⟩,hK1,⟨rfl,_,v',hK2,hT',hsp⟩|⟨hne,hl⟩⟩:=I
 rotate_left
 .exact h.looks (he.elim (λh=>absurd h.1 hne) λh=>h.2) hl
 rcases he with⟨_,⟨hp,ho⟩,⟨hwt,hg,hc,hl,hfw,hlf⟩,h',hF⟩|⟨e,_⟩
 rotate_left
 .exact absurd rfl e
 have a:=h.yy;have s:=a.live hp ho;have d:=h.sh hp;let⟨⟨c,G,H⟩,_⟩:=s.wrt hwt;let⟨v,n2,n3,n4,n5,n6,O⟩:=h.ne;let⟨f,x,B⟩:=h.S.hM;have j:Kp [q.St,y.f.x,g.A,q.s.M,y.tb] w w':=(hK1.mono (λk b _=>by simp at b |-;rcases b with h | h | h<;>simp[h])).trans hK2 (λk b _=>by simp at b |-;simp[b]);have p:=hK1.heap a.hT (by simp[v,n2,n3]);have M:=hK2.heap hF.hx (sU n2.symm);have o:Ϙ w1 q.St (η 0 q.s):=by have:=hF.hSt;rw[a.st]at this;exact this
 have F:=hK2.heap o (sU v.symm);have D:∃f c,Ϙ w' q.s.M (.map f c):=⟨f,x,hK2.heap (hK1.heap B (by
  let⟨_,_,z⟩:=d.hA;simp[mC,lN,or_false,not_or];exact⟨(AH d.hSt d.hM).symm,O.symm,(AH z d.hM).symm⟩)) (sU n6.symm)⟩
 have u:=Sh.one (d.quiet a.hx hK1 hF.dev o) hK2 p dC;have K:g.Dv g.κ w':=by
  have e:=(h.S.sh hp).1;show Dn g.κ g.A g.n g.C g.l g.ws g.wr g.ca w';rw[Dn.ca0 h.ok.d.dev e,e];exact(show Dw _ _ _ _ _ _ _ _ _ w' from u.dev).n
 have S:((qs.length:Nat):Int)<=T+1:=by have:=a.sz;omega
 have m0:=a.m0;have m1:=a.m1;have c0:=a.c0;have c1:=a.c1;have P:=a.ch0;have Q:=a.ch1;have m:Apt w _ FD:=h.apt dC;refine h.step (q':=q) (y':=⟨y.tb,y.f.step v' qs.length,{ y.t with h:=h',ch:=y.t.ch+1 },r',qs,y.cs⟩) j h.own rfl (λk b=>.inl b) K F D (λ_=>⟨u,by rw[Ik kOf h.hi (by rw[h.hy];rfl)];exact(h.S.sh hp).2.2⟩) ⟨rfl,rfl,rfl,rfl,rfl⟩ ⟨rfl,rfl,rfl,rfl,rfl⟩ (λ_ _ _ _ _ _=>rfl) ?_;refine { bT:=a.bT,bX:=a.bX,hT:=hT',hx:=M,st:=a.st,sp:=hsp,m0:=?_,m1:=?_,c0:=by show 0<=y.f.chg+1;omega,c1:=by show y.f.chg+1<=T+2;omega,cm:=a.cm,wr:=a.wr,dn:=a.dn,ch0:=by show 0<=y.t.ch+1;omega,ch1:=by show y.t.ch+1<=T+2;omega,stp:=by show y.f.stp+1=y.t.ch+1;rw[a.stp],qP7:=a.qX2 j m,qQ0:=by have:=a.qQ0;show((y.cs.length:Nat):Int)<=T+2;omega,qO7:=a.qX3 j m rfl dO (.inr dO),cbs:=a.cbs,Cbs:=a.Cbs,live:=λ_ _=>⟨s.on,?_,hg,hc,λ_=>⟨⟨c+1,by show y.f.chg+1=_;rw[G];rfl,hfw c H⟩,hlf⟩,λe=>by rw[show y.t.wrt=false from e]at hwt;cases hwt⟩ }
 .show ((qs.length:Nat):Int)<=(if y.f.qN8<(qs.length:Nat) then((qs.length:Nat):Int) else y.f.qN8);split<;>omega
 .show (if y.f.qN8<(qs.length:Nat) then((qs.length:Nat):Int) else y.f.qN8)<=T+2;split<;>omega
 .exact hF.rr.qO1 hK2 (λk b c t R e=>by simp at b;subst b;rw[p]at e;cases e;decide)
end
def Qv{y:YG}{key val}(d:y.t.over=false)(e:y.f.wr=y.t.wrt)(c:y.f.dn=y.t.over)(h:Bj y.f.wr y.f.dn key val=0):y.t.wrt=true/\Bx key=true/\val.size<=12:=by
 rw[e,c,d]at h;simp[Bj,Bool.false_eq_true,if_false]at h;split at h
 .simp at h
 .split at h
  .simp at h
  .split at h
   .simp at h
   .rename_i a b f;exact⟨sU a,sU b,oM⟩
def qJ4{y:YG}{key val}{a:Bool}(f:y.t.over=false)(j:y.f.wr=y.t.wrt)(e:y.f.dn=y.t.over)(h:Bj y.f.wr y.f.dn key val≠0):EI y.t ⟨key,val⟩ a=some (Bj y.f.wr y.f.dn key val):=by
 rw[j,e,f]at h |-;simp[Bj,EI,Cv,qQ3,Bool.false_eq_true,if_false]at h |-;split
 .rfl
 .split
  .rfl
  .split
   .rfl
   .rename_i b c d;rw[if_neg b,if_neg c,if_neg d]at h;exact absurd rfl h
def FM(s):ioK (some (goK s))=false:=by unfold goK;split<;>rfl
def UO{y:YG}{key}(e:y.t.over=false)(f:y.f.wr=y.t.wrt)(d:y.f.dn=y.t.over)(h:Bj y.f.wr y.f.dn key ⟨#[]⟩≠0):FE y.t key=some (Bj y.f.wr y.f.dn key ⟨#[]⟩):=by
 rw[f,d,e]at h |-;have a:¬12<(⟨#[]⟩:ByteArray).size:=dC
 simp[Bj,FE,Cv,Bool.false_eq_true,if_false,if_neg a]at h |-;split
 .rfl
 .split
  .rfl
  .rename_i b c;rw[if_neg b,if_neg c]at h;exact absurd rfl h
def Qw(wr a:Bool)(k v)(h:Bj wr a k v≠0):¬Fk (some (Bj wr a k v)):=by
 unfold Fk Bj at *
 repeat' split at *
 all_goals simp_all
section
variable {base i:Nat} {T:Int} {w:Ϣ} {q:SG} {y:YG} {g:TG} {r:Root}
def At.goes(h:At base T w g q r i y)(a:q.s.po=true\/y.t.over=true):(g.k.po=true/\goK q.s=7)\/(g.k.po=false/\y.f.dn=true/\goK q.s=5):=by
 rw[h.ep,h.yy.dn]
 cases hp:q.s.po with
 | true=>exact .inl ⟨rfl,if_pos hp⟩
 | false=>exact .inr ⟨rfl,a.resolve_left (by simp[hp]),if_neg (by simp[hp])⟩
def At.qZ0(h:At base T w g q r i y)(d:q.s.po=true\/y.t.over=true){key val}{RM:Prop}{e:Int}{A:Nat}{w'}:Fu g.k.po (Bj y.f.wr y.f.dn key val) e A RM (some (goK q.s)) w':=by
 rcases h.goes d with⟨a,b⟩|⟨a,b,c⟩
 .exact .inl ⟨a,by rw[b]⟩
 .refine .inr (.inl ⟨a,?_,?_⟩)<;>rw[b]<;>simp[Bj,c]
def qA2(h:At base T w g q r i y)(key val):CSt base T w g 132 #[ϖ g.B,ϖ y.tb,ϕ key,ϕ val,ϐ false]:=by
 have o:=h.yy;have hT:=h.T1;refine(Tl g.B y.tb g.κ.told g.k y.f (Ba g) (Bt g.ys) y.ps key val [q.St,y.f.x,g.A] (λko w1=>Fu g.k.po (Bj y.f.wr y.f.dn key val) g.κ.told g.k.A (RmIn w g.k y.f (Ba g) (Bt g.ys) (ins ⟨key,val⟩ y.ps).length) ko w1/\IN g q w (λw1=>(q.s.po=false/\y.t.over=false)/\(y.t.wrt=true/\RGood (y.r.put ⟨key,val⟩)/\(y.r.put ⟨key,val⟩).cont=ins ⟨key,val⟩ y.ps/\(ins ⟨key,val⟩ y.ps).length<=y.ps.length+1/\(∀c,BW c y.r->BW (c+1) (y.r.put ⟨key,val⟩))/\(y.r.put ⟨key,val⟩).lf<=1400)/\∃I,FineT (EF g.κ q.s.V g.A g.n g.C g.l g.wr) w w1 y.f.x y.t q.s (y.r.put ⟨key,val⟩) I) ko w1) w h.chg (h.qQ5 sC) ?_ (λ_ _ h=>h.1)).mono λe w' ⟨a,b⟩=>⟨a,h.changed b⟩;by_cases D:q.s.po=true\/y.t.over=true
 .apply (qA3 y.f.x y.t q.s ⟨key,val⟩ w o.hx D h.qR5 h.xS).mono;rintro e w' ⟨v,rfl,m,c,d⟩;let⟨j,f⟩:=h.over c d;exact⟨v,_,rfl,m,⟨h.qZ0 D,.inr ⟨sM,.inl ⟨FM _,j,f⟩⟩⟩,f.mono sC⟩
 simp[not_or,Bool.not_eq_true]at D;let⟨k,t⟩:=D;have hL:=h.live k t;have s:=o.live k t;have G:=h.sh k;have F:g.k.po=false:=by rw[h.ep];exact k
 apply(qA1 _ y.f.x g.A g.n y.t q.s y.r ⟨key,val⟩ w hL).mono;rintro e w' ⟨v,ko,rfl,m,K⟩;by_cases p:Bj y.f.wr y.f.dn key val=0
 rotate_left
 .rw[qJ4 t o.wr o.dn p]at K;rcases K with⟨e,_⟩|⟨rfl,_,hb⟩
  .exact absurd e (Qw _ _ _ _ p)
  .let⟨j,f⟩:=h.bad k (hb sM);exact⟨v,_,rfl,m,⟨.inr (.inl ⟨F,p,rfl⟩),.inr ⟨sM,.inl ⟨(DJ (IC _ _ _ _)).1,j,f⟩⟩⟩,f.mono sC⟩
 let⟨u,B,f3⟩:=Qv t o.wr o.dn p;have V:AD ⟨key,val⟩:=⟨((EZ key).1 B).1,((EZ key).1 B).2,f3⟩;let⟨H,P⟩:=KD s.qM7 V;have ad:=JJ ⟨key,val⟩ y.ps;rw[s.cont]at P;have X:¬12<val.size:=oM
 rcases K with⟨_,O,ag⟩|⟨rfl,ac,ab⟩
 .let⟨j,f⟩:=h.ill k ag;exact⟨v,ko,rfl,m,⟨.inr (.inr ⟨F,p,.inr (.inr ⟨O,h.told j⟩)⟩),.inr ⟨(Ci O).2,.inr ⟨O,j,f⟩⟩⟩,f.mono sC⟩
 by_cases hr:((y.r.put ⟨key,val⟩).news:Int)<=(g.n:Int)-2-q.s.bl
 .have e:EI y.t ⟨key,val⟩ (decide ((g.n:Int)-2-q.s.bl<((y.r.put ⟨key,val⟩).news:Int)))=none:=by
   rw[decide_eq_false oM];simp[EI,Cv,qQ3,u,B,X]
  rw[e]at m;let⟨I,M⟩:=ac e;have R:=M.kp;rw[o.st]at R;have W:=Gs s.rr;have ai:=OE (Gs M.rr) H;have aa:=G.N4;have S:(y.r.put ⟨key,val⟩).lf<=1400:=by have:=G.bl0;omega
  exact⟨v,none,rfl,m,⟨.inr (.inr ⟨F,p,.inl rfl⟩),.inl ⟨rfl,⟨k,t⟩,⟨u,H,P,ad,λc hc=>Vp s.qM7 (Ks W) V hc (Hq s.qM7 (s.wrt u).2) (Ku W) (Hq H S),S⟩,I,M⟩⟩,R⟩
 .have e:EI y.t ⟨key,val⟩ (decide ((g.n:Int)-2-q.s.bl<((y.r.put ⟨key,val⟩).news:Int)))=some 3:=by
   rw[decide_eq_true oM];simp[EI,Cv,qQ3,u,B,X]
  rw[e]at m;let⟨j,f⟩:=h.bad k (ab (by rw[e];simp));have aa:=G.N4;have al:=o.sz;have aj:=h.el;let⟨Z,cc,ae⟩:=h.ec.form;have Q:∀x∈Bt g.ys,x.2<=100000:=λx hx=>by
   obtain⟨z,hz,rfl⟩:=List.mem_map.1 hx;have:=(h.S.ys z hz).sz;simp only;omega
  have ak:=(Im g.k.com (Bt g.ys) Q).1;refine⟨v,some 3,rfl,m,⟨.inr (.inr ⟨F,p,.inr (.inl ⟨rfl,h.tfs,by have:=h.ok.qR9;simp[Ba];omega,Q,by show g.n<=100000;omega,oM,Z,r.cont.length,cc,ae,oM,?_⟩)⟩),.inr ⟨sM,.inl ⟨rfl,j,f⟩⟩⟩,f.mono sC⟩;rw[Ee];have af:=Fo H;rw[P]at af;have ah:=G.bl1;have:¬(3*(max (max y.f.qN8 ((ins ⟨key,val⟩ y.ps).length:Nat)) ((r.cont.length:Nat):Int))+12+Bm g.k.com (Bt g.ys)<=(g.k.n:Int)):=by
   show¬(_<=(g.n:Int));omega
  rw[decide_eq_false this];rfl
def UL(h:At base T w g q r i y)(key val):CSt base T w g 132 #[ϖ g.B,ϖ y.tb,ϕ key,ϕ val,ϐ true]:=by
 have m:=h.yy;refine(Tk g.B y.tb g.κ.told g.k y.f (Ba g) (Bt g.ys) y.ps key val [q.St,y.f.x,g.A] (λko w1=>Fu g.k.po (Bj y.f.wr y.f.dn key ⟨#[]⟩) g.κ.told g.k.A False ko w1/\IN g q w (λw1=>(q.s.po=false/\y.t.over=false)/\(y.t.wrt=true/\RGood (y.r.del key)/\(y.r.del key).cont=del key y.ps/\(del key y.ps).length<=y.ps.length+1/\(∀c,BW c y.r->BW (c+1) (y.r.del key))/\(y.r.del key).lf<=1400)/\∃D,FineT (EF g.κ q.s.V g.A g.n g.C g.l g.wr) w w1 y.f.x y.t q.s (y.r.del key) D) ko w1) w h.chg (h.qQ5 sC) ?_ (λ_ _ h=>h.1)).mono λe w' ⟨a,b⟩=>⟨a,h.changed b⟩;by_cases B:q.s.po=true\/y.t.over=true
 .apply (UM y.f.x y.t q.s key w m.hx B h.qR5 h.xS).mono;rintro e w' ⟨v,rfl,s,c,d⟩;let⟨o,f⟩:=h.over c d;exact⟨v,_,rfl,s,⟨h.qZ0 B,.inr ⟨sM,.inl ⟨FM _,o,f⟩⟩⟩,f.mono sC⟩
 simp[not_or,Bool.not_eq_true]at B;let⟨p,u⟩:=B;have j:=m.live p u;have I:g.k.po=false:=by rw[h.ep];exact p
 refine(UI _ y.f.x g.A g.n y.t q.s y.r key w (h.live p u)).mono ?_;rintro e w' ⟨v,ko,rfl,s,F⟩;by_cases t:Bj y.f.wr y.f.dn key ⟨#[]⟩=0
 rotate_left
 .rw[UO u m.wr m.dn t]at F;rcases F with⟨e,_⟩|⟨rfl,_,Q⟩
  .exact absurd e (Qw _ _ _ _ t)
  .let⟨o,f⟩:=h.bad p (Q sM);exact⟨v,_,rfl,s,⟨.inr (.inl ⟨I,t,rfl⟩),.inr ⟨sM,.inl ⟨(DJ (IC _ _ _ _)).1,o,f⟩⟩⟩,f.mono sC⟩
 let⟨x,P,f3⟩:=Qv u m.wr m.dn t;let⟨Z,O⟩:=MS (k:=key) j.qM7;have W:(del key y.ps).length<=y.ps.length+1:=Nat.le_succ_of_le (List.length_filter_le _ _);rw[j.cont]at O;rcases F with⟨_,G,X⟩|⟨rfl,V,aa⟩
 .let⟨o,f⟩:=h.ill p X;exact⟨v,ko,rfl,s,⟨.inr (.inr ⟨I,t,.inr (.inr ⟨G,h.told o⟩)⟩),.inr ⟨(Ci G).2,.inr ⟨G,o,f⟩⟩⟩,f.mono sC⟩
 have e:FE y.t key=none:=by simp[FE,Cv,x,P]
 rw[e]at s;let⟨D,K⟩:=V e;have M:=K.kp;rw[m.st]at M;have z:=Gs j.rr;have H:=(j.wrt x).2;let⟨⟨c0,_,S⟩,_⟩:=j.wrt x;exact⟨v,none,rfl,s,⟨.inr (.inr ⟨I,t,.inl rfl⟩),.inl ⟨rfl,⟨p,u⟩,⟨x,Z,O,W,λc R=>(Nd j.qM7 (Ks z) R H (Ku z)).1,lT (Nd j.qM7 (Ks z) S H (Ku z)).2 H⟩,D,K⟩⟩,M⟩
end
def Fj{c:Int}(a:0<=c)(b:c<=2000000000):nx c=c+1:=by simp[nx,wrap64];omega
def Hy{c:Int}(a:0<=c)(b:c<=1000000000):∀k:Nat,k<=500000000->nk c k=c+k
 | 0,_=>by simp[nk]
 | k+1,h=>by
  rw[nk,Hy a b k oM,Fj oM oM];omega
section
variable {base i:Nat} {T:Int} {w w':Ϣ} {q q':SG} {y:YG} {g:TG} {r:Root}
def At.qY9(h:At base T w g q r i y)(j:q.s.po=true\/y.t.over=true){k:Bool}{e f:Prop}(d:e){l:Int}{A:Nat}{w'}:IR g.k.po y.f.dn k l A e f (some (goK q.s)) w':=by
 rcases h.goes j with⟨a,b⟩|⟨a,b,c⟩
 .exact .inl ⟨_,rfl,d,.inl ⟨a,b⟩⟩
 .exact .inl ⟨_,rfl,d,.inr (.inl ⟨a,b,c⟩)⟩
def FL(h:At base T w g q r i y)(key):CSt base T w g 133 #[ϖ g.B,ϖ y.tb,ϕ key]:=by
 have u:=h.yy;refine(Wt g.B y.tb g.κ.told g.k y.f y.ps key [q.St,g.A] (Lks g q w) w h.look (h.qQ5 sC) ?_).mono λe w' ⟨a,ko,C,b,_,c⟩=>⟨a,h.looks b c⟩;by_cases m:q.s.po=true\/y.t.over=true
 .refine (qG8 y.f.x y.t q.s key w u.hx m h.qR5 h.xS).mono ?_;rintro e w' ⟨v,rfl,t,c,d⟩;let⟨j,f⟩:=h.over c d;exact⟨v,_,_,_,rfl,t,h.qY9 m ⟨rfl,rfl⟩,.inl ⟨FM _,j,f⟩,f⟩
 simp[not_or,Bool.not_eq_true]at m;let⟨l,p⟩:=m;have s:g.k.po=false:=by rw[h.ep];exact l
 have n:y.f.dn=false:=by rw[u.dn];exact p
 refine(qG7 _ y.f.x g.A g.n y.t q.s y.r key w (h.live l p)).mono ?_;rintro e w' ⟨v,ko,rfl,t,z⟩;refine⟨v,_,_,ko,rfl,t,?_⟩;rcases z with⟨e,o,B⟩|⟨rfl,A⟩
 .let⟨j,f⟩:=h.ill l B;have k:Bx key=true:=by cases k:Bx key with | true=>rfl | false=>simp[Cp,k]at e
  have x:=(Ci o).2;exact⟨.inr ⟨s,n,k,.inr ⟨o,h.told j,by simp[FO,x],by simp[FN,x]⟩⟩,.inr ⟨o,j,f⟩,f⟩
 .let⟨j,f⟩:=h.bad l A
  cases k:Bx key with
  | true=>
   have e:Cp key=none:=by simp[Cp,k]
   rw[e];refine⟨.inr ⟨s,n,rfl,.inl ⟨rfl,?_⟩⟩,.inl ⟨rfl,j,f⟩,f⟩;simp[FO,FN,if_true,(u.live l p).cont];rfl
  | false=>
   have e:Cp key=some 1:=by simp[Cp,k]
   rw[e];exact⟨.inl ⟨1,rfl,⟨rfl,rfl⟩,.inr (.inr ⟨s,n,rfl,rfl⟩)⟩,.inl ⟨rfl,j,f⟩,f⟩
def At.num(h:At base T w g q r i y)(b:q.s.po=false):(g.ys.map kOf)[i]?=some (kOf y)/\1<=y.t.nr/\y.t.nr<=1000000000:=by
 have a:(g.ys.map kOf)[i]?=some (kOf y):=by simp[h.hi,h.hy]
 let⟨c,d⟩:=(h.S.sh b).2.2.nrs i (kOf y) a;have:y.t.nr<=q.s.bg:=d;have:=h.S.bg1;have:=h.T1;exact⟨a,c,oM⟩
def At.others(h:At base T w g q r i y)(a:q.s.po=false)(j:Nat)(b:j<g.ys.length)(d:j≠i):χ g.ys[j].t.nr≠χ y.t.nr:=λe=>by
 have c:(g.ys.map kOf)[j]?=some (kOf g.ys[j]):=by simp[b]
 exact d ((h.S.sh a).2.2.qR0 j i _ _ c (h.num a).1 (Gw.Hl e))
def At.qU1(h:At base T w g q r i y){L}{q':SG}{N:Nat}{j:Int}{E}{l}(hK:Kp L w w')(m:Apt w L (284::FD))(s:g.k.com<=j)(hT:w'.heap[y.tb]?=some (tob { y.f with dn:=true }))(hx:w'.heap[y.f.x]?=some (Ac y.t.ended))(o:q'.St=q.St):YOk base (T+2) w' N j E l q' ⟨y.tb,{ y.f with dn:=true },y.t.ended,y.r,y.ps,y.cs⟩:=
 have a:=h.yy;have n:Apt w L FD:=λk f c t d e b=>m k f c t d e (mM _ b)
 { bT:=a.bT,bX:=a.bX,hT:=hT,hx:=hx,st:=by rw[o];exact a.st,sp:=a.sp.qM3 hK (λk f c t d e b=>m k f c t d e (by simp at b;simp[b])),m0:=a.m0,m1:=by have:=a.m1;show y.f.qN8<=T+2;omega,c0:=a.c0,c1:=by have:=a.c1;show y.f.chg<=T+2;omega,cm:=Int.le_trans a.cm s,wr:=a.wr,dn:=rfl,ch0:=a.ch0,ch1:=by have:=a.ch1;show y.t.ch<=T+2;omega,stp:=a.stp,qP7:=a.qX2 hK n,qQ0:=by have:=a.qQ0;show((y.cs.length:Nat):Int)<=T+2;omega,qO7:=a.qX3 hK n rfl (iR _) (.inl rfl),cbs:=a.cbs,Cbs:=a.Cbs,live:=λ_ p=>by cases p }
def At.left(h:At base T w g q r i y)(c:q.s.po=false)(z:y.t.over=false)(t:Lx y.f y.tb (λd=>d.heap[y.f.x]?=some (Ac y.t.ended)/\Sh g.κ d q.Db q.St g.A g.C g.n q.nM (q.s.left y.t.nr) (q.D.del (χ y.t.nr)) g.l g.wr r) [q.St,y.f.x,q.s.M] w w'):DStep AK base (T+2) w w' g:=by
 let⟨d,⟨r1,r2⟩,hK1,hK2,hT'⟩:=t;let⟨B,n2,n3,n4,n5,n6,C⟩:=h.ne;have f:Kp [q.St,y.f.x,g.A,q.s.M,y.tb] w w':=(hK1.mono (λk a _=>by simp at a |-;rcases a with h | h | h<;>simp[h])).trans hK2 (λk a _=>by simp at a |-;simp[a]);have o:=hK1.heap h.yy.hT (by simp[B,n2,n6]);have b:=Sh.one r2 hK2 o dC;let⟨e,A,p⟩:=h.S.sh c;have u:g.Dv g.κ w':=by
  show Dn g.κ g.A g.n g.C g.l g.ws g.wr g.ca w';rw[Dn.ca0 h.ok.d.dev e,e];exact(show Dw _ _ _ _ _ _ _ _ _ w' from b.dev).n
 let⟨m,l,n,_⟩:=b.hM;refine h.step (q':={ q with s:=q.s.left y.t.nr,D:=q.D.del (χ y.t.nr) }) (y':=⟨y.tb,{ y.f with dn:=true },y.t.ended,y.r,y.ps,y.cs⟩) f h.own rfl (λk a=>.inl a) u b.hSt ⟨m,l,n⟩ (λ_=>⟨b,by rw[List.map_set];exact p.left (World.ownsMap.tidy A.hM CH) (h.num c).1 z⟩) ⟨rfl,rfl,rfl,rfl,rfl⟩ ⟨rfl,rfl,rfl,rfl,rfl⟩ (λj v x _ _ zd=>Maps.atKey_del_other (h.others c j v x) zd) (h.qU1 f (h.apt dC) (iR _) hT' (hK2.heap r1 (sU n2.symm)) rfl)
def ER(h:At base T w g q r i y)(j:Bool)(u:j=true->q.s.po=false->y.t.over=false->y.t.wrt=false):CSt base T w g 135 #[ϖ g.B,ϖ y.tb,ϐ j]:=by
 have k:=h.yy;let⟨_,_,_,p⟩:=h.ok.d.dev.at;let⟨H,n2,n3,n4,n5,n6,I⟩:=h.ne;have s:=υ p h.S.hSt dC;by_cases m:q.s.po=true\/y.t.over=true
 .refine (MW j g.B y.tb g.κ.told g.wr g.k y.f y.ps (some (goK q.s)) [q.St] (Qt g q) w h.look (h.qQ5 sC) h.ok.d.dev.wrs (sU s) ((h.goes m).elim (λh=>.inl ⟨h.1,by rw[h.2]⟩) λh=>.inr (.inl ⟨h.1,h.2.1,by rw[h.2.2]⟩)) ?_).mono λe w' ⟨a,b⟩=>⟨a,?_⟩
  .have f:∀e w',(∃v,e=Ending.returned v/\ErrV w' v (some (goK q.s))/\Ϙ w' y.t.St (η 0 q.s)/\Kp [y.t.St] w w')->∃v,e=Ending.returned v/\ErrV w' v (some (goK q.s))/\Qt g q w'/\Kp [q.St] w w':=λe w' ⟨v,a,b,c,d⟩=>⟨v,a,b,(h.over c d).1,by rw[<-k.st];exact d⟩
   cases j with
   | true=>exact(qG0 y.f.x y.t q.s w k.hx m h.qR5 h.xS).mono f
   | false=>exact(Rk y.f.x y.t q.s w k.hx m h.qR5 h.xS).mono f
  .rcases b with⟨_,o,A,B,C⟩|⟨b,_⟩
   .exact h.looks (ko:=none) (.inl ⟨rfl,A,B.mono sC⟩) (.inl ⟨rfl,C⟩)
   .cases b
 simp[not_or,Bool.not_eq_true]at m;let⟨f,l⟩:=m;have E:g.k.po=false:=by rw[h.ep];exact f
 have n:=h.sh f;let⟨F,G,z⟩:=h.num f;have D:=AH p n.hM;have t:=h.live f l;refine(MW j g.B y.tb g.κ.told g.wr g.k y.f y.ps none [q.St,y.f.x,q.s.M] (λo=>Ϙ o y.f.x (Ac y.t.ended)/\Sh g.κ o q.Db q.St g.A g.C g.n q.nM (q.s.left y.t.nr) (q.D.del (χ y.t.nr)) g.l g.wr r) w h.look (h.qQ5 sC) h.ok.d.dev.wrs (by simp[s,n5.symm,D]) (.inr (.inr ⟨E,by rw[k.dn,l],rfl,?_⟩)) ?_).mono λe w' ⟨a,b⟩=>⟨a,?_⟩
 .cases j with
  | true=>exact .inr (by rw[k.wr];exact u rfl f l)
  | false=>exact .inl rfl
 .have x:∀e w',(e=Ending.returned Value.nilIface/\Ϙ w' y.f.x (Ac y.t.ended)/\Sh g.κ w' q.Db q.St g.A g.C g.n q.nM (q.s.left y.t.nr) (q.D.del (χ y.t.nr)) g.l g.wr r/\Kp [q.St,y.f.x,q.s.M] w w')->∃v,e=Ending.returned v/\ErrV w' v none/\(Ϙ w' y.f.x (Ac y.t.ended)/\Sh g.κ w' q.Db q.St g.A g.C g.n q.nM (q.s.left y.t.nr) (q.D.del (χ y.t.nr)) g.l g.wr r)/\Kp [q.St,y.f.x,q.s.M] w w':=λe w' ⟨a,b,c,d⟩=>⟨_,a,rfl,⟨b,c⟩,d⟩
  cases j with
  | true=>exact(n.qW2 t k.st oM z (u rfl f l)).mono x
  | false=>exact(n.abort t k.st oM z).mono x
 .rcases b with⟨b,_⟩|⟨_,b⟩
  .exact absurd rfl b
  .exact h.left f l b
end
def EN:SEnv where
 O:=fun _ _ _ _=>False
 V:=0
 S:=[]
 Dev:=fun _=>False
 qM3:=fun _ _ _ h=>h.elim
 apt:=fun _ h=>h.elim
 low:=fun _ h=>h.elim
 pos:=fun _ _ _ _ h=>h.elim
 lvl:=fun _ _ _ _ h=>h.elim
 qP9:=fun _=>False
 read:=fun _ _ _ _ _ _ h=>h.elim
 qN1:=fun _ _ _ h=>h.elim
 qP6:=fun _ _ _ h=>h.elim
 qU9:=fun _ h=>h.elim
section
variable {base i:Nat} {T:Int} {w w':Ϣ} {q:SG} {y:YG} {g:TG} {r:Root}
def At.qW8(h:At base T w g q r i y){n:Nat}(hn:n<=y.ps.length)(M:q.s.po=false)(f:LG g.k g.B base n g.hs [q.St,g.A] (Lks g q w) w w'):DStep AK base (T+2) w w' g:=by
 let⟨w1,w5,l,H,ad,I,hl,ab,ac,N,O,L,hB,hH,al,am,hK,X,aj,ak,R,o,W⟩:=f;have aa:=h.yy;have:=aa.sz;have f:=h.ok.d;let⟨_,_,_,S⟩:=f.dev.at
 replace H:Qt g q w1:=by
  rcases H with⟨_,h,_⟩|⟨e,_⟩
  .exact h
  .cases e
 have hs:=h.sh M;have A:=(h.S.sh M).1;have P:∀k,g.k.li.ownBlock=some k->base<=k/\∃c,Ϙ w k (ϲ c 29):=λk a=>Bg h.ok.held.li k (by simp[a]);have Q:∀k,g.k.wa.ownBlock=some k->base<=k/\∃c,Ϙ w k (ϲ c 29):=λk a=>Bg h.ok.held.wa k (by simp[a]);have s:Muts base [169,114,130,29] w L:=λk a=>by
  rcases X k a with a|rfl|a|a
  .simp at a;rcases a with rfl|rfl
   .exact⟨h.S.bSt,_,h.S.hSt,λc t m e=>by cases e;decide⟩
   .exact⟨f.bA,_,S,λc t m e=>by cases e;decide⟩
  .exact⟨f.bB,_,f.hB,λc t m e=>by cases e;decide⟩
  .let⟨F,c,d⟩:=P k a;exact⟨F,_,d,λc t m e=>by cases e;decide⟩
  .let⟨F,c,d⟩:=Q k a;exact⟨F,_,d,λc t m e=>by cases e;decide⟩
 have V:=ad.tr I;have K:Dn g.κ g.A g.n g.C g.l g.ws g.wr g.ca w1:=H.2;rw[Dn.ca0 K A,A]at K;have B:=K.qM4 I;have Z:=V.heap hs.dev.hV (by simp[mC,lN,or_false,not_or];exact⟨υ hs.dev.hV hs.hSt dC,hs.VA⟩);have j:=hs.quiet aa.hx (V.mono sC) (B.k (oW hs.N8) Z) (I.hp H.1);have D:∀{k:Nat} {c:Array Value} {t:TypeId} {m:Nat×Nat},Ϙ w k (ϲ c t m)->t≠130->t≠29->k∉R:=λa t1 t2 C=>by
  rcases W _ C with e|e|e|e
  .have:=hl _ e;have:=U a;omega
  .exact υ a f.hB t1 e
  .let⟨_,c,d⟩:=P _ e;exact υ a d t2 rfl
  .let⟨_,c,d⟩:=Q _ e;exact υ a d t2 rfl
 have af:q.s.M∉R:=λC=>by
  have G:=hs.hM;rcases W _ C with e|e|e|e
  .have:=hl _ e;have:=G.lt;omega
  .exact AH f.hB G e.symm
  .let⟨_,c,d⟩:=P _ e;exact AH d G rfl
  .let⟨_,c,d⟩:=Q _ e;exact AH d G rfl
 have ai:=f.dev.gl.qM3 hK (s.apt dC);have ah:Dn g.κ g.A g.n g.C g.l [] g.wr [] w':=by
  let⟨b,p,v,c,F,d,h3,h4,h5⟩:=B.hA;rw[h5 rfl]at d;exact Dn.new (o.heap d (D S dC dC)) h3 (o.heap B.hC (D f.dev.hC dC dC)) ai B.len B.N1
 have E:=j.qO4 o (D hs.hDb dC dC) (ah.k (oW hs.N8) (o.heap Z (D hs.dev.hV dC dC))) ⟨rfl,rfl,rfl,rfl,rfl,rfl⟩ (o.heap j.hSt (D hs.hSt dC dC)) (j.hM.kp o af) j.m4 j.n1 j.bg0 j.kb j.rd;have ag:g.Dv g.κ w':=by
  show Dn g.κ g.A g.n g.C g.l g.ws g.wr g.ca w';rw[Dn.ca0 f.dev A,A];exact(show Dw _ _ _ _ _ _ _ _ _ w' from E.dev).n
 have:=h.ok.hlen;refine⟨{ g with k:={ g.k with li:=ab,wa:=ac },hs:=g.hs++[N,O] },L,⟨f.qS7 g.k.ts ab ac g.k.po g.κ g.so g.ys (g.hs++[N,O]) hK oM hB ag f.td0 (oW f.td1) (s.apt dC),hH,by show(((g.hs++[N,O]).length:Nat):Int)<=T+2;simp;omega,λx u=>?_,?_,by have:=h.ok.qR9;show((g.ys.length:Nat):Int)<=T+2;omega,.inr ⟨q,r,h.e1,h.ex,h.ep,h.em,oW h.el,h.ec.qM3 hK (s.apt dC),⟨h.S.bSt,h.S.bM,E.hDb,E.hSt,(by let⟨es,cM,ae,_⟩:=E.hM;exact⟨es,cM,ae⟩),λ_=>⟨A,E,(h.S.sh M).2.2⟩,oW h.S.bg1,oW h.S.nM,λz hz=>(h.S.ys z hz).kp hK oM (λk a C=>?_) (s.apt dC)⟩⟩,h.ok.sep⟩,rfl,λk a=>?_,hK,λk a=>?_⟩
 .rcases mA u with u|u
  .have:=h.ok.hps x u;omega
  .simp[mC,lN,or_false]at u;rcases u with rfl|rfl<;>omega
 .refine CO h.ok.row hK (λk a=>?_);let⟨_,c,d⟩:=Bg h.ok.row k (by simp[a]);exact s.not d dC
 .let⟨_,c,t,m,b2,b3⟩:=(h.S.ys z hz).qR8 k a;exact(s.apt (Us:=yTs) dC) k C _ _ _ b2 b3
 .rcases Az.1 a with a|a|a|a|a|a|a
  .exact .inl (Az.2 (.inl a))
  .exact .inl (Az.2 (.inr (.inl a)))
  .exact .inl (Az.2 (.inr (.inr (.inl a))))
  .rcases aj k a with a|a
   .exact .inl (Az.2 (.inr (.inr (.inr (.inl a)))))
   .exact .inr a
  .rcases ak k a with a|a
   .exact .inl (Az.2 (.inr (.inr (.inr (.inr (.inl a))))))
   .exact .inr a
  .exact .inl (Az.2 (.inr (.inr (.inr (.inr (.inr (.inl a)))))))
  .exact .inl (Az.2 (.inr (.inr (.inr (.inr (.inr (.inr a)))))))
 .refine Az.2 ?_;rcases X k a with a|rfl|a|a
  .simp at a;rcases a with rfl|rfl
   .exact .inr (.inr (.inr (.inr (.inr (.inl (by rw[h.e1];simp[BQ]))))))
   .exact .inl (.inr (.inl rfl))
  .exact .inl (.inl rfl)
  .exact .inr (.inr (.inr (.inl a)))
  .exact .inr (.inr (.inr (.inr (.inl a))))
def qC9(h:At base T w g q r i y)(lo hi)(n:Int)(o:Gw.I64 n):CSt base T w g 134 #[ϖ g.B,ϖ y.tb,ϕ lo,ϕ hi,ϊ n]:=by
 have A:=h.yy;have:=h.T1;refine(qD0 g.B y.tb g.κ.told g.k y.f y.ps base g.hs lo hi n [q.St,g.A] (λko t=>(ko=none->q.s.po=false)/\Lks g q w ko t) w h.look (h.qQ5 sC) h.ok.held (oW h.ok.hlen) h.hbs ?_).mono λe w' ⟨a,b⟩=>⟨a,?_⟩
 rotate_left
 .rcases b with⟨ko,t,_,⟨_,b⟩,_,c⟩|⟨t,w5,l,⟨b0,b⟩,c⟩
  .exact h.looks b c
  .exact h.qW8 (PT _ _ _ _) (b0 rfl) ⟨t,w5,l,b,c⟩
 by_cases m:q.s.po=true\/y.t.over=true
 .refine (KK EN y.f.x g.A g.n y.t q.s y.r lo hi n w (.inr ⟨A.hx,m,h.qR5,h.xS⟩) o.1 o.2).mono ?_;rintro e w' ⟨l,v,ko,rfl,s,u⟩;rcases u with⟨rfl,_,x⟩|⟨rfl,z⟩
  .exact x.dev.elim
  .rcases z with⟨_,⟨e1,e2⟩,_⟩|⟨rfl,_,c,d⟩
   .rcases m with e|e
    .rw[e1]at e;cases e
    .rw[e2]at e;cases e
   .let⟨k,f⟩:=h.over c d;exact⟨_,v,_,rfl,s,h.qY9 m rfl,⟨λe=>(by cases e),.inl ⟨FM _,k,f⟩⟩,f⟩
 simp[not_or,Bool.not_eq_true]at m;let⟨j,p⟩:=m;have E:g.k.po=false:=by rw[h.ep];exact j
 have C:y.f.dn=false:=by rw[A.dn];exact p
 refine(KK (EF g.κ q.s.V g.A g.n g.C g.l g.wr) y.f.x g.A g.n y.t q.s y.r lo hi n w (.inl (h.live j p)) o.1 o.2).mono ?_;rintro e w' ⟨l,v,ko,rfl,s,u⟩;rcases u with⟨rfl,B,x⟩|⟨rfl,z⟩
 .let⟨k,f⟩:=h.bad j x;rw[(A.live j p).cont]at B;exact⟨l,v,none,rfl,s,.inr ⟨E,C,rfl,.inl ⟨rfl,B⟩⟩,⟨λ_=>j,.inl ⟨rfl,k,f⟩⟩,f⟩
 .rcases z with⟨D,_,F,G,H⟩|⟨_,e,_⟩
  .let⟨k,f⟩:=h.ill j ⟨F,G,H⟩;exact⟨_,v,ko,rfl,s,.inr ⟨E,C,rfl,.inr ⟨D,h.told k,rfl⟩⟩,⟨λ_=>j,.inr ⟨D,k,f⟩⟩,f⟩
  .rcases e with e|e
   .rw[j]at e;cases e
   .rw[p]at e;cases e
end
section
variable {base:Nat} {T:Int} {w w':Ϣ} {q q':SG} {y:YG} {g g':TG} {r:Root} {L:Ϥ}
def OfD(g:TG)(L:Ϥ):Prop:=∀k∈L,k=g.B\/k=g.A\/k=g.C\/k∈g.ca
def DOk.qN9(h:DOk base T w g)(f:OfD g L):Muts base [130,114,115,117] w L:=λk a=>by
 let⟨_,_,_,d⟩:=h.dev.at;rcases f k a with rfl|rfl|rfl|a
 .exact⟨h.bB,_,h.hB,λc t b e=>by cases e;decide⟩
 .exact⟨h.bA,_,d,λc t b e=>by cases e;decide⟩
 .exact⟨h.bC,_,h.dev.hC,λc t b e=>by cases e;decide⟩
 .let⟨c,e⟩:=Dn.qS3 h.dev a;exact⟨h.bca k a,_,e,λc t b e=>by cases e;decide⟩
def DOk.maps(h:DOk base T w g)(b:OfD g L):∀i c t a,w.heap[i]?=some (ϲ c t a)->i∈L->t≠126/\t≠284:=λi c t a e hi=>by
 have:=((h.qN9 b).apt (Us:=[126,284]) dC) i hi c t a e;simpa using this
def TOk.qT0(h:TOk base T w g)(F:26000<=T)(hK:Kp L w w')(o:OfD g L)(e:g'.B=g.B/\(g'.A=g.A\/w.heap.size<=g'.A)/\(g'.C=g.C\/w.heap.size<=g'.C)/\g'.hs=g.hs/\g'.ys=[])(C:∀k∈g'.ca,k∈g.ca\/w.heap.size<=k)(B:g'.k.li=g.k.li/\g'.k.wa=g.k.wa/\g'.k.ts=.slice none 0 0)(E:∀k∈BQ g'.so,w.heap.size<=k)(D:DOk base (T+2) w' g')
  (m:(g'.k.x=none/\g'.so=none/\g'.k.po=false)\/∃q r,g'.so=some q/\g'.k.x=some (ϰ q.Db 0)/\g'.k.po=q.s.po/\(q.s.po=false->r.cont∈g'.qN7/\q.s.N<=g'.nm)/\(r.cont.length:Int)<=T+2/\SPR w' g'.k.c r.cont/\SOk base (T+2) w' g'.κ g'.A g'.C g'.n g'.l g'.ws g'.wr g'.k.com r q []):DStep AK base (T+2) w w' g:=by
 let⟨n,z,A,i,f⟩:=e;let⟨t,u,v⟩:=B;have l:=h.d.qN9 o;refine⟨g',L,⟨D,?_,by have:=h.hlen;rw[i];omega,λx p=>by rw[i]at p;have:=h.hps x p;omega,?_,by rw[f];show((0:Nat):Int)<=T+2;omega,?_,by rw[f];exact List.Pairwise.nil⟩,n,λk d=>?_,hK,λk d=>Az.2 (by rcases o k d with h | h | h | h<;>simp[h])⟩
 .rw[i];refine Gw.Held.cast (Gw.Held.kp h.held hK (λk d=>?_) (λk d=>?_) (l.apt dC)) t u
  .let⟨_,c,j⟩:=Bg h.held.li k (by simp[d]);exact l.not j dC
  .let⟨_,c,j⟩:=Bg h.held.wa k (by simp[d]);exact l.not j dC
 .rw[Ba,f,v];exact wN _ _ _ _
 .rw[f];rcases m with⟨a,b,c⟩|m
  .exact .inl ⟨a,b,rfl,c⟩
  .exact .inr m
 .rcases Az.1 d with d|d|d|d|d|d|⟨y,s,d⟩
  .rcases d with d|d|d
   .rw[n]at d;exact .inl (Az.2 (.inl (.inl d)))
   .rcases z with e|e
    .rw[e]at d;exact .inl (Az.2 (.inl (.inr (.inl d))))
    .exact .inr oM
   .rcases A with e|e
    .rw[e]at d;exact .inl (Az.2 (.inl (.inr (.inr d))))
    .exact .inr oM
  .exact (C k d).imp (λd=>Az.2 (.inr (.inl d))) id
  .rw[v]at d;cases d
  .rw[t]at d;exact .inl (Az.2 (.inr (.inr (.inr (.inl d)))))
  .rw[u]at d;exact .inl (Az.2 (.inr (.inr (.inr (.inr (.inl d))))))
  .exact .inr (E k d)
  .rw[f]at s;cases s
def DOk.shut(h:DOk base T w g)(hK:Kp L w w')(e:OfD g L){κ}(d:w'.heap[g.B]?=some (kob g.k.shut))(f:g.Dv κ w')(b:0<=κ.told)(c:κ.told<=T+2):DOk base (T+2) w' (TG.bare g.B g.C g.k.shut κ g.l g.ws g.wr g.ca g.nm g.qN7 g.qM8 g.hs):=by
 have a:=h.maps e;have:=h.wr1;have:=h.wsl;exact⟨h.bB,h.bA,h.bC,h.bca,d,h.n1,h.wl,f,h.qR7,by have:=h.nm1;show g.nm<=T+2;omega,h.nm2,b,c,by show((g.ws.length:Nat):Int)<=_;omega,h.wr0,by show g.wr<=15002*(T+2-26000);omega,h.may.kp hK a,h.qN4.kp hK a,by have:=h.qR6;show((g.qN7.length:Nat):Int)<=T+2;omega,by have:=h.qR2;show((g.qM8.length:Nat):Int)<=T+2;omega,λm i=>by have:=h.mms m i;omega,h.qQ9,by have:=h.qR4;show g.k.com<=T+2;omega⟩
def Dn.move{κ}{A N C:Nat}{l}{ws}{wr:Int}{a}(h:Dn κ A N C l ws wr a w)(hK:Kp L w w')(i:A∉L)(z:C∉L)(m:∀k∈a,k∉L)(B:Gl w'):Dn κ A N C l ws wr a w':=by
 let⟨b,p,v,c,t,e,u,f,x⟩:=h.hA;have j:=h.cq;rw[DV e]at j;rw[<-j]at m;refine⟨⟨b,p,v,c,Nat.le_trans t hK.size,hK.heap e i,u,⟨f.1,?_⟩,x⟩,hK.heap h.hC z,B,h.fit,h.wl,h.len,h.N1,(Cg (hK.block A h.sA i)).trans h.cq⟩;rcases f.2 with g|⟨g,cap,cur,d,n,o,s⟩
 .exact .inl g
 .exact .inr ⟨g,cap,cur,d,n,hK.heap o (m g (by rw[d];simp[Value.ownBlock])),s⟩
def Lj{a:Kd}(b:0<=a.told)(c:a.told<=1000000):a.up.told=a.told+1:=Fj b oM
def EJ{f:List (List KV)}{v}{xs:Ϩ}{m}{x}{b:Nat}(l:RowM w' b v (f.length+1) (xs++[x]))(k:base<=b)(h:Both (SPR w) xs f)(hK:Kp L w w')(j:∀i c t d,w.heap[i]?=some (ϲ c t d)->i∈L->t≠126/\t≠284)(n:SPR w' x m):RowC w' base v (f++[m]):=
 ⟨_,by rw[lA];exact l.le k,Both.snoc ⟨h.1,λi a b=>(h.2 i a b).qM3 hK λq hq c t d e hm=>(j q c t d e hq).2 (mS hm)⟩ n⟩
def VQ(h:TOk base T w g)(I:26000<=T)(hT:T<=60000)(hb:0<base)(ac:base<=w.heap.size)(hg:w.cell? (ϰ 0 0)=some Bd):CSt base T w g 80 #[ϖ g.B]:=by
 have a:=h.d;let⟨xk,G,Q⟩:=a.qN4;let⟨pw,Z,P⟩:=G.form;rw[P]at G;let⟨xm,H,f6⟩:=a.may;let⟨pm,X,R⟩:=H.form;rw[R]at H;have:=a.qR2;have:=a.qR6;have:=a.bB;have:=a.bA;have:=a.bC;have ab:=a.wr0;have:=a.wr1;have:=a.nm1;have E:=a.td0;have:=a.td1;have:=a.wsl;have:=a.qR4;have:=Lj E oM;have M:=Fj ab oM;have S:nx (nx g.wr)=g.wr+2:=by rw[M,Fj oM oM];omega
 have j:OfD g (g.B::g.A::g.C::g.ca):=λk b=>by simpa using b
 have hP:ProgS w (g.A::g.C::g.ca):=λk b=>by
  let⟨b1,o,b2,b3⟩:=a.qN9 j k (mM _ b);refine⟨oM,λc t fr e=>?_⟩;let⟨_,_,_,hA⟩:=a.dev.at;rcases List.mem_cons.1 b with rfl|b
  .rw[hA]at e;cases e;decide
  rcases List.mem_cons.1 b with rfl|b
  .rw[a.dev.hC]at e;cases e;decide
  .let⟨c',D⟩:=Dn.qS3 a.dev b;rw[D]at e;cases e;decide
 have K:=a.maps j;refine(VW g.B g.κ.told g.k (g.A::g.C::g.ca) (λko C=>(ko=none/\∃l',Dn g.κ g.A g.n g.C l' [] (g.wr+2) [] C/\Pend g.n l' [] (λc=>c=[]) False (g.nm+2))\/
    (ioK ko=true/\∃z n i q' l,l<=g.nm+2/\n.length<=g.ws.length+1/\g.wr<=i/\i<=g.wr+2/\(∀k∈q',k∈g.ca\/w.heap.size<=k)/\Dn g.κ.up g.A g.n g.C z n i q' C/\Pend g.n z n (λc=>c∈g.qN7\/c=[]) True l)\/
    (ko=some 10/\g.Dv g.κ C)) w a.hB a.dev.tld hP hg oM base g.qN7.length X g.qM8.length Z pm pw R P H G oM oM (λW hK=>?_)).mono ?_
 .refine (VV (a.dev.qM3 hK (OffD.one a.hB dC)) oM (oW a.nm2) a.qR7).mono ?_;rintro e C ⟨v,ko,rfl,hv,hK1,⟨rfl,hf,l',f,u⟩|⟨hio,hf,z,n,i,q',l,f,u,N,O,x,F⟩|⟨rfl,hf,f⟩⟩
  .rw[S]at f;exact⟨v,none,rfl,hv,.inl ⟨rfl,l',f,u⟩,hK1,.inl ⟨rfl,hf⟩⟩
  .rw[M,show nx (g.wr+1)=g.wr+2 by rw[<-M];exact S]at N;exact⟨v,ko,rfl,hv,.inr (.inl ⟨hio,z,n,i,q',l,f,u,oM,oM,λk b=>(O k b).imp id λh=>lT hK.size h,x,F⟩),hK1,.inr (.inr ⟨hio,hf,x.more E oM⟩)⟩
  .exact⟨v,some 10,rfl,hv,.inr (.inr ⟨rfl,f⟩),hK1,.inr (.inl ⟨rfl,hf⟩)⟩
 .rintro e w' ⟨rfl,ko,C,hR,hK1,⟨rfl,hK2,hB'⟩|⟨rfl,hK2,gm,gw,cw',hB',hmay,hwere⟩|⟨hio,hK2,gm,cm',gw,cw',hB',hmay,hwere⟩⟩
  .rcases hR with⟨p,_⟩|⟨p,_⟩|⟨_,A⟩
   .cases p
   .cases p
   have d:=hK1.tr hK2;exact⟨rfl,h.qT0 (g':=TG.bare g.B g.C g.k.shut g.κ g.l g.ws g.wr g.ca g.nm g.qN7 g.qM8 g.hs) I d j ⟨rfl,.inl rfl,.inl rfl,rfl,rfl⟩ (λk b=>.inl b) ⟨rfl,rfl,rfl⟩ (by simp[TG.bare,BQ]) (a.shut d j hB' (Dn.qM4 A hK2) E oM) (.inl ⟨rfl,rfl,rfl⟩)⟩
  .rcases hR with⟨_,l',f,u⟩|⟨p,_⟩|⟨p,_⟩
   rotate_left
   .cases p
   .cases p
   have d:=hK1.trans hK2 sC;have:=hK1.size;refine⟨rfl,h.qT0 (g':=TG.bare g.B g.C { g.k.shut.only gm gw g.qM8.length cw' with qO5:=false,bit:=false } g.κ l' [] (g.wr+2) [] (g.nm+2) [[]] (g.qM8++[[]]) g.hs) I d j ⟨rfl,.inl rfl,.inl rfl,rfl,rfl⟩ (λk b=>by cases b) ⟨rfl,rfl,rfl⟩ (by simp[TG.bare,BQ]) ?_ (.inl ⟨rfl,rfl,rfl⟩)⟩;have B:=a.ne;have A:=Dn.move f hK2 (sU B.1) (sU B.2) sM (a.dev.gl.qM3 d ((a.qN9 j).apt dC));refine⟨a.bB,a.bA,a.bC,λk b=>(by cases b),hB',a.n1,rfl,A,λ_=>u.mono (λc e=>by rw[e];exact List.mem_singleton.2 rfl) False.elim,by show g.nm+2<=T+2;omega,by show g.nm+2<=100000;omega,E,by show g.κ.told<=T+2;omega,by show((0:Nat):Int)<=T+2-20000;omega,by show 0<=g.wr+2;omega,by show g.wr+2<=15002*(T+2-26000);omega,Gr hmay oM (SPR.nil _),EJ hwere oM Q d K (SPR.nil _),by show((1:Nat):Int)<=T+2;omega,by show(((g.qM8++[[]]).length:Nat):Int)<=T+2;rw[lA];simp[lC,List.length_nil];omega,λm s=>?_,a.qQ9,by show g.k.com<=T+2;omega⟩;rw[mS s];show((0:Nat):Int)<=T+2;omega
  .rcases hR with⟨rfl,_⟩|⟨_,z,n,i,q',l,f,u,N,O,x,F,V⟩|⟨rfl,_⟩
   .cases hio
   rotate_left
   .cases hio
   have d:=hK1.trans hK2 sC;have:=hK1.size;have:=U a.hB;have aa:∀k∈q',k≠g.B:=λk b e=>by
    rcases x k b with h|h
    .let⟨c,D⟩:=Dn.qS3 a.dev h;rw[e]at D;exact υ a.hB D dC rfl
    .omega
   refine⟨rfl,h.qT0 (g':=TG.bare g.B g.C { g.k.shut with may:=ϑ gm 0 (g.qN7.length+1) cm',emp:=true,qN4:=ϑ gw 0 (g.qM8.length+1) cw' } g.κ.up z n i q' l (g.qN7++[[]]) (g.qM8++[[]]) g.hs) I d j ⟨rfl,.inl rfl,.inl rfl,rfl,rfl⟩ x ⟨rfl,rfl,rfl⟩ (by simp[TG.bare,BQ]) ?_ (.inl ⟨rfl,rfl,rfl⟩)⟩;have B:=a.ne;have A:=Dn.move F hK2 (sU B.1) (sU B.2) (λk b=>by simpa using aa k b) (a.dev.gl.qM3 d ((a.qN9 j).apt dC));have:=a.nm2;refine⟨a.bB,a.bA,a.bC,λk b=>(x k b).elim (a.bca k) λh=>by omega,hB',a.n1,a.wl,A,λ_=>V.mono (λc e=>e.elim (λe=>List.mem_append_left _ e) λe=>by rw[e];exact List.mem_append_right _ (List.mem_singleton.2 rfl)) (λ_=>.inl rfl),by show l<=T+2;omega,by show l<=100000;omega,by show 0<=g.κ.up.told;omega,by show g.κ.up.told<=T+2;omega,by show((n.length:Nat):Int)<=T+2-20000;omega,by show 0<=i;omega,by show i<=15002*(T+2-26000);omega,EJ hmay oM f6 d K (SPR.nil _),EJ hwere oM Q d K (SPR.nil _),by show(((g.qN7++[[]]).length:Nat):Int)<=T+2;rw[lA];simp[lC,List.length_nil];omega,by show(((g.qM8++[[]]).length:Nat):Int)<=T+2;rw[lA];simp[lC,List.length_nil];omega,λm s=>?_,a.qQ9,by show g.k.com<=T+2;omega⟩;rcases mA (show m∈g.qN7++[[]] from s) with s|s
   .have:=a.mms m s;omega
   .rw[mS s];show((0:Nat):Int)<=T+2;omega
def Zj(h:TOk base T w g)(u:26000<=T)(hT:T<=60000)(hb:0<base)(ah:base<=w.heap.size)(X:w.cell? (ϰ 0 0)=some Bd):CSt base T w g 81 #[ϖ g.B]:=by
 have a:=h.d;let⟨xk,t,Q⟩:=a.qN4;let⟨pw,K,C⟩:=t.form;rw[C]at t;let⟨pm,I,D⟩:=a.may.form;have E:=a.may;rw[D]at E;have:=a.qR2;have:=a.qR6;have:=a.bB;have:=a.bA;have:=a.bC;have:=a.nm1;have:=a.nm2;have s:=a.td0;have:=a.td1;have:=a.wr1;have:=a.qR4;have:=Lj s oM;have o:OfD g [g.B,g.A,g.C]:=λk b=>by simp at b;rcases b with h | h | h<;>simp[h]
 have z:=a.maps o;refine(Zi g.B g.C g.k g.l g.ws g.wr g.nm g.ca w a.hB a.dev oM s oM X ⟨oM,by show 0<g.A;omega,oM⟩ base g.qN7.length I g.qM8.length K pm pw g.qN7 xk D C E t rfl oM (λm n=>by have:=a.mms m n;omega) oM a.wl a.qR7).mono ?_;rintro e w' ⟨rfl,⟨j,d,hK⟩|⟨r,V,M,St,db,rb,rs,N,w2,hq,hNm,l1,l2,l3,l4,hK1,hK2,hfd⟩⟩
 .obtain⟨p,Z,aa,d⟩:∃p:Kd,0<=p.told/\p.told<=T+2/\g.Dv p w':=by
   rcases d with d|d
   .exact⟨_,s,oM,d⟩
   .exact⟨_,oM,oM,d⟩
  exact⟨rfl,h.qT0 (g':=TG.bare g.B g.C g.k.shut p g.l g.ws g.wr g.ca g.nm g.qN7 g.qM8 g.hs) u hK o ⟨rfl,.inl rfl,.inl rfl,rfl,rfl⟩ (λk b=>.inl b) ⟨rfl,rfl,rfl⟩ (by simp[TG.bare,BQ]) (a.shut hK o j d Z aa) (.inl ⟨rfl,rfl,rfl⟩)⟩
 have l:Kp [g.B,g.A,g.C] w w':=hK1.trans hK2 (by
  intro i F ai;simp only[mC,lN,or_false]at F |-;rcases F with h|h|h|h
  .exact .inl h
  .omega
  .have h:=h;omega
  .exact .inr (.inl h))
 have:=hK1.size;have:=a.mms _ hq;rcases hfd with⟨d,j⟩|⟨s',G,v,R,S,O,f,hz,ad,af,A,j,ac,ag⟩
 .let⟨B,aj,ab⟩:=a.left (Mixed.laid a.dev.len a.dev.fit);refine⟨rfl,h.qT0 (g':=TG.bare g.B g.C g.k.shut g.κ.up (laidAll g.l g.ws) [] g.wr [] B g.qN7 g.qM8 g.hs) u l o ⟨rfl,.inl rfl,.inl rfl,rfl,rfl⟩ (λk b=>by cases b) ⟨rfl,rfl,rfl⟩ (by simp[TG.bare,BQ]) ?_ (.inl ⟨rfl,rfl,rfl⟩)⟩;exact⟨a.bB,a.bA,a.bC,λk b=>(by cases b),j,a.n1,a.wl,d,ab,by show B<=T+2;omega,by show B<=100000;omega,by show 0<=g.κ.up.told;omega,by show g.κ.up.told<=T+2;omega,by show((0:Nat):Int)<=T+2-20000;omega,a.wr0,by show g.wr<=15002*(T+2-26000);omega,a.may.kp l z,a.qN4.kp l z,by show((g.qN7.length:Nat):Int)<=T+2;omega,by show((g.qM8.length:Nat):Int)<=T+2;omega,λm n=>by have:=a.mms m n;omega,a.qQ9,by show g.k.com<=T+2;omega⟩
 .subst af;have ae:=f.qR7;let⟨P,H,W,_⟩:=f.hM;refine⟨rfl,h.qT0 (g':=⟨g.B,g.C,{ g.k.shut.only R S g.qM8.length O with c:=v,com:=0,x:=some (ϰ db 0) },g.κ,laidAll g.l g.ws,[],g.wr,[],N,[r.cont],g.qM8++[r.cont],some ⟨db,St,1,_,G⟩,[],g.hs⟩) u l o ⟨rfl,.inl rfl,.inl rfl,rfl,rfl⟩ (λk b=>by cases b) ⟨rfl,rfl,rfl⟩ (by simp only[BQ,mC,lN,or_false];rintro k (rfl | rfl);exact l3;exact l2) ?_ (.inr ⟨_,r,rfl,rfl,rfl,λ_=>⟨List.mem_singleton.2 rfl,iR _⟩,oM,A,by show base<=St;omega,by show base<=M;omega,f.hDb,f.hSt,⟨P,H,W⟩,λ_=>⟨rfl,f,Books.none hz ad rfl⟩,by show(0:Int)+1<=T+2;omega,by show((1:Nat):Int)<=T+2;omega,λy hy=>by cases hy⟩)⟩;exact⟨a.bB,a.bA,a.bC,λk b=>(by cases b),j,a.n1,a.wl,(show Dw _ _ _ _ _ _ _ _ _ w' from f.dev).n,λ_=>ae.mono (λc e=>by rw[e];exact List.mem_singleton.2 rfl) False.elim,by show N<=T+2;omega,by show N<=100000;omega,s,by show g.κ.told<=T+2;omega,by show((0:Nat):Int)<=T+2-20000;omega,a.wr0,by show g.wr<=15002*(T+2-26000);omega,Gr ac oM A,EJ ag oM Q l z A,by show((1:Nat):Int)<=T+2;omega,by show(((g.qM8++[r.cont]).length:Nat):Int)<=T+2;rw[lA];simp only[lC,List.length_nil];omega,λm n=>by rw[mS n];omega,iR _,by show(0:Int)<=T+2;omega⟩
def look_ok(h:TOk base T w g)(c:0<=T)(b:T<=70000):Ω 84 #[ϖ g.B] w λe w'=>e=ϱ (ϐ true)/\Kp [] w w':=
 XY g.B base g.k g.hs w h.d.hB h.held (oW h.hlen) (λx a=>by have:=h.hps x a;omega)
end
def Kp.less{S}{k:Nat}{o}{w w'}(h:Kp (k::S) w w')(a:w.heap[k]?=some o)(b:w'.heap[k]?=some o):Kp S w w':=
 ⟨h.os,h.tape,h.output,h.size,λi c d=>by
  by_cases e:i=k
  .rw[e,a,b]
  .exact h.block i c (by simp[e,d])⟩
def OH{N:Nat}{l}{a rs:Int}{r}(h:Lie N l a rs r):r.news=0:=by
 cases r with
 | none=>rfl
 | «at» n L=>let⟨b,_,e,_⟩:=h;exact OY e
section
variable {base:Nat} {T com:Int} {w w':Ϣ} {q q':SG} {g:TG} {r:Root} {N:Nat} {E:SEnv} {l:ϣ}
def Je(wr:Bool):∀a:List YG,(∀y∈a,YOk base T w N com E l q y)->BD wr (Bt a)=Gw.cnt wr (a.map kOf)
 | [],_=>rfl
 | y::a,h=>by
  have d:=Je wr a (λz f=>h z (mM _ f));have c:=h y sM;rw[Gw.cnt]at d |-;simp only[Bt,List.map_cons,BD,List.countP_cons];rw[show a.map (λy=>(y.f,y.ps.length))=Bt a from rfl,d];rw[c.dn,c.wr];by_cases b:y.t.over=false/\y.t.wrt=wr
  .rw[if_pos b,if_pos (show(!(kOf y).over && (kOf y).wrt == wr)=true by simp[kOf,b.1,b.2])];omega
  .rw[if_neg b,if_neg (show¬(!(kOf y).over && (kOf y).wrt == wr)=true from λe=>b (by simpa [kOf] using e))];omega
def BgR(g:TG)(q q':SG)(r:Root)(b:Bool)(w:Ϣ)(c:Ϭ)(a:Ϣ):Prop:=∃x t,c=some (ϰ x 0)/\w.heap.size<=x/\t.St=q.St/\t.nr=q.s.bg+1/\t.wrt=b/\t.ch=0/\t.h=⟨⟨#[]⟩,q.s.rb,q.s.rs,none⟩/\∃hS':Sh g.κ a q'.Db q'.St g.A g.C g.n q'.nM q'.s q'.D g.l g.wr r,LiveT hS'.E a x g.A g.n t q'.s r
def TOk.born{B:Bool}{X:Ϭ->ϩ->ϯ}(h:TOk base T w g)(a8:base<=w.heap.size)(a7:26000<=T)(R:g.so=some q)(ex:g.k.x=some (ϰ q.Db 0))(ep:g.k.po=q.s.po)(hp:q.s.po=false)(em:r.cont∈g.qN7/\q.s.N<=g.nm)(a9:(r.cont.length:Int)<=T)(ec:SPR w g.k.c r.cont)(p:SOk base T w g.κ g.A g.C g.n g.l g.ws g.wr g.k.com r q g.ys)
  (e:q'.St=q.St/\q'.s.V=q.s.V/\q'.s.rb=q.s.rb/\q'.s.rs=q.s.rs/\q'.s.po=q.s.po) (e':q'.s.M=q.s.M/\q'.Db=q.Db/\q'.s.N=q.s.N/\q'.s.bg=q.s.bg+1/\q'.nM<=q.nM+1) (ao:Books q'.s q'.D (g.ys.map kOf++[⟨false,B,q.s.bg+1⟩])) (hD:∀m,m<=q.s.bg->∀zd,q'.D.atKey (χ m) zd=q.D.atKey (χ m) zd) (ac:B=false->∀zd,q'.D.atKey (χ (q.s.bg+1)) zd=Bq ⟨⟨#[]⟩,q.s.rb,q.s.rs,none⟩)
  (hX:∀xo I,X xo none I->BgR g q q' r B w xo I) (hd:Ls g.k g.B base r.cont.length B (Ba g) X [q.St,q.s.M] w w'):DStep AK base (T+2) w w' g:=by
 let⟨Q,i,an⟩:=p.sh hp;let⟨I,x,tb,v',L,hR,V,ba,al,ai,av,W,F,au⟩:=hd;let⟨x2,t,az,ay,aw,af,Z,aa,H,s,G⟩:=hX _ _ hR;cases az;let⟨a1,a2,a3,a4,a5⟩:=e';have:=V.size;have:=s.hSt;have P:∀k,g.k.ts.ownBlock=some k->base<=k/\∃c,Ϙ w k (ϲ c 132):=λk d=>Bg h.row k (by simp[d]);have M:∀{k:Nat} {c:Array Value} {t:TypeId} {o:Nat×Nat},Ϙ w k (ϲ c t o)->t≠169->Ϙ I k (ϲ c t o):=λd ht=>V.heap d (by
  simp only[mC,lN,or_false,not_or];exact⟨υ d i.hSt ht,AH d i.hM⟩)
 have S:=M h.d.hB dC;have C:∀{k:Nat} {c:Array Value} {t:TypeId} {o:Nat×Nat},Ϙ I k (ϲ c t o)->t≠130->t≠132->k∉L:=λd n1 n2 v=>by
  rcases F _ v with rfl|e
  .exact υ d S n1 rfl
  .let⟨_,c,n⟩:=P _ e;exact υ d (M n dC) n2 rfl
 have ak:q'.s.M∉L:=λv=>by
  rcases F _ v with e|e
  .exact AH S s.hM e.symm
  .let⟨_,c,n⟩:=P _ e;exact AH (M n dC) s.hM rfl
 have D:Kp (q.St::q.s.M::L) w w':=(V.mono (λk d _=>by simp at d |-;rcases d with h | h<;>simp[h])).trans W (λk d _=>by simp[d]);have u:Muts base [169,130,132] w (q.St::q.s.M::L):=λk d=>by
  simp only[mC]at d;rcases d with rfl|rfl|d
  .exact⟨p.bSt,_,i.hSt,λc t o e=>by cases e;decide⟩
  .let⟨es,mc,hM⟩:=p.hM;exact⟨p.bM,_,hM,λc t o e=>by cases e⟩
  .rcases F k d with rfl|d
   .exact⟨h.d.bB,_,h.d.hB,λc t o e=>by cases e;decide⟩
   .let⟨K,c,n⟩:=P k d;exact⟨K,_,n,λc t o e=>by cases e;decide⟩
 let⟨bb,a6,ah⟩:=s.hA;have A:=Sh.kp s W (by
  simp only[mC,lN,or_false];rintro k (rfl|rfl|rfl|rfl|rfl|rfl)
  .exact C s.hDb dC dC
  .exact C s.hSt dC dC
  .exact ak
  .exact C s.dev.hV dC dC
  .exact C ah dC dC
  .exact C s.dev.hC dC dC) (λk d c t o e v=>by
  have K:t∉DR->False:=λh=>h v;rcases F k d with rfl|d
  .rw[S]at e;cases e;exact K dC
  .let⟨_,c,n⟩:=P _ d;rw[M n dC]at e;cases e;exact K dC)
 have ax:=W.heap G.hx (C G.hx dC dC);have:=i.bg0;have:=p.bg1;have:=p.nM;have:=h.hlen;have:=h.qR9;have:=i.N4;have ab:=ec.qM3 D (u.apt dC);have ar:=OE i.lie.old i.qM7;rw[OH i.lie]at ar;obtain⟨y,O⟩:∃y:YG,y=⟨tb,TF.born g.k x r.cont.length B,t,r,r.cont,[]⟩:=⟨_,rfl⟩;have ae:∀k,k∈AO y->w.heap.size<=k:=λk d=>by
  rw[O]at d;rcases Bl.1 d with e|e|d|d|d
  .rw[e];show w.heap.size<=tb;omega
  .rw[e];exact ay
  .cases d
  .cases d
  .cases d
 have a0:YOk base (T+2) w' g.n g.k.com A.E g.l q' y:=by
  subst O;refine { bT:=by show base<=tb;omega,bX:=by show base<=x;omega,hT:=al,hx:=ax,st:=by rw[e.1];exact aw,sp:=ab,m0:=iR _,m1:=by show((r.cont.length:Nat):Int)<=T+2;omega,c0:=iR _,c1:=by show(0:Int)<=T+2;omega,cm:=iR _,wr:=Z.symm,dn:=G.over.symm,ch0:=by rw[aa];exact iR _,ch1:=by rw[aa];omega,stp:=aa.symm,qP7:=wN _ _ _ _,qQ0:=by show((0:Nat):Int)<=T+2;omega,qO7:=λc hc=>(by cases hc),cbs:=List.nodup_nil,Cbs:=List.nodup_nil,live:=λ_ _=>⟨G.on,?_,i.qM7,rfl,λ_=>⟨⟨0,rfl,?_⟩,dO⟩,λhw=>⟨by rw[H],by rw[H];exact i.lie,λzd=>?_,.inr (by rw[H,e.2.2.1,e.2.2.2.1];exact⟨rfl,rfl⟩)⟩⟩ }
  .show RR A.E.toEnv w' t.h r;rw[H];exact i.lie.rr i.qM7 w'
  .unfold BW;rw[OH i.lie];exact zL _
  .rw[show B=false from Z.symm.trans hw]at ac;show q'.D.atKey (χ t.nr) zd=Bq t.h;rw[af,H];exact ac rfl zd
 have ap:g.Dv g.κ w':=by
  show Dn g.κ g.A g.n g.C g.l g.ws g.wr g.ca w';rw[Dn.ca0 h.d.dev Q,Q];exact(show Dw _ _ _ _ _ _ _ _ _ w' from A.dev).n
 have aq:kOf y=⟨false,B,q.s.bg+1⟩:=by rw[O];simp only[kOf];rw[G.over,Z,af]
 refine⟨{ g with k:={ g.k with ts:=v' },so:=some q',ys:=g.ys++[y] },q.St::q.s.M::L,⟨h.d.qS7 v' g.k.li g.k.wa g.k.po g.κ (some q') (g.ys++[y]) g.hs D oM ai ap h.d.td0 (oW h.d.td1) (u.apt dC),Gw.Held.cast (Gw.Held.kp h.held D (λk d=>?_) (λk d=>?_) (u.apt dC)) rfl rfl,dO,λz f=>by have:=h.hps z f;omega,?_,by show(((g.ys++[y]).length:Nat):Int)<=T+2;simp;omega,.inr ⟨q',r,rfl,by show g.k.x=_;rw[a2];exact ex,by show g.k.po=_;rw[e.2.2.2.2];exact ep,λ_=>by rw[a3];exact em,oM,ab,by rw[e.1];exact p.bSt,by rw[a1];exact p.bM,A.hDb,A.hSt,(by let⟨es,cM,aj,_⟩:=A.hM;exact⟨es,cM,aj⟩),λ_=>⟨Q,A,by rw[List.map_append,List.map_cons,aq];exact ao⟩,oM,oM,λz f=>?_⟩,?_⟩,rfl,λk d=>?_,D,λk d=>?_⟩
 .let⟨_,c,n⟩:=Bg h.held.li k (by simp[d]);exact u.not n dC
 .let⟨_,c,n⟩:=Bg h.held.wa k (by simp[d]);exact u.not n dC
 .have e:Ba { g with k:={ g.k with ts:=v' },so:=some q',ys:=g.ys++[y] }=Ba g++[tb]:=by simp[Ba,O]
  rw[e,lA];exact av
 .rcases mA f with f|f
  .have ag:=p.ys z f;show YOk base (T+2) w' g.n g.k.com (EF g.κ q'.s.V g.A g.n g.C g.l g.wr) g.l q' z;rw[e.2.1];refine(ag.kp D (show T<=T+2 by omega) (λk d v=>?_) (u.apt dC)).move e λ_ _=>hD _ ?_
   .let⟨_,c,t,o,b2,b3⟩:=ag.qR8 k d;exact(u.apt (Us:=yTs) dC) k v _ _ _ b2 b3
   .obtain⟨j,hj,rfl⟩:=gO f;exact(an.nrs j (kOf g.ys[j]) (by simp[hj])).2
  .rw[mS f];exact a0
 .show (g.ys++[y]).Pairwise _;rw[List.pairwise_append];refine⟨h.sep,sM,λa ha b am k d ad=>?_⟩;rw[mS am]at ad;have:=(p.ys a ha).qR8.qN9.lt d;have:=ae k ad;omega
 .rcases Az.1 d with d|d|d|d|d|d|⟨z,f,d⟩
  .exact .inl (Az.2 (.inl d))
  .exact .inl (Az.2 (.inr (.inl d)))
  .rcases au k d with d|d
   .exact .inl (Az.2 (.inr (.inr (.inl d))))
   .exact .inr oM
  .exact .inl (Az.2 (.inr (.inr (.inr (.inl d)))))
  .exact .inl (Az.2 (.inr (.inr (.inr (.inr (.inl d))))))
  .refine .inl (Az.2 (.inr (.inr (.inr (.inr (.inr (.inl ?_)))))));rw[R];simp only[BQ,e.1,a1]at d |-;exact d
  .rcases mA f with f|f
   .exact .inl (Az.2 (.inr (.inr (.inr (.inr (.inr (.inr ⟨z,f,d⟩)))))))
   .rw[mS f]at d;exact .inr (ae k d)
 .refine Az.2 ?_;simp only[mC]at d;rcases d with rfl|rfl|d
  .exact .inr (.inr (.inr (.inr (.inr (.inl (by rw[R];simp[BQ]))))))
  .exact .inr (.inr (.inr (.inr (.inr (.inl (by rw[R];simp[BQ]))))))
  .rcases F k d with rfl|d
   .exact .inl (.inl rfl)
   .exact .inr (.inr (.inl d))
def RS(h:TOk base T w g)(ac:26000<=T)(hT:T<=60000)(hb:0<base)(Z:base<=w.heap.size)(hg:w.cell? (ϰ 0 0)=some Bd)(hx:g.k.x≠none)(n:Bool):CSt base T w g 82 #[ϖ g.B,ϐ n]:=by
 let⟨q,r,e1,W,C,em,el,V,f⟩:=h.store hx;have:=h.qR9;have:=f.bg1;have:=f.nM;have al:TFs w g.k (Ba g) (Bt g.ys):=⟨PRow.of h.row,by simp[Ba,Bt],λj h1 h2=>by
  have hj:j<g.ys.length:=by simpa [Ba] using h1
  have aj:=f.ys _ (gM hj);let⟨b,c,e⟩:=aj.sp.form;exact⟨by simpa [Ba,Bt] using aj.hT,b,c,by simpa [Bt] using e⟩⟩
 let⟨cb,cc,an⟩:=V.form;let⟨es,cM,hM⟩:=f.hM;have hI:BgIn w g.B g.κ.told g.k q.Db base (Ba g) (Bt g.ys) cb r.cont.length cc:=⟨h.d.hB,h.d.dev.tld,W,an,al,h.row,Z,by simp[Ba];omega,hg⟩;have ak:ProgS w [q.St,q.s.M]:=λk u=>by
  simp[mC,lN,or_false]at u;rcases u with rfl|rfl
  .exact⟨oW f.bSt,λc t fr e=>by rw[f.hSt]at e;cases e;decide⟩
  .exact⟨oW f.bM,λc t fr e=>by rw[hM]at e;cases e⟩
 have ag:=Je true g.ys f.ys;have af:=Je false g.ys f.ys;have am:∀i w',Ϙ i q.St (η 0 q.s)->Kp [q.St] w i->Kp [] i w'->DStep AK base (T+2) w w' g:=λi w' b c d=>
  ⟨g,[],h.qM3 ((Kp.less c f.hSt b).tr d) (Muts.nil _ _ _) sM oM,rfl,λk u=>.inl u,(Kp.less c f.hSt b).tr d,sM⟩
 have aa:=υ f.hDb f.hSt dC;obtain⟨q',G⟩:∃q':SG,q'=if n then { q with s:=q.s.wrote } else { q with s:=q.s.read,nM:=q.nM+1,D:=q.D.put (χ (q.s.bg+1)) (Bq ⟨⟨#[]⟩,q.s.rb,q.s.rs,none⟩) }:=⟨_,rfl⟩
 refine(Sa g.B g.κ.told g.k q.Db base (Ba g) (Bt g.ys) cb r.cont.length cc n [q.St,q.s.M] (λz ko i=>(ko=none/\q.s.po=false/\(if n then q.s.wr=0 else Maps.size q.D<4)/\BgR g q q' r n w z i)\/(ko≠none/\Ϙ i q.St (η 0 q.s)/\Kp [q.St] w i)) w hI ak ?_).mono ?_
 .have ab:∀(k:Int)(e:Ending)(w':World),IJ g.k.po n (BD n (Bt g.ys)) none (some k)->(∃v,e=ϱ (.tuple #[ϗ none,v])/\ErrV w' v (some k)/\Ϙ w' q.St (η 0 q.s)/\Kp [q.St] w w')->∃z v ko,e=ϱ (.tuple #[ϗ z,v])/\ErrV w' v ko/\IJ g.k.po n (BD n (Bt g.ys)) z ko/\((ko=none/\q.s.po=false/\(if n then q.s.wr=0 else Maps.size q.D<4)/\BgR g q q' r n w z w')\/(ko≠none/\Ϙ w' q.St (η 0 q.s)/\Kp [q.St] w w'))/\Kp [q.St,q.s.M] w w':=λk e w' hc ⟨v,a,b,c,d⟩=>⟨none,v,some k,a,b,hc,.inr ⟨sM,c,d⟩,d.mono sC⟩;by_cases o:q.s.po=true
  .exact (RX q.Db q.St n q.s w f.hDb f.hSt o aa).mono λe w' B=>ab _ e w' (.inl ⟨rfl,.inl ⟨by rw[C];exact o,by simp[beK,o]⟩⟩) B
  .replace o:q.s.po=false:=by simpa using o
   let⟨e0,y,A⟩:=f.sh o;have F:g.k.po=false:=by rw[C];exact o
   have ad:beK q.s=4:=by simp[beK,o]
   have:=y.bg0;have ah:=A.size;have:=A.four
   cases n with
   | true=>
    by_cases p:q.s.wr=0
    .apply (y.qX7 p oM).mono;rintro e w' ⟨x,t,rfl,H,I,K,M,O,P,Q,R,S⟩;subst G;exact⟨_,_,none,rfl,rfl,.inr ⟨F,rfl,⟨x,rfl⟩,.inl ⟨rfl,by rw[ag];exact A.qX1.1 p⟩⟩,.inl ⟨rfl,o,p,x,t,rfl,H,I,K,M,O,P,R,S⟩,Q.mono (λk u _=>by simp at u;simp[u])⟩
    .exact (RW q.Db q.St q.s w f.hDb f.hSt aa (λ_=>p)).mono λe w' B=>ab _ e w' (.inl ⟨rfl,.inr ⟨F,by rw[ad],.inl ⟨rfl,by rw[ag];exact Nat.pos_of_ne_zero (λe=>p (A.qX1.2 e))⟩⟩⟩) B
   | false=>
    by_cases p:Maps.size q.D<4
    .apply (y.qV3 p oM oM).mono;rintro e w' ⟨x,t,D',rfl,H,I,K,M,O,P,Q,rfl,R,S⟩;subst G;exact⟨_,_,none,rfl,rfl,.inr ⟨F,rfl,⟨x,rfl⟩,.inr ⟨rfl,by rw[af,<-ah];exact p⟩⟩,.inl ⟨rfl,o,p,x,t,rfl,H,I,K,M,O,P,R,S⟩,Q⟩
    .have h4:Maps.size q.D=4:=oM
     exact(RV q.Db q.St q.nM q.s q.D w f.hDb f.hSt y.hM aa (AH y.hSt y.hM).symm h4).mono λe w' B=>ab _ e w' (.inl ⟨rfl,.inr ⟨F,by rw[ad],.inr ⟨rfl,by rw[af,<-ah];exact h4⟩⟩⟩) B
 .rintro e w' ⟨a,⟨ko,i,u,X,_,hK⟩|hD⟩
  .rcases X with⟨e,_⟩|⟨_,c,d⟩
   .exact absurd e u
   .exact⟨a,am i w' c d hK⟩
  .let⟨i,x,tb,v',L,X,_⟩:=hD;rcases X with⟨_,o,p,_⟩|⟨e,_⟩
   rotate_left
   .exact absurd rfl e
   let⟨e0,y,A⟩:=f.sh o;have hX:∀z i,((none:Option Int)=none/\q.s.po=false/\(if n then q.s.wr=0 else Maps.size q.D<4)/\BgR g q q' r n w z i)\/((none:Option Int)≠none/\Ϙ i q.St (η 0 q.s)/\Kp [q.St] w i)->BgR g q q' r n w z i:=λz i B=>B.elim (λh=>h.2.2.2) λh=>absurd rfl h.1;have ae:=y.bg0
   cases n with
   | true=>
    subst G;exact⟨a,h.born (q':={ q with s:=q.s.wrote }) Z ac e1 W C o (em o) el V f ⟨rfl,rfl,rfl,rfl,rfl⟩ ⟨rfl,rfl,rfl,rfl,Nat.le_succ _⟩ (A.qT3 p ae) (λ_ _ _=>rfl) (λe=>by cases e) hX hD⟩
   | false=>
    have ai:=World.ownsMap.tidy y.hM CH;subst G;exact⟨a,h.born (q':={ q with s:=q.s.read,nM:=q.nM+1,D:=q.D.put (χ (q.s.bg+1)) (Bq ⟨⟨#[]⟩,q.s.rb,q.s.rs,none⟩) }) Z ac e1 W C o (em o) el V f ⟨rfl,rfl,rfl,rfl,rfl⟩ ⟨rfl,rfl,rfl,rfl,lR⟩ (A.qU5 ai ae p) (λm hm zd=>Maps.atKey_put_other (λe=>by have:=Gw.Hl e;omega) _ zd) (λ_ zd=>Maps.atKey_put_same ai.isMap (Gw.NO _) _ zd) hX hD⟩
end
end Gf
end Go.Proofs.YtdohpenfkdckiaaGreatDoor
