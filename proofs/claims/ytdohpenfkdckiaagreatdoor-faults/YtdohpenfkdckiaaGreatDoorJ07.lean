import Derived.Test.YtdohpenfkdckiaaGreatDoorJ06
import Derived.BigRegion
set_option linter.all false
set_option maxRecDepth 100000
set_option maxHeartbeats 0
namespace Go.Proofs.YtdohpenfkdckiaaGreatDoor
open Go.Proofs.Tryz Go.RowKit
def PRow(w:Ϣ)(T:Ϯ)(v:Value)(a:Ϥ):Prop:=∃p c,v=.slice p a.length c/\(1<=a.length->∃g cur,p=some (ϰ g 0)/\w.heap[g]?=some (ϲ cur T)/\∀i (h:i<a.length),cur[i]?=some (ϖ (a[i])))
def BK(tbs:List Nat):List Value:=tbs.map fun b=>.pointer (some ⟨b,0,none⟩)
def PRow.of{w}{base:Nat}{T}{v}{tbs}(h:w.ownsRow base T 1 v tbs.length (BK tbs)):PRow w T v tbs:=by
 rcases h.2 with⟨b,a⟩|⟨g,cap,cur,a,f,c,j,k,l,d⟩
 .exact⟨none,0,by rw[b,a],λh=>by omega⟩
 .refine⟨some (ϰ g 0),cap,a,λ_=>⟨g,cur,rfl,c,λi hi=>?_⟩⟩;have e:(BK tbs)[i]?=some (ϖ (tbs[i])):=by simp[BK,hi]
  rw[<-d,List.getElem?_take_of_lt oM]at e;simpa using e
def PRow.qM4{w w'}{T}{v}{tbs}(h:PRow w T v tbs)(hK:Kp [] w w'):PRow w' T v tbs:=by
 let⟨p,c,e,f⟩:=h;exact⟨p,c,e,λh=>by let⟨g,cur,a,b,d⟩:=f h;exact⟨g,cur,a,hK.hp b,d⟩⟩
def Bm(com:Int):List (TF×Nat)→Int
 | []=>0
 | (f,l)::fs=>(if f.dn=false∧f.com<com then(l:Int)+4 else 0)+Bm com fs
def Qa(c:Int):∀a b:List (TF×Nat),Bm c (a++b)=Bm c a+Bm c b
 | [],b=>by simp[Bm]
 | (f,l)::a,b=>by simp only[cA,Bm,Qa c a b];omega
def Im(b:Int):∀a:List (TF×Nat),(∀x∈a,x.2<=100000)->0<=Bm b a/\Bm b a<=100004*a.length
 | [],_=>by simp[Bm]
 | (f,l)::a,h=>by
  have:=Im b a (λx d=>h x (by simp[d]));have c:=h (f,l) sM;simp only[Bm,lC];simp only at c;split<;>omega
structure TFs(w:Ϣ)(k:KF)(tbs:Ϥ)(fs:List (TF×Nat)):Prop where
 row:PRow w 132 k.ts tbs
 len:fs.length=tbs.length
 at_:∀i (h:i<tbs.length) (h':i<fs.length),w.heap[tbs[i]]?=some (tob fs[i].1)/\∃b c,fs[i].1.v=.slice b fs[i].2 c
def TFs.qM4{w w'}{k:KF}{tbs}{a:List (TF×Nat)}(h:TFs w k tbs a)(hK:Kp [] w w'):TFs w' k tbs a:=
 ⟨h.row.qM4 hK,h.len,λi b c=>⟨hK.heap (h.at_ i b c).1 sM,(h.at_ i b c).2⟩⟩
def qF3(B:Nat)(k:KF)(tbs)(a:List (TF×Nat))(w)(n:w.heap[B]?=some (kob k))(o:TFs w k tbs a)(T:tbs.length<=100000)(v:∀x∈a,x.2<=100000):
  Ω 242 #[ϖ B] w λe w'=>e=ϱ (ϊ (Bm k.com a))/\Kp [] w w':=by
 let⟨p,c,A,I⟩:=o.row;have:=U n;have:=ϻ n 9;have E:=ϻ n 11;rw[A]at E;clear A n;go_enter func242,ntmps242;go_wp2_with fail
 go_loopw [3,4] (λs i wr=>∃(j:Nat),j<=tbs.length/\i=.int .i64 j/\s=.int .i64 (Bm k.com (a.take j))/\∃d,wr=w.drewN d) (λ_ i _=>tbs.length-(intOf i).toNat)
 case atStart=>exact⟨0,zL _,rfl,rfl,0,rfl⟩
 case round=>
  obtain⟨j,S,rfl,rfl,d,rfl⟩:=hrel;have:=(zh o.len).out;have K:=Im k.com (a.take j) (λx O=>v x (mT O));have L:(a.take j).length=j:=sO
  rw[L]at K;by_cases z:j<tbs.length
  .have:(j:Int)<(tbs.length:Int):=oM
   have q:j<a.length:=oM
   obtain⟨g,cur,rfl,t,G⟩:=I oM;let⟨b,V,W,r⟩:=o.at_ j z q;have m:Bm k.com (a.take (j+1))=Bm k.com (a.take j)+(if a[j].1.dn=false/\a[j].1.com<k.com then(a[j].2:Int)+4 else 0):=by
    rw[tA q,Qa];simp[Bm]
   have y:=v a[j] (gM q);obtain⟨⟨f,l⟩,H⟩:∃f,a[j]=f:=⟨_,rfl⟩;let⟨tb,N⟩:=eY (tbs[j]);have u:=G j z;rw[N]at u b;rw[H]at b r m y;simp only at b r m y;generalize R:Bm k.com (a.take j)=M at *;have:=U t;have:=U b;have P:=Y t j;rw[u]at P;have Q:=ϻ b 1;have C:=ϻ b 3;have:=ϻ b 6;rw[r]at Q
   cases hdn:f.dn with
   | true=>
    rw[hdn]at C;go_wp2_with fail
    go_quiet (fail)
    go_wp2;refine⟨⟨j+1,oM,by go_num,?_,_,rfl⟩,iO⟩;rw[m,hdn];simp
   | false=>
    rw[hdn]at C;by_cases F:f.com<k.com
    .go_wp2_with fail
     go_quiet (fail)
     go_wp2;refine⟨⟨j+1,oM,by go_num,?_,_,rfl⟩,iO⟩;rw[m,hdn,if_pos ⟨rfl,F⟩]
     go_num
    .go_wp2_with fail
     go_quiet (fail)
     go_wp2;refine⟨⟨j+1,oM,by go_num,?_,_,rfl⟩,iO⟩;rw[m,if_neg (λh=>by omega)];simp
  .have:¬(j:Int)<(tbs.length:Int):=oM
   have D:Hid (Bm k.com (a.take j)=Bm k.com a):=by show _=_;rw[tL oM]
   generalize Bm k.com (a.take j)=M at *;go_wp2;go_ret;exact⟨BV D,kF.drewN _⟩
def Ee(k:KF)(cl:Nat)(qN8 keys stale:Int):Bool:=
 decide (3*(max (max qN8 keys) (cl:Int))+12+stale≤(k.n:Int)) && !k.qO5
def OM(B tb:Nat)(k:KF)(f:TF)(tbs)(o:List (TF×Nat))(i:Int)(w)(d:w.heap[B]?=some (kob k))(v:w.heap[tb]?=some (tob f))(u:TFs w k tbs o)(z:tbs.length<=100000)(y:∀x∈o,x.2<=100000)(cb)(c G:Nat)(E:k.c=.slice cb c G)(R:c<=100000)(W:0<=f.qN8)(X:f.qN8<=100000)(S:0<=i)(T:i<=100000)(V:k.n<=100000):
  Ω 195 #[ϖ B,ϖ tb,ϊ i] w λe w'=>e=ϱ (ϐ (Ee k c f.qN8 i (Bm k.com o)))/\Kp [] w w':=by
 have D:Hid (∀{p:Prop},(_h:p:=by
  have n:=Y a;simp[kob,zG,zH,zI]at n;clear a A;by_cases g:3*(c:Int)+12+ST<=(k.n:Int)
  .go_wp2;go_ret;exact⟨by rw[m.out,decide_eq_true g];rfl,b⟩
  .have q:Hid (decide (3*(c:Int)+12+ST<=(k.n:Int))=false):=decide_eq_false g;go_wp2;go_ret;exact⟨by rw[m.out,q.out];rfl,b⟩)->p):=λh=>h
 have:=U d;have Q:=U v;have N:=Im k.com o y;have K:=u.len;have s:=zh (qF3 B k tbs o w d u z y);have n:=ϻ d 1;have O:=ϻ d 5;have F:=ϻ d 8;rw[E]at F;have A:=ϻ v 5;clear v u y E;generalize Bm k.com o=ST at *;obtain⟨r,L⟩:=eY (max f.qN8 i);obtain⟨j,M⟩:=eY (max r (c:Int));have m:Hid (Ee k c f.qN8 i ST=(decide (3*j+12+ST<=(k.n:Int)) && !k.qO5)):=by show _=_;rw[Ee,L,M]
 have Z:0<=j/\j<=100000:=oM
 have I:=z;have:0<=ST/\ST<=10000500000:=oM
 clear N K z I;go_enter func195,ntmps195;by_cases P:f.qN8<i
 .have t:r=i:=oM
  subst t;by_cases H:r<(c:Int)
  .have l:j=(c:Int):=oM
   subst l;go_wp2_with fail;refine mR (show Calls _ _ _ _ _ from s) ?_;rintro C b;have a:=b.hp d;have:=U a;exact D.out
  .have l:j=r:=oM
   subst l;go_wp2_with fail;refine mR (show Calls _ _ _ _ _ from s) ?_;rintro C b;have a:=b.hp d;have:=U a;have n:=Y a;simp[kob,zG,zH,zI]at n;clear a A;by_cases g:3*j+12+ST<=(k.n:Int)
   .go_wp2;go_ret;exact⟨by rw[m.out,decide_eq_true g];rfl,b⟩
   .have q:=zh (decide_eq_false g);go_wp2;go_ret;exact⟨by rw[m.out,q.out];rfl,b⟩
 .have t:r=f.qN8:=oM
  subst t;by_cases H:f.qN8<(c:Int)
  .have l:j=(c:Int):=oM
   subst l;go_wp2_with fail;refine mR (show Calls _ _ _ _ _ from s) ?_;rintro C b;have a:=b.hp d;have:=U a;exact D.out
  .have l:j=f.qN8:=oM
   subst l;go_wp2_with fail;refine mR (show Calls _ _ _ _ _ from s) ?_;rintro C b;have a:=b.hp d;have:=U a;have n:=Y a;simp[kob,zG,zH,zI]at n;clear a A;by_cases g:3*f.qN8+12+ST<=(k.n:Int)
   .go_wp2;go_ret;exact⟨by rw[m.out,decide_eq_true g];rfl,b⟩
   .have q:=zh (decide_eq_false g);go_wp2;go_ret;exact⟨by rw[m.out,q.out];rfl,b⟩
variable {κ:Kd}
def Dk.qT7{V A N C base:Nat}{l}{wr:Int}{w}(h:Dk κ V A N C base l [] wr w):Dk κ V A N C w.heap.size l [] wr w:=by
 let⟨v,c,a,e,b⟩:=h.hA;have d:=b rfl;subst d;exact⟨h.hV,⟨_,c,a,wN _ _ _ _,λ_=>rfl⟩,h.hC,h.gl,lR,h.fit,h.wl,h.len,h.N1⟩
def XG(g:Int)(V A N C base F:Nat)(l)(O:AS)(v:∀(n b:Nat)(s:Int)(t),O n b s t->b<=1000000/\0<=s)(u:N<=1000)(n:Nat)(o:Fx κ g V A N C base F l O n):Fx κ g V A N C base F l O (n+1):=by
 intro h r L a ws w f k E P z D
 cases hx:L.ref with
 | some x=>
  have m:L.ref.isSome:=by rw[hx];rfl
  let⟨d,y⟩:=Kt k m;have e:φ (n+1) L a=(L,[],a):=by simp[φ,if_pos m]
  rw[e];refine mR (JX V r h (DZ F) w d) ?_;rintro w' hK;exact⟨.inr ⟨by rw[<-y],sU (f.qM3 hK)⟩,Wx.qP2 (hK.mono sM) f.low⟩
 | none=>
  let⟨B,q,d,G⟩:=Kj k hx;have j:¬L.ref.isSome=true:=by rw[hx];simp
  have p:news (n+1) L=1+qM2 (news n) (J L.sub):=by simp[news,if_neg j]
  let⟨H,I,K,M⟩:=E.2 hx
  cases hfr:(Aj (φ n) (J L.sub) a).2.2 with
  | nil=>
   have c:=congrArg List.length (Du (φ n) (news n) (J L.sub) a (λl _ a=>CJ n l a));rw[hfr,lD]at c;simp at c;omega
  | cons b fr'=>
   have e:φ (n+1) L a=(⟨L.key,some (b,fnv (Ab ((n+1:Nat):Int) [] ((Aj (φ n) (J L.sub) a).1.map lhl))),(Aj (φ n) (J L.sub) a).1⟩,(Aj (φ n) (J L.sub) a).2.1++[(b,toB (Ab ((n+1:Nat):Int) [] ((Aj (φ n) (J L.sub) a).1.map lhl)))],fr'):=by
    simp[φ,if_neg j,hfr,List.headD_cons,List.tail_cons]
   rw[e];refine(XI g V A N C base F l O v n o u h r q L b a fr' ws w f d G H I K M oM z D hfr).mono ?_;rintro e w' ⟨(c|⟨rfl,c⟩),i⟩
   .exact⟨.inl (by rw[p];exact c),i⟩
   exact⟨.inr ⟨by simp[lhl,B,Option.getD_some],by rw[<-aA];exact c⟩,i⟩
def Og(a:Int)(V A N C base F:Nat)(l:ϣ)(O:AS)(d:∀(n b:Nat)(s:Int)(t:Tn n),O n b s t->b<=1000000/\0<=s)(c:N<=1000):∀n,Fx κ a V A N C base F l O n
 | 0=>XH a V A N C base F l O
 | n+1=>XG a V A N C base F l O d c n (Og a V A N C base F l O d c n)
def Fw(κ:Kd)(V A N C base:Nat)(l:ϣ)(c:Int)(b:Ϥ)(k:Nat)(e:Ending)(w:Ϣ):Prop:=
 Io κ e/\∃a,Dk κ.up V A N C base l a (nk c a.length) w/\(∀x∈a,x.1∈b)/\a.length<=k
def Qj{V A N C base:Nat}{l}{i:Int}{w}(y:Dk κ V A N C base l [] i w)(h X)(d)(k:Nat)(ws)(v)(B:Slc w 3 1 v d.length (ints d))(aa:∀x∈ws,x.1∈d)(ab:ws.length<=k)(aj:X.ptr=none)
  (W:∀(F:Nat)(a),Kp [] w a->LyF κ i V A N C a.heap.size F l [] d a->Ω 174 #[θ V h,Aw h,DZ F] a λe w'=>(LyX κ i V A N C a.heap.size l [] d k e w'\/(e=ϱ (Aw X)/\(∃M,LyF κ i V A N C a.heap.size F l ws M w')))/\Wx a.heap.size [A,F] a w'):
  Ω 115 #[θ V h,v] w λe w'=>((∃b,w.heap.size<=b/\Fw κ V A N C b l i d k e w')\/(e=ϱ (.agg #[ϊ X.b,.int .u64 X.s])/\∃b,w.heap.size<=b/\Dk κ V A N C b (laidAll l ws) [] (nk i ws.length) w'))/\Kp [A,C] w w':=by
 obtain⟨I,K,rfl⟩:=Df B;let⟨L,o⟩:=eX d.length;have G:Hid (Slc w 3 1 (ϒ I L K) d.length (ints d)):=by rw[o];exact B
 rw[<-o];have:=zh o;have H:=zh (n2 aa ab);have:=y.sA;have:=U y.hC;have D:=zh W;clear B o W aa ab;rw[θ];go_enter func115,ntmps115;go_wp2_with fail;let⟨a,am,S,O,R,f,aq⟩:=FA w (ϲ (ϟ V h) 89) (ϲ #[ϒ I L K] 24) (ϲ #[ϊ 0,.int .u64 0] 84);rw[<-am];have Z:=y.qM4 f;have hy:LyF κ i V A N C a.heap.size (w.heap.size+1) l [] d a:=⟨Z.qT7,⟨_,O,G.qM4 f⟩⟩;refine(show Calls _ _ _ _ _ from D (w.heap.size+1) a f hy).mono ?_;rintro e w1 ⟨al,g⟩;have:=g.size;have s:Hid (Kp [A] w w1):=⟨g.os.trans f.os,g.tape.trans f.tape,g.output.trans f.output,lT f.size g.size,λk hk hm=>(g.low k oM (by simp at hm |-;omega)).trans (f.block k hk sM)⟩;rcases al with⟨⟨z,p,rfl⟩,ap,af,ao,ak⟩|⟨rfl,M,ac⟩
 .go_wp2;exact⟨rfl,.inl ⟨a.heap.size,oM,⟨z,p,rfl⟩,ap,af,λx hx=>(ao x hx).elim (λh=>by cases h) id,sU ak⟩,s.mono sM⟩
 rw[Aw,aj];have T:=g.oth _ _ _ _ S dC sO;have ah:=g.oth _ _ _ _ R dC sO;have ad:=zh ac.dk;have E:Hid (w.heap.size<=a.heap.size):=by show _<=_;omega
 clear hy ac g S O R f G D Z;have:=ϻ T 0;have:=U T;go_wp2_with fail;let⟨w2,an,ag,n,ar⟩:=AZ w1 (ϲ #[ϕ X.key,ϊ X.b,.int .u64 X.s,ϗ none] 87);rw[<-an];apply(KO (ad.qM4 n)).mono;rintro e r (⟨⟨z,p,rfl⟩,u,j,_⟩|⟨rfl,u,j⟩)
 .go_wp2;exact⟨rfl,.inl ⟨a.heap.size,E,⟨z,p,rfl⟩,ws,u,H.1,H.2⟩,((s.mono (S':=[A,C]) sM).tr n).trans (j.mono (S':=[A,C]) sM) sM⟩
 have Q:=j.ho ag;have m:=j.heap (n.hp ah) sO;have:=U Q;have:=U m;have:=Y Q;have:=Y m;have:=ρ m;have ae:Hid (Dk κ V A N C a.heap.size (laidAll l ws) [] (nk i ws.length) r/\Kp [A,C] w r):=⟨u,((s.mono sM).tr n).tr j⟩;go_wp2_with fail;have P:Kp [w.heap.size+1+1] r ((r.setCell (ϰ (w.heap.size+1+1) 0) (ϊ X.b)).setCell (ϰ (w.heap.size+1+1) 1) (.int .u64 X.s)):=(kF.sc _).sc _;have ai:=ξ (ξ m 0 (ϊ X.b)) 1 (.int .u64 X.s);let⟨e1,e4⟩:=ae.out;refine bodyPost_ret (results_cell_row results115 _ _ (w.heap.size+1+1) 84 #[ϊ X.b,.int .u64 X.s] (0,0) _ rfl ai underlying84 rfl kR) rfl ?_;exact⟨.inr ⟨rfl,a.heap.size,E,e1.qM3 P (λq hq c t d e=>by rw[mS hq,m]at e;cases e;decide)⟩,e4.trans P sO⟩
def qH0{V A N C base:Nat}{l}{c:Int}{w}(i:Dk κ V A N C base l [] c w)(O:AS)(o:∀(n b:Nat)(s:Int)(t),O n b s t->b<=1000000/\0<=s)(n:Nat)(h)(L)(a)(v)(u:RL O n w h L)(r:OkL n L)(j:news n L<=a.length)(p:∀b∈a,b<N)(D:a.length<=10000)(y:Slc w 3 1 v a.length (ints a)):
  Ω 115 #[θ V h,v] w λe w'=>((∃b,w.heap.size<=b/\Fw κ V A N C b l c a (news n L) e w')\/(e=ϱ (.agg #[ϊ (lhl (φ n L a).1).b,.int .u64 (lhl (φ n L a).1).s])/\∃b,w.heap.size<=b/\Dk κ V A N C b (laidAll l (φ n L a).2.1) [] (nk c (φ n L a).2.1.length) w'))/\Kp [A,C] w w':=by
 have:=Fd n L a;have q:∀x∈(φ n L a).2.1,x.1∈a:=λx d=>by
  have f:x.1∈(φ n L a).2.1.map Prod.fst:=List.mem_map_of_mem d;rw[FV n L a j]at f;exact mT f
 refine Qj i h (lhl (φ n L a).1) a (news n L) (φ n L a).2.1 v y q oM rfl ?_;intro F k m z;refine(Og c V A N C k.heap.size F l O o i.N1 n h h L a [] k z (RL.qM3 u m (Apt.nil _ _)) r j p sO).mono ?_;rintro e E ⟨(d|⟨rfl,B⟩),g⟩
 .exact⟨.inl d,g⟩
 .exact⟨.inr ⟨rfl,_,sU B⟩,g⟩
def qH1{V A N C base:Nat}{l}{a:Int}{w}(d:Dk κ V A N C base l [] a w)(fr)(v)(f:Slc w 3 1 v fr.length (ints fr)):
  Ω 115 #[θ V ⟨⟨#[]⟩,0,0,none⟩,v] w λe w'=>((∃b,w.heap.size<=b/\Fw κ V A N C b l a fr 0 e w')\/(e=ϱ (.agg #[ϊ 0,.int .u64 0])/\∃b,w.heap.size<=b/\Dk κ V A N C b l [] a w'))/\Kp [A,C] w w':=by
 refine Qj d ⟨⟨#[]⟩,0,0,none⟩ ⟨⟨#[]⟩,0,0,none⟩ fr 0 [] v f sM sM rfl ?_;intro F g h c;refine mR (JX V _ ⟨⟨#[]⟩,0,0,none⟩ (DZ F) g rfl) ?_;rintro i hK;exact⟨.inr ⟨rfl,_,c.qM3 hK⟩,Wx.qP2 (hK.mono sM) c.low⟩
variable {κ:Kd}
def zS0{p:Prop}(_h:p:=by
 rw[Cg (hK0.block A hAs sM)]at hc1;have HC1:=hid hc1;clear hc1;have HD1:=Hid.mk' bg;have hP1:=hK1.ho hP0;have hKw1:Kp [A] w w1:=(hK0.mono sM).tr hK1;have:=hK1.size;clear hK1 hP0 hK0 HLOAD bg;go_wp2_with fail;have hN:=μ w1 (ϲ zeroCells288 288);rw[DB hN (by simp[CS,bh]) hEb];rw[show E.toList.toArray=E from by simp,CY (by rw[CS,bh])];obtain⟨w2,hw2,hB2,hP2,hKw2,hK12,hs2⟩:∃w2,w2=(w1.alloc (ϲ zeroCells288 288)).setRow w1.heap.size E/\Ϙ w2 w1.heap.size (ϲ E 288)/\Ϙ w2 w.heap.size (ϲ #[ϊ (i:Int),.int .u64 S] 84)/\Kp [A] w w2/\Kp [] w1 w2/\w2.heap.size=w1.heap.size+1:=
  ⟨_,rfl,setRow_heap _ _ _ _ _ _ hN,(setRow_other _ _ _ _ oM).trans (ν _ hP1),(hKw1.alloc _).setRow (Or.inr oM) _,(kF.alloc _).setRow (Or.inr lR) _,sM⟩
 rw[<-hw2];have HD2:=Hid.mk' (HD1.qM4 hK12);have HC2:=zh ((Cg (hK12.block A HD1.sA sM)).trans HC1);clear hw2 hN hP1 hK12 hEb;go_wp2_with fail;have hSd:Ϙ w2.drew w1.heap.size (ϲ E 288)/\Ϙ w2.drew w.heap.size (ϲ #[ϊ (i:Int),.int .u64 S] 84):=⟨hB2,hP2⟩;refine wp_region_held_drew (S:=λW=>Ϙ W w1.heap.size (ϲ E 288)/\Ϙ W w.heap.size (ϲ #[ϊ (i:Int),.int .u64 S] 84)) kR hSd (λ_=>?_);refine zU 0 (ϑ w1.heap.size 0 128 128) hSd ?_;apply zP 2 w.heap.size 1 hSd;refine zV 3 (.int .u64 S) rfl (λW hS=>by have a:=ϻ hS.2 1;clear hS;go_simp) hSd ?_;refine zq 1 λK hK=>?_;go_simp;refine mR (ar w2.drew w1.heap.size 128 hB2) ?_;rintro w' hw';rw[hw'];clear hw' w';refine zk hK hSd ?_;refine zU 4 (ϐ false) hSd ?_;refine zd ?_;obtain⟨w3,hw3,hB3,hD3,hKw3,hs3,hc3⟩:∃w3,w3=w2.drew/\Ϙ w3 w1.heap.size (ϲ E 288)/\Dk κ V A N C base l ws wr w3/\Kp [A] w w3/\w3.heap.size=w2.heap.size/\cch w3 A=cch w A:=⟨_,rfl,hB2,HD2.qM4 (kF.drew),hKw2.drew,rfl,HC2⟩;have HD3:=Hid.mk' hD3;have HC3:=hid hc3;clear hc3;rw[<-hw3];have hpp:Ad E 0 128=E:=by rw[<-bh];simp[Ad,tL]
 clear hw3 hSd hB2 hP2 hKw2 hKw1 hD3 HD2 HD1;go_wp2_with (
  with_reducible refine EO (t:=288) ?_ 128 ?_ w1.heap.size 0 ?_ E 288 (0,0) ?_ ?_ ?_
  .kernel_rfl
  .kernel_rfl
  .rfl
  .exact hB3
  .have:=bh;omega)
 apply(ab w3).mono;rintro e w4 ⟨q,v,rfl,hq4,hql,hown4,hK4⟩;exact Tz.out):p:=_h
def QO{p:Prop}(_h:p:=by
 have hEb:∀v∈E.toList,v.oneCell'=true:=by rw[hE];exact(Co _).one
 have hAs:=hd.sA;clear c5 hS hE bz bm hz hm ai hd;go_enter func217,ntmps217;go_wp2_with fail;let⟨w0,hw0,hP0,hK0,hs0⟩:=AZ w (ϲ #[ϊ (i:Int),.int .u64 S] 84);rw[<-hw0];clear hw0;apply(HLOAD w0 hK0).mono;exact Tz.out):p:=_h
def QT{p:Prop}(_h:p:=by
 have HLOAD:Hid (∀W,Kp [] w W->Ω 247 #[ϖ V,ϊ i] W λe w'=>((Io κ e/\Dk κ.up V A N C base l ws wr w')\/(e=ϱ (.agg E)/\Dk κ V A N C base l ws wr w'))/\Kp [A] W w'/\cch w' A=cch W A):=λW hK=>by
  have h:=OL (hd.qM4 hK) i hi;rw[ai,<-hE]at h;exact h
 exact Tz.out):p:=_h
def PB{V A N C base:Nat}{l}{ws}{wr:Int}{w}(hd:Dk κ V A N C base l ws wr w)(i:Nat)(ps)
  (hi:i<N) (ai:τ (laidAll l ws) i=toB (Ab 0 ps [])) (hz:∀p∈ps,AD p) (hm:2+qM2 ζ ps<=128) (c:ps.length<=126):
  Ω 217 #[ϖ V,.agg #[ϊ i,.int .u64 (fnv (Ab 0 ps []))]] w λe w'=>((Io κ e/\Dk κ.up V A N C base l ws wr w')\/∃q v,e=ϱ (.tuple #[ϖ q,ϐ true])/\w'.heap[q]?=some (ϲ #[ϊ 0,v,.slice none 0 0] 213)/\w.heap.size<=q/\
   w'.ownsRow w.heap.size 185 2 v ps.length (Aa ps)/\Dk κ V A N C base l ws wr w')/\Kp [A] w w'/\cch w' A=cch w A:=by
 have bz:=Cd 0 ps [] oM oM sO hz sM;have bm:=Ea 0 ps [] (by simpa [AJ] using hm);let⟨E,hE⟩:=eX (enc (toB (Ab 0 ps [])));have bh:E.size=128:=by rw[hE,Bw,BG];exact bm
 have c5:=Ep (toB (Ab 0 ps [])) 0 128 (Ab 0 ps []) bz bm (by rw[dZ,tL (by rw[BG];exact Nat.le_of_eq bm)]);have Tz:Hid (∀{p:Prop},(_h:p:=by
  have ab:=zh (λW=>by
   have h:=ZI ps  W hz hm c;rw[<-hE]at h;exact h)
  let⟨S,hS⟩:=eX (fnv (Ab 0 ps []));have ar:Hid (∀W b cap,Ϙ W b (ϲ E 288)->Ω 251 #[ϑ b 0 128 cap] W λe w'=>e=ϱ (.int .u64 S)/\w'=W):=λW b cap hb=>by
   rw[hS];refine Ir b 0 128 cap (Ab 0 ps []) W bm oM (λj a=>?_);rw[Y hb,hE];exact c5 j a
  rw[<-hS];have Tz:Hid (∀{p:Prop},(_h:p:=by
   rintro e w1 ⟨(⟨⟨d,p,rfl⟩,bg⟩|⟨rfl,bg⟩),hK1,hc1⟩
   .rw[Cg (hK0.block A hAs sM)]at hc1;go_wp2;exact⟨rfl,.inl ⟨⟨d,p,rfl⟩,bg⟩,(hK0.mono sM).tr hK1,hc1⟩
   have Tz:Hid (∀{p:Prop},(_h:p:=by
    have aq:Hid (Ϙ w4 q (ϲ #[ϊ 0,v,ϒ none 0 0] 213)/\w.heap.size<=q/\w4.ownsRow w.heap.size 185 2 v ps.length (Aa ps)/\Dk κ V A N C base l ws wr w4/\Kp [A] w w4/\cch w4 A=cch w A):=⟨hq4,oM,Ct hown4 oM,HD3.qM4 hK4,hKw3.tr hK4,(Cg (hK4.block A HD3.sA sM)).trans HC3⟩;clear hq4 hql hown4 hK4 hB3 hKw3 hpp;go_wp2
    go_ret2
    let⟨f,g,k,m,n⟩:=aq.out;exact⟨.inr ⟨q,v,rfl,f,g,k,m⟩,n⟩)->p):=λh=>h;exact zS0)->p):=λh=>h;exact QO)->p):=λh=>h;exact QT
def PA{V A N C base:Nat}{l}{ws}{wr:Int}{w}(hd:Dk κ V A N C base l ws wr w)(i:Nat)(ps)(lv:Int)(hlv0:0<lv)(a:lv<256)
  (hi:i<N) (ai:τ (laidAll l ws) i=toB (Ab lv [] ps)) (hz:∀p∈ps,p.p=none/\p.key.size<=8/\0<=p.b/\p.b<65536/\0<=p.s/\p.s<18446744073709551616) (hm:2+qM2 ψ ps<=128) (d:ps.length<=126):
  Ω 217 #[ϖ V,.agg #[ϊ i,.int .u64 (fnv (Ab lv [] ps))]] w λe w'=>((Io κ e/\Dk κ.up V A N C base l ws wr w')\/∃q v,e=ϱ (.tuple #[ϖ q,ϐ true])/\w'.heap[q]?=some (ϲ #[ϊ lv,.slice none 0 0,v] 213)/\w.heap.size<=q/\
   w'.ownsRow w.heap.size 87 4 v ps.length (Ag ps)/\Dk κ V A N C base l ws wr w')/\Kp [A] w w'/\cch w' A=cch w A:=by
 have bz:=Cd lv [] ps oM a sO sM (λp hp=>(hz p hp).2.1);have bm:=Ea lv [] ps (by simpa [AJ] using hm);let⟨E,hE⟩:=eX (enc (toB (Ab lv [] ps)));have bh:E.size=128:=by rw[hE,Bw,BG];exact bm
 have c5:=Ep (toB (Ab lv [] ps)) 0 128 (Ab lv [] ps) bz bm (by rw[dZ,tL (by rw[BG];exact Nat.le_of_eq bm)]);have Tz:Hid (∀{p:Prop},(_h:p:=by
  have ab:=zh (λW=>by
   have h:=ZH ps lv hlv0 a W hz hm d;rw[<-hE]at h;exact h)
  let⟨S,hS⟩:=eX (fnv (Ab lv [] ps));have ar:Hid (∀W b cap,Ϙ W b (ϲ E 288)->Ω 251 #[ϑ b 0 128 cap] W λe w'=>e=ϱ (.int .u64 S)/\w'=W):=λW b cap hb=>by
   rw[hS];refine Ir b 0 128 cap (Ab lv [] ps) W bm oM (λj c=>?_);rw[Y hb,hE];exact c5 j c
  rw[<-hS];have Tz:Hid (∀{p:Prop},(_h:p:=by
   rintro e w1 ⟨(⟨⟨f,p,rfl⟩,bg⟩|⟨rfl,bg⟩),hK1,hc1⟩
   .rw[Cg (hK0.block A hAs sM)]at hc1;go_wp2;exact⟨rfl,.inl ⟨⟨f,p,rfl⟩,bg⟩,(hK0.mono sM).tr hK1,hc1⟩
   have Tz:Hid (∀{p:Prop},(_h:p:=by
    have aq:Hid (Ϙ w4 q (ϲ #[ϊ lv,ϒ none 0 0,v] 213)/\w.heap.size<=q/\w4.ownsRow w.heap.size 87 4 v ps.length (Ag ps)/\Dk κ V A N C base l ws wr w4/\Kp [A] w w4/\cch w4 A=cch w A):=⟨hq4,oM,Ct hown4 oM,HD3.qM4 hK4,hKw3.tr hK4,(Cg (hK4.block A HD3.sA sM)).trans HC3⟩;clear hq4 hql hown4 hK4 hB3 hKw3 hpp;go_wp2
    go_ret2
    let⟨g,k,m,n,o⟩:=aq.out;exact⟨.inr ⟨q,v,rfl,g,k,m,n⟩,o⟩)->p):=λh=>h;exact zS0)->p):=λh=>h;exact QO)->p):=λh=>h;exact QT
def qH3{V A N C base:Nat}{l}{ws}{wr:Int}(n:Nat)(h r)(L)(a:Int){w}(G:Dk κ V A N C base l ws wr w)(hr:RL (Laid N (laidAll l ws)) n w h L)(R:h.p=none)(ha:(n:Int)<a):
  Ω 150 #[θ V r,Aw h,ϊ a] w λe w'=>((Io κ e/\Dk κ.up V A N C base l ws wr w')\/∃q,e=ϱ (ϖ q)/\RN (Laid N (laidAll l ws)) n w' q L.sub/\Dk κ V A N C base l ws wr w')/\Kp [A] w w'/\cch w' A=cch w A:=by
 have hO:∃b s,h.b=(b:Nat)/\h.s=s/\Laid N (laidAll l ws) n b s L.sub:=by
  have c:=hr.2
  cases hl:L.ref with
  | none=>
   rw[hl]at c;let⟨_,_,q',M,_⟩:=c;rw[R]at M;cases M
  | some x=>
   rw[hl]at c;exact⟨x.1,x.2,c.1,c.2.1,c.2.2.2⟩
 let⟨b,s,hb,ad,F⟩:=hO;have:=F.at.2.2.2.2;have Z:Hid (∀W,Kp [] w W->Ω 217 #[ϖ V,.agg #[ϊ b,.int .u64 s]] W λe w'=>((Io κ e/\Dk κ.up V A N C base l ws wr w')\/∃q X T,e=ϱ (.tuple #[ϖ q,ϐ true])/\Ϙ w' q (Ai (n:Int) X T)/\RN (Laid N (laidAll l ws)) n w' q L.sub/\Dk κ V A N C base l ws wr w')/\Kp [A] W w'/\cch w' A=cch W A):=by
  intro W hK;have Q:=G.qM4 hK
  cases n with
  | zero=>
   let⟨g1,u,K,f,y,z,B⟩:=F;rw[K];refine(PB Q b (prs L.sub) u f y z B).mono ?_;rintro e w' ⟨(I|⟨q,v,rfl,d,_,H,D⟩),g⟩
   .exact⟨.inl I,g⟩
   exact⟨.inr ⟨q,v,ϒ none 0 0,rfl,d,⟨v,d,Cm H⟩,D⟩,g⟩
  | succ n=>
   let⟨g1,u,K,S,f,y,z,B,g8,g9⟩:=F;rw[y];refine(PA Q b S ((n+1:Nat):Int) oM oM u z (Laid.links f B G.N1) g8 g9).mono ?_;rintro e w' ⟨(I|⟨q,v,rfl,d,_,H,D⟩),g⟩
   .exact⟨.inl I,g⟩
   exact⟨.inr ⟨q,ϒ none 0 0,v,rfl,d,⟨v,d,S,Cm H,⟨f.1,λi h1 c=>(f.2 i h1 c).mono (λ_ h=>h.elim) (λ_ _ h=>h)⟩⟩,D⟩,g⟩
 have ac:h.ptr=none:=by simp[HL.ptr,R]
 rw[θ,Aw,ac,hb,ad];have O:=G.sA;go_enter func150,ntmps150;go_wp2_with fail;obtain⟨m,ae,j⟩:∃m,m=(w.alloc (ϲ (ϟ V r) 89)).alloc (ϲ #[ϕ h.key,ϊ (b:Int),.int .u64 s,ϗ none] 87)/\Kp [] w m:=⟨_,rfl,(kF.alloc _).alloc _⟩;rw[<-ae];refine(Z m j).mono ?_;rintro e o ⟨(⟨⟨ab,p,rfl⟩,E⟩|⟨q,X,T,rfl,d,aa,E⟩),P,k⟩
 .rw[Cg (j.block A O sM)]at k;go_wp2;exact⟨rfl,.inl ⟨⟨ab,p,rfl⟩,E⟩,(j.mono sM).tr P,k⟩
 rw[Cg (j.block A O sM)]at k;have:=U d;have:=ϻ d 0;have:¬a<=(n:Int):=oM
 have t:Hid (RN (Laid N (laidAll l ws)) n o q L.sub/\Dk κ V A N C base l ws wr o/\Kp [A] w o/\cch o A=cch w A):=⟨aa,E,(j.mono sM).tr P,k⟩;go_wp2;go_ret;exact⟨.inr ⟨q,rfl,t.1,t.2.1⟩,t.2.2⟩
def Dw(κ:Kd)(V A N C:Nat)(l:ϣ)(ws:ϥ)(wr:Int)(q:Ϥ)(w:Ϣ):Prop:=∃base,Dk κ V A N C base l ws wr w/\cch w A=q
abbrev Dq(κ:Kd)(V A N C:Nat)(l:List UInt8)(wr:Int)(w:World):Prop:=Dw κ V A N C l [] wr [] w
section
variable {V A N C:Nat} {l:ϣ} {ws:ϥ} {wr:Int} {q:Ϥ} {w w':Ϣ}
def Dw.hV(h:Dw κ V A N C l ws wr q w):w.heap[V]?=some (CR A N):=h.elim λ_ h=>h.1.hV
def Dw.hC(h:Dw κ V A N C l ws wr q w):w.heap[C]?=some (ϲ (enc l) 115):=h.elim λ_ h=>h.1.hC
def Dw.hA(h:Dw κ V A N C l ws wr q w):∃v c,w.heap[A]?=some (AF κ N C v c wr):=h.elim λ_ h=>h.1.hA.elim λv h=>⟨v,h.elim λc h=>⟨c,h.1⟩⟩
def Dw.sA(h:Dw κ V A N C l ws wr q w):A<w.heap.size:=h.elim λ_ h=>h.1.sA
def Dw.qM3{S}(h:Dw κ V A N C l ws wr q w)(hK:Kp S w w')(a:OffD w S):Dw κ V A N C l ws wr q w':=by
 let⟨b,h,f⟩:=h;let⟨v,c,d,_⟩:=h.hA;exact⟨b,h.qM3 hK a,(Cg (hK.block A h.sA (λe=>a _ e _ _ _ d dC))).trans f⟩
def Dw.qM4(h:Dw κ V A N C l ws wr q w)(hK:Kp [] w w'):Dw κ V A N C l ws wr q w':=h.qM3 hK (by intro k a;cases a)
end
section
variable {V A N C:Nat} {l:ϣ} {wr:Int} {w:Ϣ}
def Dk.qX8{base:Nat}(h:Dk κ V A N C base l [] wr w):cch w A=[]:=by
 let⟨v,c,a,_,b⟩:=h.hA;rw[Eo a,b rfl];rfl
def Dk.q{base:Nat}(h:Dk κ V A N C base l [] wr w):Dw κ V A N C l [] wr [] w:=⟨_,h,h.qX8⟩
end
def EW(κ:Kd)(V A N C:Nat)(l:List UInt8)(ws:List (Nat×List UInt8))(wr:Int)(q:List Nat):SEnv where
 O:=Laid N (laidAll l ws)
 V:=V
 S:=[A]
 Dev:=Dw κ V A N C l ws wr q
 qM3:=fun w w' L hd hK hL=>hd.qM3 hK fun k hk c t fr e=>by
  obtain⟨c',t',fr',e',h'⟩:=hL k hk;rw[e]at e';cases e';exact(by decide:∀t∈Hr,t∉FH) _ h'
 apt:=fun w hd k hk c t fr e=>by
  obtain⟨_,hd,_⟩:=hd;obtain⟨v,cl,hA,_⟩:=hd.hA;rw[List.mem_singleton.1 hk,hA]at e;cases e;decide
 low:=fun w hd k hk=>by
  obtain⟨_,hd,_⟩:=hd;rw[List.mem_singleton.1 hk];exact hd.sA
 pos:=fun n b s t h=>by have:=h.at;omega
 lvl:=fun n b s t h=>h.at.2.2.2.2
 qP9:=Dw κ.up V A N C l ws wr q
 read:=fun n h r L a w hd hr hp ha=>by
  obtain⟨b,hd,hq⟩:=hd;refine(qH3 n h r L a hd hr hp ha).mono ?_;rintro e w' ⟨⟨h1,h2⟩|⟨q,h1,h2,h3⟩,hK,hc⟩
  ·exact .inl ⟨h1.2,⟨b,h2,hc.trans hq⟩,hK⟩
  ·exact .inr ⟨q,h1,h2,⟨b,h3,hc.trans hq⟩,hK⟩
 qN1:=fun w w' L hd hK hL=>hd.qM3 hK hL
 qP6:=fun w w' L hd hK hL=>hd.qM3 hK hL
 qU9:=fun w hd k hk=>by
  obtain⟨_,hd,_⟩:=hd;obtain⟨v,cl,hA,_⟩:=hd.hA;rw[List.mem_singleton.1 hk];exact⟨_,_,_,hA,by decide⟩
abbrev EF(κ:Kd)(V A N C:Nat)(l:List UInt8)(wr:Int):SEnv:=EW κ V A N C l [] wr []
section
variable {V A N C:Nat} {l:ϣ} {ws:ϥ} {wr:Int} {q:Ϥ} {w w':Ϣ}
def XX(d:Dw κ V A N C l ws wr q w)(i:Nat)(h:i<N):
  (EW κ V A N C l ws wr q).toEnv.C 247 #[ϖ V,ϊ i] w λe w'=>e=ϱ (.agg (enc (τ (laidAll l ws) i)))/\(EW κ V A N C l ws wr q).toEnv.To w w':=by
 let⟨b,d,g⟩:=d;refine(OL d i h).mono ?_;rintro e w' ⟨⟨a,c⟩|⟨a,c⟩,hK,f⟩
 .exact .inl ⟨a.2,⟨b,c,f.trans g⟩,hK⟩
 .exact .inr ⟨a,⟨b,c,f.trans g⟩,hK⟩
end
variable {κ:Kd}
def Lz(κ:Kd)(V A n C base:Nat)(l:ϣ)(ws:ϥ)(wr:Int)(i:Nat)(a:ϣ)(e:Ending)(w:Ϣ):Prop:=
 Io κ e/\(Dk κ.up V A n C base l ws wr w\/Dk κ.up V A n C base l (ws++[(i,a)]) (nx wr) w)
def JD{V A n C base:Nat}{l}{ws}{wr:Int}{w}(q:Dk κ V A n C base l ws wr w)(au:ws.length<100000)(i:Nat)(N a rs:Int)(hi:i<n)(hN:N % 2=i)(ae:0<=N)(an:0<=a)(ay:a<=1000)(ar:0<=rs):
  Ω 142 #[ϖ V,.agg #[.int .u64 N,ϊ a,.int .u64 rs]] w λe w'=>(Lz κ V A n C base l ws wr i (Ae N a rs) e w'\/(e=ϱ (.tuple #[])/\
   Dk κ V A n C base (laidAll l (ws++[(i,Ae N a rs)])) [] (nx wr) w'))/\Kp (A::C::cch w A) w w'/\(∀k∈cch w' A,k∈cch w A\/w.heap.size<=k):=by
 have ax:=U q.hV;have hA:=q.sA;have aw:=U q.hC;have HD:=hid q;clear q;have HN:=zh hN;have B:Hid (∀W,Kp [] w W->cch W A=cch w A):=λW hK=>Cg (hK.block A hA sM);clear hN;go_enter func142,ntmps142;go_wp2_with fail;rw[qL7];obtain⟨c,ag,ab,F,T,a1⟩:∃c,c=(w.alloc (ϲ #[.int .u64 N,ϊ a,.int .u64 rs] 166)).alloc (ϲ (enc Ej) 288)/\Kp [] w c/\
   c.heap[w.heap.size]?=some (ϲ #[.int .u64 N,ϊ a,.int .u64 rs] 166)/\c.heap[w.heap.size+1]?=some (ϲ (enc Ej) 288)/\c.heap.size=w.heap.size+2:=
  ⟨_,rfl,((Kp.refl _ _).alloc _).alloc _,ν _ (μ _ _),by simpa using μ (w.alloc (ϲ #[.int .u64 N,ϊ a,.int .u64 rs] 166)) (ϲ (enc Ej) 288),sM⟩
 rw[<-ag];clear ag;refine wp_region_any kR ?_;change wpAny _ _ _ _ _ _ _ (World.drew _);refine zu 0 (.slice (some (ϰ (w.heap.size+1) 0)) 128 128) ?_;refine zQ 1 λK hK=>?_;refine AU rfl (Es (t:=166) rfl kR 3 kR w.heap.size rfl (show c.drew.heap[w.heap.size]?=_ from F) rfl) ?_;refine hK _ _ ?_;simp only[zZ];refine zQ 2 λK hK=>?_;go_simp;refine(PV N a rs _ ae an oM ar).mono ?_;rintro e w2 ⟨v2,rfl,af,D⟩;obtain⟨g2,am,av,rfl,aj,ap,M⟩:=Po af;have r:=Kp.qN2 D (Nat.le_refl _);have Z:=r.heap (k:=w.heap.size) F sM;have E:=r.heap (k:=w.heap.size+1) T sM;have ac:=(ab.drew).tr r;have az:w.heap.size+2<=w2.heap.size:=by have:=D.size;simp at this;omega
 clear D r F T ab af;refine hK _ _ ?_
 try simp only[zZ]
 refine zQ 3 λK hK=>?_;refine AU rfl (Nb rfl underlying118 Tryz.qQ7 (w.heap.size+1) 0 128 128 g2 0 32 am 32 rfl rfl dC E aj (by rw[Bw];decide) oM (by rw[M];exact(Co _).one)) ?_;rw[M,JN];have ai:Ej.take 0++toB (BP N a rs)++Ej.drop (0+(toB (BP N a rs)).length)=Ae N a rs:=by
  rw[DS,KL];simp[Ae,Ej]
 rw[ai];obtain⟨g,ah,ad,f,d⟩:∃g,g=w2.setRow (w.heap.size+1) (enc (Ae N a rs))/\Kp [] w g/\
   g.heap[w.heap.size]?=some (ϲ #[.int .u64 N,ϊ a,.int .u64 rs] 166)/\g.heap[w.heap.size+1]?=some (ϲ (enc (Ae N a rs)) 288):=
  ⟨_,rfl,ac.setRow (Or.inr oM) _,(setRow_other _ _ _ _ oM).trans Z,setRow_heap _ _ _ _ _ _ E⟩
 rw[<-ah];clear ah Z E ac aj ap M ai;refine hK _ _ ?_;refine wpAny_done kR ?_ _;simp only[zZ];go_wp2_with fail;have aq:=BI N a rs;refine wp_region_held_drew (S:=λW=>W.heap[w.heap.size]?=some (ϲ #[.int .u64 N,ϊ a,.int .u64 rs] 166)/\W.heap[w.heap.size+1]?=some (ϲ (enc (Ae N a rs)) 288)) kR ⟨f,d⟩ (λ_=>?_);refine zV 0 (ϖ V) rfl (λW y=>rfl) ⟨f,d⟩ ?_;refine zV 1 (.agg #[.int .u64 N,ϊ a,.int .u64 rs]) rfl (λW y=>Es (t:=166) rfl kR 3 kR w.heap.size rfl y.1 rfl) ⟨f,d⟩ ?_;refine zV 3 (.agg (enc (Ae N a rs))) rfl (λW y=>Es (t:=288) rfl kR 128 kR (w.heap.size+1) rfl y.2 (by rw[Bw,BI])) ⟨f,d⟩ ?_;refine zq 2 λK hK=>?_;go_simp;refine(KC N a rs _ ae).mono ?_;rintro e z ⟨rfl,R⟩;rw[HN.out];have s:=Kp.qN2 R (Nat.le_refl _);have G:=s.heap (k:=w.heap.size) f sM;have v:=s.heap (k:=w.heap.size+1) d sM;have b:=(ad.drew).tr s;clear R s f d ad;refine hK.out _ _ ⟨G,v⟩ (λ_=>?_)
 try simp only[zZ]
 refine zq 4 λK hK=>?_;go_simp;refine(PS (HD.qM4 b) i hi (Ae N a rs) aq au).mono ?_;rintro e w5 ⟨(⟨⟨L,p,rfl⟩,u⟩|⟨rfl,u⟩),H,m,o⟩
 .clear hK;rw[B.out z b]at m;go_wp2;rw[B.out z b]at o;exact⟨rfl,.inl ⟨⟨L,p,rfl⟩,.inl u⟩,(b.mono sM).trans m (by simp +contextual),λk I=>(o k I).imp_right λh=>by have:=b.size;omega⟩
 rw[B.out z b]at m o;have ak:Hid (∀k∈cch w5 A,k∈cch w A\/w.heap.size<=k):=λk I=>(o k I).imp_right λh=>by have:=b.size;omega
 clear o;have a0:w.heap.size+2<=z.heap.size:=by have:=U v;omega
 have aa:=H.oth _ _ _ _ G dC oM;have X:=H.oth _ _ _ _ v dC oM;have al:=hid u;have Q:=zh ((b.mono sM).trans m (λ_ h _=>h));refine hK.out _ _ ⟨aa,X⟩ (λ_=>?_);refine zd ?_
 try simp only[zZ]
 clear u H G v aa X m;go_wp2_with fail;refine(KO al).mono ?_;rintro e O (⟨⟨L,p,rfl⟩,j,x,ao⟩|⟨rfl,j,x⟩)
 .go_wp2;exact⟨rfl,.inl ⟨⟨L,p,rfl⟩,.inr j⟩,(Q.mono (by simp +contextual)).trans x (by simp +contextual),by rw[ao];exact ak⟩
 have P:=hid (show Dk κ V A n C base (laidAll l (ws++[(i,Ae N a rs)])) [] (nx wr) O/\Kp (A::C::cch w A) w O/\(∀k∈cch O A,k∈cch w A\/w.heap.size<=k) from⟨j,(Q.mono (by simp +contextual)).trans x (by simp +contextual),by rw[j.qX8];simp⟩);clear j x;go_wp2
 go_end0
 exact⟨.inr ⟨rfl,P.1⟩,P.2⟩
def Ov{St A n C base:Nat}{s}{l}{wr:Int}{w}(V:w.heap[St]?=some (η 1 s))(hd:Dk κ s.V A n C base l [] wr w)(a b:Int)(ap:2<=n)(ag:0<=a)(ah:a<=1000)(ak:0<=b)(i:Nat)(hi:upN s.N % 2=i):
  Ω 114 #[ϖ St,.agg #[ϊ a,.int .u64 b]] w λe w'=>(Lz κ s.V A n C base l [] wr i (Ae (upN s.N) a b) e w'/\w'.heap[St]?=some (η 1 s)\/(e=ϱ (.tuple #[])/\w'.heap[St]?=some (η 1 (s.led a b))/\Dk κ s.V A n C base (Ap l i (Ae (upN s.N) a b)) [] (nx wr) w'))/\Kp [St,A,C] w w':=by
 have:=U V;have z:=zh V;have r:=zh hd;have X:=zh hi;clear V hd hi;go_enter func114,ntmps114;go_wp2_with fail;rename_i G ab;let⟨u,ad,ac,M,al⟩:=AZ w (ϲ #[ϊ a,.int .u64 b] 84);rw[<-ad];clear ad;have o:u.drew.heap[St]?=some (η 1 s)/\u.drew.heap[w.heap.size]?=some (ϲ #[ϊ a,.int .u64 b] 84):=⟨M.hp z,ac⟩;refine Il (α:=Nat->Act) (R:=λA0=>∀H W,W.heap[H]?=some (ϲ #[.int .u64 (upN s.N),ϊ a,.int .u64 b] 166)->Kp [] w W->w.heap.size<=H->G (A0 H) W) ?_;apply Exists.intro;apply And.intro
 rotate_left
 .intro HREST;refine wp_region_held_drew (S:=λW=>W.heap[St]?=some (η 1 s)/\W.heap[w.heap.size]?=some (ϲ #[ϊ a,.int .u64 b] 84)) kR o (λ_=>?_);refine zP 0 St 0 o ?_;refine zV 1 (ϖ St) rfl (λW d=>by have c:=U d.1;clear d;go_simp) o ?_;refine zP 2 St 3 o ?_;refine zV 3 (.agg #[.int .u64 s.N,ϊ s.rb,.int .u64 s.rs]) rfl (λW d=>by have:=ϻ d.1 3;have:=ϻ d.1 4;have:=ϻ d.1 5;clear d;go_simp) o ?_;refine zV 4 (.agg #[ϊ a,.int .u64 b]) rfl (λW d=>by have:=Y d.2;clear d;go_simp) o ?_;refine zr 5 6 (λK hK=>?_) λK hK=>?_
  .skip
   go_simp;refine(Hx s.N s.rb s.rs a b u.drew).mono ?_;rintro e y ⟨rfl,D⟩;have q:=Kp.qN2 D (Nat.le_refl _);have g:=And.intro (q.hp o.1) (q.hp o.2);refine hK.out _ _ g (λ_=>?_);clear hK K D
   try simp only[zZ]
   refine zq 6 λK hK=>?_;go_simp;let⟨h,F,x,j,an⟩:=AZ y (ϲ #[.int .u64 0,ϊ 0,.int .u64 0] 166);let⟨B,I⟩:=eX y.heap.size;rw[<-F,<-I];rw[<-I]at x;have am:=q.size;have:w.heap.size<B:=by rw[I];have:u.heap.size<=y.heap.size:=am;omega
   clear F I;have f:=And.intro (j.hp g.1) (j.hp g.2);refine zk hK f ?_
   refine zq 7 λK hK=>?_;have:=Y x;have:=ρ x;have:=U x;have O:=zh x;go_simp;have m:Kp [B] h (((h.setCell (ϰ B 0) (.int .u64 (upN s.N))).setCell (ϰ B 1) (ϊ a)).setCell (ϰ B 2) (.int .u64 b)):=(((Kp.refl _ _).sc _).sc _).sc _;have E:=ξ (ξ (ξ O 0 (.int .u64 (upN s.N))) 1 (ϊ a)) 2 (.int .u64 b);generalize ((h.setCell (ϰ B 0) (.int .u64 (upN s.N))).setCell (ϰ B 1) (ϊ a)).setCell (ϰ B 2) (.int .u64 b)=w5 at m E |-;refine hK.out _ _ ⟨m.heap f.1 (by simp<;>omega),m.heap f.2 (by simp<;>omega)⟩ (λ_=>?_);refine zd ?_
   try simp only[zZ]
   show G _ w5;exact HREST B w5 E ((((M.drew).tr q).tr j).trans m (by simp<;>omega)) oM
  .go_simp;obtain⟨h,F,x,j,an⟩:∃h,h=(u.alloc (ϲ #[.int .u64 0,ϊ 0,.int .u64 0] 166)).drew/\h.heap[w.heap.size+1]?=some (ϲ #[.int .u64 0,ϊ 0,.int .u64 0] 166)/\Kp [] u h/\h.heap.size=u.heap.size+1:=⟨_,rfl,by rw[<-al];exact μ u _,((Kp.refl _ _).alloc _).drew,sM⟩;rw[<-F];clear F;have f:=And.intro (j.hp o.1) (j.hp o.2);refine zk hK f ?_
   refine zq 5 λK hK=>?_;go_simp;refine(Hx s.N s.rb s.rs a b h).mono ?_;rintro e y ⟨rfl,D⟩;have q:=Kp.qN2 D (Nat.le_refl _);have g:=And.intro (q.hp f.1) (q.hp f.2);refine hK.out _ _ g (λ_=>?_);clear hK K D
   try simp only[zZ]
   have L:=q.hp x;refine zq 7 λK hK=>?_;have:=Y L;have:=ρ L;have:=U L;have O:=zh L;go_simp;have m:Kp [(w.heap.size+1)] y (((y.setCell ⟨(w.heap.size+1),0,none⟩ (.int .u64 (upN s.N))).setCell ⟨(w.heap.size+1),1,none⟩ (ϊ a)).setCell ⟨(w.heap.size+1),2,none⟩ (.int .u64 b)):=(((Kp.refl _ _).sc _).sc _).sc _;have E:=ξ (ξ (ξ O 0 (.int .u64 (upN s.N))) 1 (ϊ a)) 2 (.int .u64 b);generalize ((y.setCell ⟨(w.heap.size+1),0,none⟩ (.int .u64 (upN s.N))).setCell ⟨(w.heap.size+1),1,none⟩ (ϊ a)).setCell ⟨(w.heap.size+1),2,none⟩ (.int .u64 b)=w5 at m E |-;refine hK.out _ _ ⟨m.heap g.1 (by simp<;>omega),m.heap g.2 (by simp<;>omega)⟩ (λ_=>?_);refine zd ?_
   try simp only[zZ]
   show G _ w5;exact HREST (w.heap.size+1) w5 E (((M.tr j).tr q).tr m) oM
 intro H W P Q ao;refine ab _ _ ?_;clear ab G o M ac;go_wp2_with fail;have:=U P;have:=U r.hV;have:=U r.hC;have g:W.drew.heap[St]?=some (η 1 s)/\W.drew.heap[H]?=some (ϲ #[.int .u64 (upN s.N),ϊ a,.int .u64 b] 166):=⟨Q.hp z,P⟩;have:=r.out.sA;have ae:St≠A:=by let⟨v,c,h1,_⟩:=r.out.hA;exact CL z h1 dC
 have af:=CL z r.hC dC;have:=CL z r.hV dC;refine wp_region_held_drew (S:=λW=>W.heap[St]?=some (η 1 s)/\W.heap[H]?=some (ϲ #[.int .u64 (upN s.N),ϊ a,.int .u64 b] 166)) kR g (λ_=>?_);refine zP 0 St 0 g ?_;refine zV 1 (ϖ St) rfl (λW d=>by have c:=U d.1;clear d;go_simp) g ?_;refine zP 2 St 2 g ?_;refine zV 3 (ϖ s.V) rfl (λW d=>by have:=ϻ d.1 2;clear d;go_simp) g ?_;refine zV 4 (.agg #[.int .u64 (upN s.N),ϊ a,.int .u64 b]) rfl (λW d=>by have:=Y d.2;clear d;go_simp) g ?_;refine zq 5 λK hK=>?_;go_simp;have N:=Q.drew;refine(JD (r.qM4 N) sM i (upN s.N) a b (by have:=X.out;omega) X (EM _).1 ag ah ak).mono ?_;rintro e h ⟨aj,j,_⟩;rw[(r.out.qM4 N).qX8]at j;have f:=And.intro (j.heap g.1 (by simp[ae,af])) (j.heap g.2 (by simp<;>omega));have T:Kp [A,C] w h:=(N.mono sM).tr j;rcases aj with⟨⟨ai,p,rfl⟩,hx⟩|⟨rfl,aa⟩
 .clear hK;go_wp2;exact⟨rfl,.inl ⟨⟨⟨ai,p,rfl⟩,hx⟩,f.1⟩,T.mono (by simp +contextual)⟩
 refine hK.out _ _ f (λ_=>?_);refine zd ?_
 try simp only[zZ]
 have:=U f.1;have:=U f.2;have:=ϻ f.1 3;have:=ϻ f.1 4;have:=ϻ f.1 5;have:=ρ f.1;have:=Y f.2;have:H≠St:=oM
 have HE:Hid (h.heap[St]?=some (η 1 s)/\Dk κ s.V A n C base (Ap l i (Ae (upN s.N) a b)) [] (nx wr) h/\Kp [A,C] w h):=⟨f.1,aa,T⟩;clear g f aa j T P Q N;go_wp2
 go_end0
 let⟨Z,e2,e5⟩:=HE.out;have m:Kp [St] h (((h.setCell (ϰ St 3) (.int .u64 (upN s.N))).setCell (ϰ St 4) (ϊ a)).setCell (ϰ St 5) (.int .u64 b)):=(((Kp.refl _ _).sc _).sc _).sc _;exact⟨.inr ⟨rfl,ξ (ξ (ξ Z 3 _) 4 _) 5 _,e2.qM3 m (λk hk c t fr e=>by rw[List.mem_singleton.1 hk,Z]at e;cases e;decide)⟩,(e5.mono (by simp +contextual)).tr m⟩
variable {κ:Kd}
def Bn(p:Option Addr)(κ:Kd)(n:Nat)(cache:Value)(calls writes:Int):Obj:=
 .cells #[.slice p n κ.cap,cache,.int .i64 calls,.int .i64 writes,.int .i64 κ.told,.int .i64 κ.off,.int .i64 κ.fr,.int .i64 κ.to] 114
structure Dn(κ:Kd)(A N C:Nat)(l:ϣ)(ws:ϥ)(wr:Int)(q:Ϥ)(w:Ϣ):Prop where
 hA:∃base p v calls,base<=w.heap.size/\w.heap[A]?=some (Bn p κ N v calls wr)/\(1<=N->p=some (ϰ C 0))/\w.ownsRow base 117 129 v ws.length (ws.flatMap wcs)/\(ws=[]->v=.slice none 0 0)
 hC:w.heap[C]?=some (ϲ (enc l) 115)
 gl:Gl w
 fit:∀x∈ws,x.1<N/\x.2.length=128
 wl:ws.length<=100000
 len:N*128<=l.length
 N1:N<=1000
 cq:cch w A=q
section
variable {V A N C:Nat} {l:ϣ} {ws:ϥ} {wr:Int} {q:Ϥ} {w w':Ϣ}
def Dk.qN3{base:Nat}(h:Dk κ V A N C base l ws wr w):∀k∈cch w A,base<=k:=λk hk=>by
 let⟨v,c,a,b,_⟩:=h.hA;rw[Eo a]at hk;exact(World.ownsRow.lt b k (sU hk)).1
def Dn.k(h:Dn κ A N C l ws wr q w)(i:1<=N)(j:w.heap[V]?=some (CR A N)):Dw κ V A N C l ws wr q w:=by
 let⟨b,p,v,c,d,a,e,f,g⟩:=h.hA;rw[e i]at a;exact⟨b,⟨j,⟨v,c,a,f,g⟩,h.hC,h.gl,d,h.fit,h.wl,h.len,h.N1⟩,h.cq⟩
def Dw.n(h:Dw κ V A N C l ws wr q w):Dn κ A N C l ws wr q w:=by
 let⟨b,h,f⟩:=h;let⟨v,c,a,d,e⟩:=h.hA;exact⟨⟨b,_,v,c,h.low,a,λ_=>rfl,d,e⟩,h.hC,h.gl,h.fit,h.wl,h.len,h.N1,f⟩
def Dn.at(h:Dn κ A N C l ws wr q w):∃p v c,w.heap[A]?=some (Bn p κ N v c wr):=by
 let⟨b,p,v,c,d,a,_⟩:=h.hA;exact⟨p,v,c,a⟩
def Dn.sA(h:Dn κ A N C l ws wr q w):A<w.heap.size:=by let⟨p,v,c,a⟩:=h.at;exact U a
def Dn.AC(h:Dn κ A N C l ws wr q w):C≠A:=by let⟨p,v,c,a⟩:=h.at;exact CL h.hC a dC
def DV{p}{v}{calls:Int}(h:w.heap[A]?=some (Bn p κ N v calls wr)):cch w A=v.ownBlock.toList:=by simp[cch,h,Bn]
def Dn.qX6(h:Dn κ A N C l ws wr q w):∀k∈q,k<w.heap.size:=λk hk=>by
 let⟨b,p,v,c,e,a,f,d,g⟩:=h.hA;rw[<-h.cq,DV a]at hk;exact(World.ownsRow.lt d k (sU hk)).2
def Dn.off{L}(h:Dn κ A N C l ws wr q w)(hK:Kp L w w')(f:A∉L)(y:C∉L)(j:∀k∈q,k∉L)(z:∀k∈L,∀c t fr,w.heap[k]?=some (ϲ c t fr)->t∉DR):Dn κ A N C l ws wr q w':=by
 let⟨b,p,v,c,s,d,u,e,x⟩:=h.hA;have i:=h.cq;rw[DV d]at i;rw[<-i]at j;refine⟨⟨b,p,v,c,Nat.le_trans s hK.size,hK.heap d f,u,⟨e.1,?_⟩,x⟩,hK.heap h.hC y,h.gl.qM3 hK z,h.fit,h.wl,h.len,h.N1,(Cg (hK.block A h.sA f)).trans h.cq⟩;rcases e.2 with g|⟨g,cap,cur,a,m,o,r⟩
 .exact .inl g
 .exact .inr ⟨g,cap,cur,a,m,hK.heap o (j g (by rw[a];simp[Value.ownBlock])),r⟩
def Dn.qM3{L}(h:Dn κ A N C l ws wr q w)(hK:Kp L w w')(d:OffD w L):Dn κ A N C l ws wr q w':=by
 let⟨b,p,v,c,g,f,i,j,m⟩:=h.hA;exact⟨⟨b,p,v,c,lT g hK.size,hK.heap f (λa=>d _ a _ _ _ f dC),i,BT j hK (λq hq c t fr e a=>d q hq c t fr e (by rw[mS a];decide)),m⟩,hK.heap h.hC (λa=>d _ a _ _ _ h.hC dC),h.gl.qM3 hK (λk hk c t fr e a=>d k hk c t fr e (by simp[DR]at a;rcases a with rfl | rfl<;>decide)),h.fit,h.wl,h.len,h.N1,(Cg (hK.block A h.sA (λa=>d _ a _ _ _ f dC))).trans h.cq⟩
def Dn.qM4(h:Dn κ A N C l ws wr q w)(hK:Kp [] w w'):Dn κ A N C l ws wr q w':=h.qM3 hK (by intro k a;cases a)
def Dn.new{p}{calls:Int}(h:w.heap[A]?=some (Bn p κ N (.slice none 0 0) calls wr))(d:1<=N->p=some (ϰ C 0))(a:w.heap[C]?=some (ϲ (enc l) 115))(c:Gl w)(e:N*128<=l.length)(b:N<=1000):Dn κ A N C l [] wr [] w:=
 ⟨⟨0,p,_,calls,zL _,h,d,wN _ _ _ _,λ_=>rfl⟩,a,c,sM,sM,e,b,DV h⟩
def Dn.qU2{κ'}{p}{v}{calls:Int}(h:Dn κ A N C l ws wr q w)(hK:Kp [A] w w')(d:w.heap[A]?=some (Bn p κ N v calls wr))(f:w'.heap[A]?=some (Bn p κ' N v calls wr)):Dn κ' A N C l ws wr q w':=by
 let⟨b,x,y,c,i,a,j,m,o⟩:=h.hA;have e:=d.symm.trans a;simp[Bn]at e;obtain⟨rfl,rfl,rfl⟩:=e;exact⟨⟨b,_,_,_,lT i hK.size,f,j,BT m hK (λq u c t g e=>by rw[mS u,a]at e;cases e;decide),o⟩,hK.heap h.hC (sU h.AC),h.gl.qM3 hK (λk r c t g e s=>by rw[mS r,a]at e;cases e;revert s;decide),h.fit,h.wl,h.len,h.N1,by rw[DV f,<-DV d];exact h.cq⟩
end
section
variable {n:Nat} {p:Ϭ} {cache:Value} {calls writes:Int}
def qH4(A:Nat)(w)(h:w.heap[A]?=some (Bn p κ n cache calls writes)):
  Ω 126 #[ϖ A] w λe w'=>e=ϱ (ϊ κ.told)/\w'=w:=by
 have c0:=Y h 4;simp at c0;go_enter func126,ntmps126;go_wp2;go_ret;exact⟨rfl,rfl⟩
def qL5(A:Nat)(w)(h:w.heap[A]?=some (Bn p κ n cache calls writes)):
  Ω 35 #[ϖ A] w λe w'=>e=ϱ (ϊ writes)/\w'=w:=by
 have c0:=Y h 3;simp at c0;go_enter func35,ntmps35;go_wp2;go_ret;exact⟨rfl,rfl⟩
def Sj(A:Nat)(w)(h:w.heap[A]?=some (Bn p κ n cache calls writes)):
  Ω 325 #[ϖ A] w λe w'=>e=ϱ (ϊ n)/\w'=w:=by
 have c0:=Y h 0;simp at c0;go_enter func325,ntmps325;go_wp2;go_ret;exact⟨rfl,rfl⟩
def qJ1(A:Nat)(w)(h:w.heap[A]?=some (Bn p κ n cache calls writes)):
  Ω 204 #[.iface 27 (ϖ A)] w λe w'=>e=ϱ (ϊ n)/\Kp [] w w':=by
 have:=zM;have:=U h
 go_enter_defers func204,ntmps204
 go_wp2_with fail;refine mR (Sj A _ (ν _ h)) ?_;rintro c rfl;go_wp2;apply leaves_cons (f:=246) (args:=#[ϖ (ϳ w)]) sM (by simp[go_sem]);apply(TC ⟨ϳ w,0,none⟩ _).mono;rintro e a b ⟨rfl,rfl,rfl⟩;simp[Leaves,settle,results,results204,go_sem];exact kF.alloc _
def Kw(A:Nat)(w)(h:w.heap[A]?=some (Bn p κ n cache calls writes)):
  Ω 139 #[.iface 27 (ϖ A)] w λe w'=>((¬(8<=n/\n<=400)/\e=Al (some 10))\/((8<=n/\n<=400)/\∃V,e=ϱ (ϖ V)/\w.heap.size<=V/\w'.heap[V]?=some (CR A n)))/\Kp [] w w':=by
 have:∀{x:Prop},(8<=n/\n<=400)=x->Hid ((8<=n/\n<=400)=x):=λh=>h;go_enter func139,ntmps139;go_wp2_with fail;refine mR (qJ1 A _ h) ?_;rintro f c;by_cases b:8<=n/\n<=400
 .have:decide ((n:Int)<8)=false:=sO
  have:decide ((400:Int)<(n:Int))=false:=sO
  have a:=hid b;go_wp2;go_ret;exact⟨.inr ⟨a,_,rfl,c.size,μ _ _⟩,c.alloc _⟩
 .have a:=hid b;by_cases d:n<8
  .have:decide ((n:Int)<8)=true:=sO
   clear b;go_wp2;exact⟨rfl,rfl,.inl ⟨a,rfl⟩,c⟩
  .have:decide ((n:Int)<8)=false:=sO
   have:decide ((400:Int)<(n:Int))=true:=sO
   clear b;go_wp2;exact⟨rfl,rfl,.inl ⟨a,rfl⟩,c⟩
end
def YW{A N C:Nat}{l}{ws}{wr:Int}{q}{w}(h:Dn κ A N C l ws wr q w)(n:Int):
  Ω 185 #[ϖ A,ϊ n] w λe w'=>e=ϱ (.tuple #[])/\Kp [A] w w'/\∃κ',κ'.told=κ.told/\Dn κ' A N C l ws wr q w':=by
 let⟨p,v,calls,a⟩:=h.at;have b:=Y a 2;have c:=Y a 5;simp at b c;have:=ρ a 5;go_enter func185,ntmps185;go_wp2
 go_end0
 let⟨h,a⟩:=(hid (And.intro h a)).out;have hK:Kp [A] w (w.setCell (ϰ A 5) (ϊ (wrap64 (calls+n)))):=kF.sc _;exact⟨rfl,hK,⟨κ.cap,κ.told,wrap64 (calls+n),κ.fr,κ.to⟩,rfl,h.qU2 hK a (ξ a 5 _)⟩
def RQ{A N C:Nat}{l}{ws}{wr:Int}{q}{w}(h:Dn κ A N C l ws wr q w)(n k:Int):
  Ω 186 #[ϖ A,ϊ n,ϊ k] w λe w'=>e=ϱ (.tuple #[])/\Kp [A] w w'/\∃κ',κ'.told=κ.told/\Dn κ' A N C l ws wr q w':=by
 let⟨p,v,calls,a⟩:=h.at;have:=ϻ a 2;have c:=ϻ a 6;have d:=ϻ a 7;have:=ρ a;go_enter func186,ntmps186;go_wp2_with fail
 go_region
 all_goals
  go_end0
  let⟨h,a⟩:=(hid (And.intro h a)).out;have hK:Kp [A] w ((w.setCell (ϰ A 6) (ϊ (wrap64 (calls+n)))).setCell (ϰ A 7) (ϊ (wrap64 (wrap64 (calls+n)+k)))).drew:=((kF.sc _).sc _).drew;have b:((w.setCell (ϰ A 6) (ϊ (wrap64 (calls+n)))).setCell (ϰ A 7) (ϊ (wrap64 (wrap64 (calls+n)+k)))).heap[A]?=some (Bn p ⟨κ.cap,κ.told,κ.off,wrap64 (calls+n),wrap64 (wrap64 (calls+n)+k)⟩ N v calls wr):=ξ (ξ a 6 _) 7 _;exact⟨rfl,hK,⟨κ.cap,κ.told,κ.off,wrap64 (calls+n),wrap64 (wrap64 (calls+n)+k)⟩,rfl,h.qU2 hK a b⟩
def Id:List TypeId:=[169,99,80,114,115,117]
def ProgS(w:Ϣ)(S:Ϥ):Prop:=∀k∈S,0<k/\∀c t fr,w.heap[k]?=some (ϲ c t fr)->t∈Id
def ProgS.stay{w w'}{S}(h:ProgS w S)(hK:Kp S w w'){k:Nat}{c}{t}{fr}(a:w.heap[k]?=some (ϲ c t fr))(d:t∉Id):w'.heap[k]?=some (ϲ c t fr):=
 hK.heap a λb=>d ((h k b).2 _ _ _ a)
def ProgS.g0{w w'}{S}(h:ProgS w S)(hK:Kp S w w')(b:w.cell? (ϰ 0 0)=some Bd)(d:0<w.heap.size):w'.cell? (ϰ 0 0)=some Bd:=
 (hK.cell (a:=(ϰ 0 0)) (sU d) (λc=>by have:=(h _ c).1;simp at this)).trans b
def ProgS.zA6{w w'}{S}(h:ProgS w S)(hK:Kp S w w'){T}(i:T∉Id){v}{tbs}(k:PRow w T v tbs):PRow w' T v tbs:=by
 let⟨p,c,e,f⟩:=k;exact⟨p,c,e,λj=>by let⟨g,cur,a,b,d⟩:=f j;exact⟨g,cur,a,h.stay hK b i,d⟩⟩
def ProgS.tfs{w w'}{S}(h:ProgS w S)(hK:Kp S w w'){k:KF}{tbs}{b:List (TF×Nat)}(a:TFs w k tbs b):TFs w' k tbs b:=
 ⟨h.zA6 hK dC a.row,a.len,λi c d=>⟨h.stay hK (a.at_ i c d).1 dC,(a.at_ i c d).2⟩⟩
def ProgS.apt{w}{S}(h:ProgS w S){a:List Ϯ}(b:∀t∈a,t∉Id):Apt w S a:=λk hk c t fr e hm=>b t hm ((h k hk).2 _ _ _ e)
def SPR.slc{w}{v}{ps}(h:SPR w v ps):∃b n c,v=.slice b n c:=by
 let⟨b,c,e⟩:=h.form;exact⟨b,_,c,e⟩
def Tld(w:Ϣ)(A:Nat)(t:Int):Prop:=∃p a n v c wr,w.heap[A]?=some (Bn p a n v c wr)/\a.told=t
def Tld.call{w}{A:Nat}{t:Int}(h:Tld w A t):Ω 126 #[ϖ A] w λe w'=>e=ϱ (ϊ t)/\w'=w:=by
 obtain⟨_,_,_,_,_,_,h,rfl⟩:=h;exact qH4 A w h
def Tld.lt{w}{A:Nat}{t:Int}(h:Tld w A t):A<w.heap.size:=by let⟨_,_,_,_,_,_,h,_⟩:=h;exact U h
def Tld.qM3{w w'}{A:Nat}{t:Int}{L}(h:Tld w A t)(hK:Kp L w w')(a:A∉L):Tld w' A t:=by let⟨_,_,_,_,_,_,h,e⟩:=h;exact⟨_,_,_,_,_,_,hK.heap h a,e⟩
def Tld.ne{w}{A B:Nat}{t:Int}{k:KF}(h:Tld w A t)(a:w.heap[B]?=some (kob k)):B≠A:=by let⟨_,_,_,_,_,_,h,_⟩:=h;exact υ a h dC
def Dn.tld{κ}{A N C:Nat}{l}{ws}{wr:Int}{q}{w}(h:Dn κ A N C l ws wr q w):Tld w A κ.told:=by let⟨p,v,c,h⟩:=h.at;exact⟨_,_,_,_,_,_,h,rfl⟩
def More(w:Ϣ)(A:Nat)(t:Int):Prop:=∃t',t<t'/\Tld w A t'
def More.qM4{w w'}{A:Nat}{t:Int}(h:More w A t)(hK:Kp [] w w'):More w' A t:=by let⟨t',a,b⟩:=h;exact⟨t',a,b.qM3 hK sM⟩
def ES(B:Nat)(k:KF)(t:Int)(w)(a:w.heap[B]?=some (kob k))(b:More w k.A t):
  Ω 196 #[ϖ B,ϊ 8,ϊ t] w λe w'=>e=ϱ (ϐ true)/\w'.heap[B]?=some (kob { k with po:=true })/\Kp [B] w w':=by
 let⟨t',d,b⟩:=b;have:=U a;have c:=Y a;simp[kob,zG,zH,zI]at c;have:=ρ a;go_enter func196,ntmps196;go_wp2_with fail;refine mR (show Calls _ _ _ _ _ from(hid (b.qM3 (L:=[B]) (kF.setCell sM (ϐ true)) (sU ((b.ne a).symm)) (w':=w.setCell (ϰ B 10) (ϐ true)))).call) ?_;rintro f rfl;go_wp2;go_ret;exact⟨rfl,ξ (hid a) 10 _,kF.sc _⟩
def LkT(B:Nat)(k:KF)(ko:ϩ)(a w':Ϣ):Prop:=(ioK ko=false/\Kp [] a w')\/(ioK ko=true/\Kp [B] a w'/\w'.heap[B]?=some (kob { k with po:=true }))
structure ChIn(w:Ϣ)(B tb:Nat)(td:Int)(k:KF)(f:TF)(ps:List KV):Prop where
 hB:w.heap[B]?=some (kob k)
 hA:Tld w k.A td
 hT:w.heap[tb]?=some (tob f)
 sp:SPR w f.v ps
 sz:ps.length<=70000
 g0:w.cell? (ϰ 0 0)=some Bd
 m0:0<=f.qN8
 m1:f.qN8<=100000
 c0:0<=f.chg
 c1:f.chg<=100000000
 s0:0<=f.stp
 s1:f.stp<=100000000
structure RmIn(w:Ϣ)(k:KF)(f:TF)(tbs:Ϥ)(fs:List (TF×Nat))(m:Nat):Prop where
 tf:TFs w k tbs fs
 hn:tbs.length<=100000
 hl:∀x∈fs,x.2<=100000
 kn:k.n<=100000
 len:m<=100000
 no:∃cb cl cc,k.c=.slice cb cl cc/\cl<=100000/\Ee k cl f.qN8 (m:Nat) (Bm k.com fs)=false
def Fu(a:Bool)(b c:Int)(A:Nat)(RM:Prop)(ko:ϩ)(w':Ϣ):Prop:=
 (a=true/\ko=some 7)\/(a=false/\b≠0/\ko=some b)\/(a=false/\b=0/\(ko=none\/(ko=some 3/\RM)\/(ioK ko=true/\More w' A c)))
def TF.step(f:TF)(v:Value)(m:Nat):TF:={ f with v:=v,chg:=f.chg+1,qN8:=if f.qN8<m then(m:Int) else f.qN8,stp:=f.stp+1 }
def IK(f:TF)(tb B:Nat)(k:KF)(R:ϩ->ϯ)(S:Ϥ)(b:List KV)(w w':Ϣ):Prop:=∃ko a,R ko a/\Kp S w a/\((ko=none/\k.po=false/\∃v',Kp [tb] a w'/\w'.heap[tb]?=some (tob (f.step v' b.length))/\SPR w' v' b)\/(ko≠none/\LkT B k ko a w'))
def IC(wr a:Bool)(k v):Bj wr a k v<1000:=by unfold Bj;repeat' split<;>try decide
def Ci{k:ϩ}(h:ioK k=true):Ce k=8/\k≠none:=by
 cases k with
 | none=>cases h
 | some j=>simp[ioK]at h;exact⟨if_neg oM,sM⟩
def DJ{j:Int}(h:j<1000):ioK (some j)=false/\Ce (some j)=j:=by refine⟨?_,if_pos h⟩;simp[ioK];omega
def QI{p:Prop}(_h:p:=by
 have hB2:=hK2.hp hB1;have hT2:=hK2.hp hT1;have hsp2:=az.qM4 hK2;have:=U hT2;have:=U hB2;have t1:=ϻ hT2 1;have:=ϻ hT2 2;have:=ϻ hT2 3;have:=ϻ hT2 4;have:=ϻ hT2 5;have:=ϻ hT2 6;have:=ϻ hT2 7;let⟨vb,vl,vc,hvv⟩:=hsp2.slc;rw[hvv]at t1;go_wp2_with (go_at_call 127;refine mR (BN _ _) ?_;rintro w2 rfl);exact Tz.out):p:=_h
def Tl(B tb:Nat)(F:Int)(k:KF)(f:TF)(tbs)(H:List (TF×Nat))(ps)(key val)(S)(R:ϩ->ϯ)(w)(hI:ChIn w B tb F k f ps)(hP:ProgS w S)(a1:Ω 34 #[ϖ f.x,ϕ key,ϕ val] w λe w'=>∃v ko,e=ϱ v/\ErrV w' v ko/\R ko w'/\Kp S w w')(a2:∀ko w',R ko w'->Fu k.po (Bj f.wr f.dn key val) F k.A (RmIn w k f tbs H (ins ⟨key,val⟩ ps).length) ko w'):
  Ω 132 #[ϖ B,ϖ tb,ϕ key,ϕ val,ϐ false] w λe w'=>e=ϱ (ϐ true)/\IK f tb B k R S (ins ⟨key,val⟩ ps) w w':=by
 have:=U hI.hB;have:=U hI.hT;have:=hI.hA.lt;have I:=hI.hB;have N:=hI.hT;have:=ϻ I 0;have:=ϻ N 0;clear I N;go_enter func132,ntmps132;go_wp2_with fail;refine hI.hA.call.mono ?_;rintro e w0 ⟨rfl,rfl⟩;go_wp2_with fail;refine(show Calls _ _ _ _ _ from a1).mono ?_;rintro e w1 ⟨v,ko,rfl,hv,hR,hK1⟩;have HC:=hid (a2 ko w1 hR);have hB1:=hP.stay hK1 hI.hB dC;have hT1:=hP.stay hK1 hI.hT dC;have az:=hI.sp.qM3 hK1 (hP.apt dC);have a3:=hP.g0 hK1 hI.g0 oM;have HR:=zh (n2 hR hK1);go_wp2_with fail;let⟨tk,htk⟩:=eY (Ce ko);refine(Dh v ko w1 a3 hv).mono ?_;rintro e w2 ⟨he,hK2⟩;rw[htk]at he;subst he;have HTK:=hid htk;have Tz:Hid (∀{p:Prop},(_h:p:=by
  refine mR (Pz (.slice vb vl vc) f.cs f.wr f.dn f.chg f.qN8 f.com f.stp key val _ ⟨_,_,_,rfl⟩) ?_;rintro w3 u;have hB3:=u.hp hB2;have ah:=u.hp hT2;have a7:=hsp2.qM4 u;have:=U hB3;have:=U ah;have C:=ϻ hB3 10;have j:=zh (hK2.tr u);have E:=IC f.wr f.dn key val;let⟨wc,ba⟩:=eY (Bj f.wr f.dn key val);have HC1:=HC.out;rw[ba]at HC1 E |-;rcases HC1 with⟨n,s⟩|⟨n,al,s⟩|⟨n,al,s⟩
  .subst s;obtain rfl:(7:Int)=tk:=HTK.out;rw[n]at C;go_wp2;go_ret;exact⟨sM,_,w1,HR.1,HR.2,.inr ⟨sM,.inl ⟨rfl,j⟩⟩⟩
  .subst s;obtain rfl:wc=tk:=(DJ E).2.symm.trans HTK.out;have HW:=hid (DJ E).1;rw[n]at C;go_wp2;go_ret;exact⟨sM,_,w1,HR.1,HR.2,.inr ⟨sM,.inl ⟨HW,j⟩⟩⟩
  subst al;have G:=hid n;rw[n]at C;have t1:=ϻ ah 1;rw[hvv]at t1;have a8:SPR w3 (.slice vb vl vc) ps:=by rw[<-hvv];exact a7
  have ad:=zh hI.sz;go_wp2_with fail;refine(PQ (.slice vb vl vc) ps ⟨key,val⟩ _ a8 (oW ad.out)).mono ?_;rintro e w4 ⟨v4,rfl,T,hK4⟩;have hT4:=hK4.hp ah;have:=U hT4;let⟨c,d,W⟩:=T.form;obtain⟨b,t⟩:∃b:Nat,(ins ⟨key,val⟩ ps).length=b:=⟨_,rfl⟩;rw[t]at W;subst W;have q:=zh (n3 T t hK4);rcases s with rfl|⟨rfl,a6⟩|⟨P,a5⟩
  .obtain rfl:(0:Int)=tk:=HTK.out;have t1:=ϻ hT4 1;have f1:=ρ hT4 1;go_wp2_with fail;let⟨V,a4,L⟩:=q.out;obtain⟨a,o,i,M,g⟩:∃a,a=(w4.setCell (ϰ tb 1) (.slice c b d)).alloc (ϲ #[.slice c b d] 126)/\a.heap[tb]?=some (tob { f with v:=.slice c b d })/\a.heap[w4.heap.size]?=some (ϲ #[.slice c b d] 126)/\Kp [tb] w4 a:=
    ⟨_,rfl,ν _ (ξ hT4 1 _),by have e:=μ (w4.setCell (ϰ tb 1) (.slice c b d)) (ϲ #[.slice c b d] 126);simpa using e,(kF.sc _).alloc _⟩
   rw[<-o];have x:Kp [tb] w3 a:=(L.mono sM).tr g;have a9:=V.qM3 g (Apt.one hT4 dC);clear o t1 f1 hT4 g V L q;have l:=zh (n3 x a9 a4);have:=U i;have:=U M;have t4:=Y i;simp[tob,zG,zH,zI]at t4;have:=ρ i;have:=ϻ M 0;have hw4:wrap64 (f.chg+1)=f.chg+1:=by have:=hI.c0;have:=hI.c1;simp[wrap64];omega
   have X:wrap64 (f.stp+1)=f.stp+1:=by have:=hI.s0;have:=hI.s1;simp[wrap64];omega
   by_cases hq:f.qN8<(b:Int)
   .have A:Hid (f.step (.slice c b d) (ins ⟨key,val⟩ ps).length={ f with v:=.slice c b d,qN8:=((b:Nat):Int),chg:=f.chg+1,stp:=f.stp+1 }):=by show _=_;rw[l.out.2.2,TF.step,if_pos hq]
    go_quiet (fail)
    go_wp2
    try rw[hw4,X]
    go_ret;have r:Kp [tb] a ((((a.drewN nq).setCell (ϰ tb 5) (ϊ b)).setCell (ϰ tb 4) (ϊ (f.chg+1))).setCell (ϰ tb 7) (ϊ (f.stp+1))):=((((Kp.refl _ a).drewN nq).sc _).sc _).sc _;refine⟨rfl,none,w1,HR.1,HR.2,.inl ⟨rfl,G,.slice c b d,((j.mono sM).tr l.1).tr r,?_,l.2.1.qM3 r (Apt.one i dC)⟩⟩;rw[A.out];exact ξ (ξ (ξ (show(a.drewN nq).heap[tb]?=_ from i) 5 _) 4 _) 7 _
   .have A:Hid (f.step (.slice c b d) (ins ⟨key,val⟩ ps).length={ f with v:=.slice c b d,chg:=f.chg+1,stp:=f.stp+1 }):=by show _=_;rw[l.out.2.2,TF.step,if_neg hq]
    go_quiet (fail)
    go_wp2
    try rw[hw4,X]
    go_ret;have r:Kp [tb] a (((a.drewN nq).setCell (ϰ tb 4) (ϊ (f.chg+1))).setCell (ϰ tb 7) (ϊ (f.stp+1))):=(((Kp.refl _ a).drewN nq).sc _).sc _;refine⟨rfl,none,w1,HR.1,HR.2,.inl ⟨rfl,G,.slice c b d,((j.mono sM).tr l.1).tr r,?_,l.2.1.qM3 r (Apt.one i dC)⟩⟩;rw[A.out];exact ξ (ξ (show(a.drewN nq).heap[tb]?=_ from i) 4 _) 7 _
  .obtain rfl:(3:Int)=tk:=HTK.out;have m:=hid a6;go_wp2_with fail;obtain⟨a,o,g⟩:∃a,a=w4.alloc (ϲ #[.slice c b d] 126)/\Kp [] w3 a:=⟨_,rfl,q.2.2.alloc _⟩;rw[<-o];let⟨cb,cl,cc,hc,hcl,D⟩:=m.out.no;have O:=((hP.tfs HR.2 m.tf).qM4 j).qM4 g;have K:=g.hp hB3;have i:=g.hp ah;have t:=q.out.2.1;have Q:=m.out.len;rw[t]at D Q;refine mR (OM B tb k f tbs H (b:Int) a K i O m.hn m.hl cb cl cc hc hcl hI.m0 hI.m1 oM oM m.kn) ?_;rintro Z y;have HE:=zh ((j.tr g).tr y);rw[D];clear D Q t O K g y;go_wp2;go_ret;exact⟨rfl,_,w1,HR.1,HR.2,.inr ⟨sM,.inl ⟨rfl,HE⟩⟩⟩
  .obtain rfl:(8:Int)=tk:=(Ci P).1.symm.trans HTK.out;have z:=hid (And.intro P a5);go_wp2_with fail;obtain⟨a,o,g⟩:∃a,a=w4.alloc (ϲ #[.slice c b d] 126)/\Kp [] w3 a:=⟨_,rfl,q.2.2.alloc _⟩;rw[<-o];have x:=j.out.tr g;refine mR (ES B k F a (g.hp hB3) (z.2.qM4 x)) ?_;rintro Z ⟨a0,y⟩;have HE:=hid (And.intro a0 ((x.mono sM).tr y:Kp [B] w1 Z));go_wp2;go_ret;exact⟨rfl,_,w1,HR.1,HR.2,.inr ⟨(Ci z.1).2,.inr ⟨z.1,HE.2,HE.1⟩⟩⟩)->p):=λh=>h;exact QI
def Tk(B tb:Nat)(X:Int)(k:KF)(f:TF)(co:Ϥ)(fs:List (TF×Nat))(ps:List KV)(key cn:Ϧ)(S:Ϥ)(R:ϩ->ϯ)(w:Ϣ)(hI:ChIn w B tb X k f ps)(hP:ProgS w S)(b7:Ω 28 #[ϖ f.x,ϕ key] w λe w'=>∃v ko,e=ϱ v/\ErrV w' v ko/\R ko w'/\Kp S w w')(a5:∀ko w',R ko w'->Fu k.po (Bj f.wr f.dn key ⟨#[]⟩) X k.A False ko w'):
  Ω 132 #[ϖ B,ϖ tb,ϕ key,ϕ cn,ϐ true] w λe w'=>e=ϱ (ϐ true)/\IK f tb B k R S (del key ps) w w':=by
 have:=U hI.hB;have:=U hI.hT;have:=hI.hA.lt;have hB:=hI.hB;have hT:=hI.hT;have b0:=ϻ hB 0;have t0:=ϻ hT 0;go_enter func132,ntmps132;go_wp2_with fail;refine hI.hA.call.mono ?_;rintro e w0 ⟨rfl,rfl⟩;go_wp2_with fail;apply(show Calls _ _ _ _ _ from b7).mono;rintro e w1 ⟨v,ko,rfl,hv,hR,hK1⟩;have Z:=hid (a5 ko w1 hR);have hB1:=hP.stay hK1 hI.hB dC;have hT1:=hP.stay hK1 hI.hT dC;have az:=hI.sp.qM3 hK1 (hP.apt dC);have b8:=hP.g0 hK1 hI.g0 oM;have HR:=zh (n2 hR hK1);clear b0 t0 hR;go_wp2_with fail;let⟨tk,htk⟩:=eY (Ce ko);apply(Dh v ko w1 b8 hv).mono;rintro e w2 ⟨he,hK2⟩;rw[htk]at he;subst he;have HTK:=hid htk;clear htk a5;have Tz:Hid (∀{p:Prop},(_h:p:=by
  apply mR (Pz (.slice vb vl vc) f.cs f.wr f.dn f.chg f.qN8 f.com f.stp key ⟨#[]⟩ _ ⟨_,_,_,rfl⟩);rintro w3 F;have hB3:=F.hp hB2;have ah:=F.hp hT2;have cl:=hsp2.qM4 F;have:=U hB3;have:=U ah;have P:=ϻ hB3 10;have o:=zh (hK2.tr F);have L:=IC f.wr f.dn key ⟨#[]⟩;let⟨wc,bb⟩:=eY (Bj f.wr f.dn key ⟨#[]⟩);have HC1:=Z.out;rw[bb]at HC1 L |-;clear Z bb;rcases HC1 with⟨r,y⟩|⟨r,al,y⟩|⟨r,al,y⟩
  .subst y;obtain rfl:(7:Int)=tk:=HTK.out;rw[r]at P;go_wp2;go_ret;exact⟨sM,_,w1,HR.1,HR.2,.inr ⟨sM,.inl ⟨rfl,o⟩⟩⟩
  .subst y;obtain rfl:wc=tk:=(DJ L).2.symm.trans HTK.out;have HW:=hid (DJ L).1;clear HTK L;rw[r]at P;go_wp2;go_ret;exact⟨sM,_,w1,HR.1,HR.2,.inr ⟨sM,.inl ⟨HW,o⟩⟩⟩
  subst al;have a0:=hid r;rw[r]at P;have t1:=ϻ ah 1;rw[hvv]at t1;have H:SPR w3 (.slice vb vl vc) ps:=by rw[<-hvv];exact cl
  have O:=zh hI.sz;go_wp2_with fail;apply(PQ (.slice vb vl vc) ps ⟨key,⟨#[]⟩⟩ _ H (oW O.out)).mono;rintro e w4 ⟨v4,rfl,V,hK4⟩;have hT4:=hK4.hp ah;have:=U hT4;let⟨D,E,a8⟩:=V.form;obtain⟨s,T⟩:∃s:Nat,(ins ⟨key,⟨#[]⟩⟩ ps).length=s:=⟨_,rfl⟩;rw[T]at a8;subst a8;have C:=zh (n3 V T hK4);clear V T hK4 t1;rcases y with rfl|⟨rfl,cc⟩|⟨a6,cb⟩
  .obtain rfl:(0:Int)=tk:=HTK.out;have t1:=ϻ hT4 1;rw[hvv]at t1;go_wp2_with fail;have:=H;obtain⟨j,z,b5,b3,q⟩:∃j,j=w4.alloc (ϲ #[.slice D s E] 126)/\Ϙ j tb (tob f)/\Ϙ j w4.heap.size (ϲ #[.slice D s E] 126)/\Kp [] w3 j:=
    ⟨_,rfl,ν _ hT4,μ _ _,C.2.2.alloc _⟩
   rw[<-z];have W:=H.qM4 q;have bs:=C.out.2.2.size;clear z t1;apply(PR (.slice vb vl vc) ps key _ W (oW O.out)).mono;rintro e A ⟨v6,rfl,I,l⟩;have hT4:=l.hp b5;have g:=l.hp b3;have:=U hT4;have:=U g;let⟨c,d,K⟩:=I.form;obtain⟨a,G⟩:∃a:Nat,(del key ps).length=a:=⟨_,rfl⟩;rw[G]at K;subst K;have ad:Hid (w4.heap.size≠tb):=by show w4.heap.size≠tb;omega
   have t:=zh (n3 I G (q.tr l));have t1:=ϻ hT4 1;have f1:=ρ hT4 1;have n0:=ϻ g 0;have g0:=ρ g 0;go_wp2_with fail;obtain⟨b,a9,m,a4,Q⟩:∃b,b=(A.setCell (ϰ w4.heap.size 0) (.slice c a d)).setCell (ϰ tb 1) (.slice c a d)/\Ϙ b tb (tob { f with v:=.slice c a d })/\Ϙ b w4.heap.size (ϲ #[.slice c a d] 126)/\Kp [tb,w4.heap.size] A b:=
    ⟨_,rfl,ξ ((AM (oW ad.out) _ _).trans hT4) 1 _,(AM (oW ad.out) _ _).trans (ξ g 0 _),(kF.sc _).sc _⟩
   rw[<-a9];let⟨a7,G,a3⟩:=t.out;have b2:Kp [tb] w3 b:=(a3.mono sM).trans Q (by intro i hi aa;have:=bs;simp at hi |-;omega);have cm:=a7.qM3 Q ((Apt.one hT4 dC).cons (Apt.one g dC));clear a9 t1 f1 n0 g0 Q a7 a3 t g hT4;have n:=zh (n3 b2 cm G);have:=U m;have:=U a4;have t4:=Y m;simp[tob,zG,zH,zI]at t4;have:=ρ m;have:=ϻ a4 0;have hw4:wrap64 (f.chg+1)=f.chg+1:=by have:=hI.c0;have:=hI.c1;simp[wrap64];omega
   have ba:wrap64 (f.stp+1)=f.stp+1:=by have:=hI.s0;have:=hI.s1;simp[wrap64];omega
   by_cases hq:f.qN8<(a:Int)
   .have N:Hid (f.step (.slice c a d) (del key ps).length={ f with v:=.slice c a d,qN8:=((a:Nat):Int),chg:=f.chg+1,stp:=f.stp+1 }):=by show _=_;rw[n.out.2.2,TF.step,if_pos hq]
    go_quiet (fail)
    go_wp2
    try rw[hw4,ba]
    go_ret;have u:Kp [tb] b ((((b.drewN nq).setCell (ϰ tb 5) (ϊ a)).setCell (ϰ tb 4) (ϊ (f.chg+1))).setCell (ϰ tb 7) (ϊ (f.stp+1))):=((((Kp.refl _ b).drewN nq).sc _).sc _).sc _;refine⟨rfl,none,w1,HR.1,HR.2,.inl ⟨rfl,a0,.slice c a d,((o.mono sM).tr n.1).tr u,?_,n.2.1.qM3 u (Apt.one m dC)⟩⟩;rw[N.out];exact ξ (ξ (ξ (show(b.drewN nq).heap[tb]?=_ from m) 5 _) 4 _) 7 _
   .have N:Hid (f.step (.slice c a d) (del key ps).length={ f with v:=.slice c a d,chg:=f.chg+1,stp:=f.stp+1 }):=by show _=_;rw[n.out.2.2,TF.step,if_neg hq]
    go_quiet (fail)
    go_wp2
    try rw[hw4,ba]
    go_ret;have u:Kp [tb] b (((b.drewN nq).setCell (ϰ tb 4) (ϊ (f.chg+1))).setCell (ϰ tb 7) (ϊ (f.stp+1))):=(((Kp.refl _ b).drewN nq).sc _).sc _;refine⟨rfl,none,w1,HR.1,HR.2,.inl ⟨rfl,a0,.slice c a d,((o.mono sM).tr n.1).tr u,?_,n.2.1.qM3 u (Apt.one m dC)⟩⟩;rw[N.out];exact ξ (ξ (show(b.drewN nq).heap[tb]?=_ from m) 4 _) 7 _
  .exact cc.elim
  .obtain rfl:(8:Int)=tk:=(Ci a6).1.symm.trans HTK.out;have M:=hid (And.intro a6 cb);have t1:=ϻ hT4 1;rw[hvv]at t1;go_wp2_with fail;obtain⟨j,z,b1,q⟩:∃j,j=w4.alloc (ϲ #[.slice D s E] 126)/\Ϙ j w4.heap.size (ϲ #[.slice D s E] 126)/\Kp [] w3 j:=⟨_,rfl,μ _ _,C.2.2.alloc _⟩;rw[<-z];have W:=H.qM4 q;have:=C.out.2.2.size;clear z t1;apply(PR (.slice vb vl vc) ps key _ W (oW O.out)).mono;rintro e A ⟨v6,rfl,I,l⟩;have g:=l.hp b1;have:=U g;let⟨c,d,K⟩:=I.form;rw[K];have:=ϻ g 0;have:=ρ g 0;obtain⟨a,ca⟩:∃a:Nat,(del key ps).length=a:=⟨_,rfl⟩;rw[ca];have t:=hid (show ∀x,Kp [] w1 (A.setCell (ϰ w4.heap.size 0) x) from λx=>(o.trans (q.tr l) sM).setCell (Or.inr (show w1.heap.size<=w4.heap.size by have:=o.out.size;omega)) _);have bl:=hid (show ∀x,(A.setCell (ϰ w4.heap.size 0) x).heap[B]?=some (kob k) from λx=>(AM (oW (U hB3)) _ _).trans ((q.tr l).hp hB3));go_wp2_with fail;refine mR (ES B k X _ (bl _) (M.2.qM4 (t _))) ?_;rintro w7 ⟨a1,a2⟩;have HE:=hid (And.intro a1 (((t _).mono sM).tr a2:Kp [B] w1 w7));clear a1 a2;go_wp2;go_ret;exact⟨rfl,_,w1,HR.1,HR.2,.inr ⟨(Ci M.1).2,.inr ⟨M.1,HE.2,HE.1⟩⟩⟩)->p):=λh=>h;exact QI
structure LkIn(w:Ϣ)(B tb:Nat)(td:Int)(k:KF)(f:TF)(ps:List KV):Prop where
 hB:w.heap[B]?=some (kob k)
 hA:Tld w k.A td
 hT:w.heap[tb]?=some (tob f)
 sp:SPR w f.v ps
 sz:ps.length<=70000
 g0:w.cell? (ϰ 0 0)=some Bd
def IR(a b c:Bool)(f:Int)(A:Nat)(d e:Prop)(ko:ϩ)(w':Ϣ):Prop:=
 (∃j,ko=some j/\d/\((a=true/\j=7)\/(a=false/\b=true/\j=5)\/(a=false/\b=false/\c=false/\j=1)))\/(a=false/\b=false/\c=true/\((ko=none/\e)\/(ioK ko=true/\More w' A f/\d)))
def QY(B:Nat)(k:KF)(R:ϩ->ϯ)(S:Ϥ)(w w':Ϣ):Prop:=∃ko a,R ko a/\Kp S w a/\LkT B k ko a w'
def zS9{p:Prop}(_h:p:=by
 have HR:=zh (n2 hR hK1);go_wp2_with fail;let⟨tk,htk⟩:=eY (Ce ko);apply(Dh v ko w1 (hP.g0 hK1 hI.g0 oM) hv).mono;rintro e w2 ⟨he,hK2⟩;rw[htk]at he;subst he;have HTK:=hid htk;have hB2:=hK2.hp (hP.stay hK1 hI.hB dC);have hT2:=hK2.hp (hP.stay hK1 hI.hT dC);have hsp2:=(hI.sp.qM3 hK1 (hP.apt dC)).qM4 hK2;have:=U hT2;have:=U hB2;have t1:=ϻ hT2 1;let⟨vb,vl,vc,hvv⟩:=hsp2.slc;rw[hvv]at t1;have hsp2':SPR w2 (.slice vb vl vc) ps:=by rw[<-hvv];exact hsp2
 exact Tz.out):p:=_h
def Wt(B tb:Nat)(td:Int)(k:KF)(f:TF)(ps)(key)(S)(R:ϩ->ϯ)(w)(hI:LkIn w B tb td k f ps)(hP:ProgS w S)(hcall:Ω 197 #[ϖ f.x,ϕ key] w λe w'=>∃v gv gb ko,e=ϱ (.tuple #[ϕ gv,ϐ gb,v])/\ErrV w' v ko/\IR k.po f.dn (Bx key) td k.A (gv=⟨#[]⟩/\gb=false) (FK ps key=.tuple #[ϕ gv,ϐ gb]) ko w'/\R ko w'/\Kp S w w'):
  Ω 133 #[ϖ B,ϖ tb,ϕ key] w λe w'=>e=ϱ (ϐ true)/\QY B k R S w w':=by
 have:=U hI.hB;have:=U hI.hT;have:=hI.hA.lt;have HCALL:=hid hcall;let⟨kb,hkb⟩:=eY (Bx key);obtain⟨g1,g2,hgr⟩:∃g1 g2,FK ps key=.tuple #[ϕ g1,ϐ g2]:=⟨_,_,rfl⟩;rw[hkb,hgr]at HCALL;have HKEY:Hid (∀w,Ω 198 #[ϕ key] w λe w'=>e=ϱ (ϐ kb)/\w'=w):=by have h:=PC key;rw[hkb]at h;exact h
 have:=ϻ hI.hB 0;have:=ϻ hI.hT 0;go_enter func133,ntmps133;go_wp2_with fail;apply hI.hA.call.mono;rintro e w0 ⟨rfl,rfl⟩;go_wp2_with fail;apply(show Calls _ _ _ _ _ from HCALL).mono;rintro e w1 ⟨v,gv,gb,ko,rfl,hv,hC,hR,hK1⟩;have Tz:Hid (∀{p:Prop},(_h:p:=by
  go_wp2_with (first | (go_at_call 127;apply mR (BN _ _);rintro w2 rfl) | (go_at_call 198;apply mR (HKEY _);rintro w2 rfl))
  apply mR (qA6 (.slice vb vl vc) ps key _ hsp2' (oW hI.sz));rintro w3 hK3;rw[hgr];have hB3:=hK3.hp hB2;have hT3:=hK3.hp hT2;have:=U hB3;have:=U hT3;have b10:=ϻ hB3 10;have t3:=ϻ hT3 3;have HK3:=zh (hK2.tr hK3);rcases(hid hC).out with⟨j,hko,⟨hgv,hgb⟩,hj⟩|⟨hpo,hdn,rfl,hko⟩
  .subst hko hgv hgb;have HIO:=hid (show ioK (some j)=false/\Ce (some j)=j from DJ oM);obtain rfl:j=tk:=HIO.out.2.symm.trans HTK.out;rcases hj with⟨hpo,rfl⟩|⟨hpo,hdn,rfl⟩|⟨hpo,hdn,rfl,rfl⟩
   .rw[hpo]at b10;go_wp2;go_ret;exact⟨sM,_,w1,HR.1,HR.2,.inl ⟨rfl,HK3⟩⟩
   all_goals
    rw[hpo]at b10;rw[hdn]at t3;go_wp2;go_ret;exact⟨sM,_,w1,HR.1,HR.2,.inl ⟨rfl,HK3⟩⟩
  rw[hpo]at b10;rw[hdn]at t3;rcases hko with⟨rfl,hfi⟩|⟨hio,hmo,rfl,rfl⟩
  .obtain rfl:(0:Int)=tk:=HTK.out;simp[Value.tuple.injEq,Array.mk.injEq,List.cons.injEq,Value.string.injEq,Value.bool.injEq,and_true]at hfi;obtain⟨rfl,rfl⟩:=hfi;by_cases hz:g1=⟨#[]⟩
   .subst hz;go_wp2;go_ret;exact⟨sM,_,w1,HR.1,HR.2,.inl ⟨rfl,HK3⟩⟩
   .go_wp2<;>(go_ret;exact⟨sM,_,w1,HR.1,HR.2,.inl ⟨rfl,HK3⟩⟩)
  .obtain rfl:(8:Int)=tk:=(Ci hio).1.symm.trans HTK.out;have HIO:=hid (And.intro hio hmo);go_wp2_with fail;apply mR (ES B k td w3 (hid hB3) (HIO.2.qM4 HK3));rintro w6 ⟨hB6,hK6⟩;have HE:=hid (And.intro hB6 ((HK3.mono sM).tr hK6:Kp [B] w1 w6));go_wp2;go_ret;exact⟨rfl,_,w1,HR.1,HR.2,.inr ⟨HIO.1,HE.2,HE.1⟩⟩)->p):=λh=>h;exact zS9
def BD(wr:Bool):List (TF×Nat)→Nat
 | []=>0
 | (f,_)::fs=>(if f.dn=false∧f.wr=wr then 1 else 0)+BD wr fs
def Mv(wr:Bool):∀a b:List (TF×Nat),BD wr (a++b)=BD wr a+BD wr b
 | [],b=>by simp[BD]
 | (f,l)::a,b=>by simp only[List.cons_append,BD,Mv wr a b];omega
def Mw(wr:Bool):∀a:List (TF×Nat),BD wr a<=a.length
 | []=>by simp[BD]
 | (f,l)::a=>by
  have:=Mw wr a;simp only[BD,List.length_cons];split<;>omega
def WL:(prog.info? 132).map (λi=>(i.zero,i.size,i.bytes))=some (some (ϗ none),1,8):=kR
def PL(w)(base g:Nat)(v)(n:Nat)(xs:Ϩ)(u)(t e ty)(z)(f:prog.underlying t=some (.slice e))(a:(prog.info? e).map (λi=>(i.zero,i.size,i.bytes))=some (some z,1,8))(o:z.cells.size=1)
  (h:w.ownsRow base e 1 v n xs) (x:n<=1000000) (d:w.heap[g]?=some (ϲ #[u] e)) (l:u.oneCell'=true) (c:base<=w.heap.size):
  ∃b w',Sem.run prog (Builtin.append_ #[t,t] ty #[v,.slice (some (ϰ g 0)) 1 1]) w=.ok b w'/\w'.ownsRow base e 1 b (n+1) (xs++[u])/\w.grownBy w' v.ownBlock/\∀k,b.ownBlock=some k->v.ownBlock=some k\/w.heap.size<=k:=by
 let⟨s,a,p,q,r⟩:=info_parts a;exact KI (P:=prog) w base t ty e s _ 1 8 f a p q r o dC v n _ h (ϰ g 0) 1 1 [u] sM (λj v m=>by
  rw[Br,Y d];simpa using m) (by simpa using l) (by unfold maxLen;omega) oM c
structure BgIn(w:Ϣ)(B:Nat)(td:Int)(k:KF)(Db base:Nat)(tbs:Ϥ)(fs:List (TF×Nat))(cb:Ϭ)(cl cc:Nat):Prop where
 hB:w.heap[B]?=some (kob k)
 hA:Tld w k.A td
 kx:k.x=some (ϰ Db 0)
 kc:k.c=.slice cb cl cc
 ts:TFs w k tbs fs
 row:w.ownsRow base 132 1 k.ts tbs.length (BK tbs)
 bas:base<=w.heap.size
 len:tbs.length<=100000
 g0:w.cell? (ϰ 0 0)=some Bd
def IJ(c a:Bool)(b:Nat)(d:Ϭ)(ko:ϩ):Prop:=
 (d=none/\((c=true/\ko=some 7)\/(c=false/\ko=some 4/\((a=true/\0<b)\/(a=false/\b=4)))))\/(c=false/\ko=none/\(∃x,d=some (ϰ x 0))/\((a=true/\b=0)\/(a=false/\b<4)))
def Bp{S}{w w'}{base n sz:Nat}{T}{v}{xs:Ϩ}(h:w.ownsRow base T sz v n xs)(hK:Kp S w w')(j:∀k c t b,w.heap[k]?=some (ϲ c t b)->k∈S->t≠T):w'.ownsRow base T sz v n xs:=by
 refine⟨h.1,?_⟩;rcases h.2 with d|⟨g,cap,cur,e,f,a,i⟩
 .exact .inl d
 .exact .inr ⟨g,cap,cur,e,f,hK.heap a (λl=>j g _ _ _ a l rfl),i⟩
def DP{w:Ϣ}{base n sz:Nat}{T:Ϯ}{v:Value}{xs:Ϩ}(h:w.ownsRow base T sz v n xs):∃b c,v=.slice b n c:=by
 rcases h.2 with⟨d,a⟩|⟨g,cap,cur,a,e⟩
 .exact⟨none,0,by rw[d,a]⟩
 .exact⟨_,cap,a⟩
def TF.born(k:KF)(x:Nat)(cl:Nat)(wrt:Bool):TF:=⟨x,k.c,wrt,false,0,cl,k.com,0,.slice none 0 0⟩
def QV(R:Ϭ->ϩ->ϯ)(S:Ϥ)(w w':Ϣ):Prop:=∃ko a,ko≠none/\R none ko a/\Kp S w a/\Kp [] a w'
def Ls(k:KF)(B base d:Nat)(e:Bool)(c:Ϥ)(R:Ϭ->ϩ->ϯ)(S:Ϥ)(w w':Ϣ):Prop:=
 ∃a x tb b L,R (some (ϰ x 0)) none a/\Kp S w a/\a.heap.size<=tb/\w'.heap[tb]?=some (tob (TF.born k x d e))/\w'.heap[B]?=some (kob { k with ts:=b })/\w'.ownsRow base 132 1 b (c.length+1) (BK (c++[tb]))/\Kp L a w'/\(∀i∈L,i=B\/k.ts.ownBlock=some i)/\∀i,b.ownBlock=some i->k.ts.ownBlock=some i\/a.heap.size<=i
def Sa(B:Nat)(td:Int)(k:KF)(Db base:Nat)(tbs)(r:List (TF×Nat))(cb)(b u:Nat)(q:Bool)(S)(R:Ϭ->ϩ->ϯ)(w)(D:BgIn w B td k Db base tbs r cb b u)(hP:ProgS w S)(a3:Ω 29 #[ϖ Db,ϐ q] w λe w'=>∃xo v ko,e=ϱ (.tuple #[ϗ xo,v])/\ErrV w' v ko/\IJ k.po q (BD q r) xo ko/\R xo ko w'/\Kp S w w'):
  Ω 82 #[ϖ B,ϐ q] w λe w'=>e=ϱ (ϐ true)/\(QV R S w w'\/Ls k B base b q tbs R S w w'):=by
 have Sz:Hid (∀{p:Prop},(_h:p:=by
  rw[<-au];refine hK.out _ _ H (λ_=>?_);clear hK K au
  try simp only[zZ]
  refine zP 19 m.heap.size 0 H ?_;refine zd ?_;have af:o.ownsRow base 132 1 k.ts tbs.length (BK tbs):=Bp (Bp aw.1 z.2 (λk' c t fr A G e=>absurd ((HP k' G).2 _ _ _ A) (by rw[e];decide))) (aj.tr ac) (λ_ _ _ _ _ h=>by cases h);have bu:=z.out.2.size;have bf:=aj.out.size;have bs:=aw.out.2;let⟨v',w6,bb,ap,ae,ba⟩:=PL (o.alloc (ϲ #[ϖ m.heap.size] 132)) base o.heap.size k.ts tbs.length (BK tbs) (ϖ m.heap.size) 127 132 127 (.pointer none) underlying127 WL rfl (World.ownsRow.alloc af _) oM (μ _ _) rfl sO;have a1:=Ds af ae an dC;have T:=Ds af ae H dC;let⟨b6,c6,bv⟩:=DP ap;subst bv;have bo:=zh ap;have bj:=zh ae;have bm:Hid (∀i,Value.ownBlock (.slice b6 (tbs.length+1) c6)=some i->k.ts.ownBlock=some i\/F.heap.size<=i):=λi L=>(ba i L).imp id (λh=>by simp at h;omega);have ax:=zh a1;have ai:=zh T;have bk:=zh ac;have bp:=zh bf;have b2:=U T;have b1:=U H;rw[ay.out]at bb;have Q:=ϻ H 11;rw[ay.out]at Q;have al:=ρ T 11;have cf:=ϻ T 11;clear a H T an a1 ap ae af ac bu bf bs bd ba
  go_wp2_with (at_builtin;(with_reducible refine CC ?_ ?_ bb ?_);rfl;rfl)
  go_ret;have br:Kp (B::k.ts.ownBlock.toList) m w6:=(((bk.mono sM).alloc _).grown bj (λi L=>Or.inl (by simp[L])));have bq:Kp (B::k.ts.ownBlock.toList) F (w6.setCell (ϰ B 11) (.slice b6 (tbs.length+1) c6)):=((aj.mono sM).trans br (λi L _=>L)).sc _;refine⟨sM,.inr ⟨F,x,m.heap.size,.slice b6 (tbs.length+1) c6,_,z.1,z.2,bp,?_,ξ ai 11 _,?_,bq,?_,bm⟩⟩
  .exact (AM (υ ax ai dC) _ _).trans ax
  .refine Bp (S:=[B]) (by rw[BK,List.map_append];exact bo) ((Kp.refl _ _).sc _) (λi c t fr A G=>?_);rw[List.mem_singleton.1 G,ai.out]at A;cases A;decide
  .intro i L;simpa using L)->p):=λh=>h
 have aw:=zh (n2 D.row D.bas);have b3:=U D.hB;have bw:=D.hA.lt;have y:=zh D;have HP:=zh hP;have hB:=D.hB;have a7:=D.kx;have bi:=hid a3;have b0:=ϻ hB 0;have b7:=ϻ hB 7;rw[a7]at b7;clear D hP hB a3 a7;go_enter func82,ntmps82;go_wp2_with fail;refine y.hA.call.mono ?_;rintro e w0 ⟨rfl,rfl⟩;go_wp2_with fail;refine(show Calls _ _ _ _ _ from bi).mono ?_;rintro e F ⟨xo,v,ko,rfl,hv,hC,O,V⟩;have HC:=hid hC;clear hC;have az:=HP.out.stay V y.hB dC;have a2:=HP.out.tfs V y.ts;have a5:=HP.out.g0 V y.g0 oM;have z:=zh (n2 O V);clear b0 b7 O;go_wp2_with fail;let⟨tk,aq⟩:=eY (Ce ko);refine(Dh v ko F a5 hv).mono ?_;rintro e w2 ⟨he,ab⟩;rw[aq]at he;subst he;have N:=hid aq;clear aq;have C:=ab.hp az;have ad:=a2.qM4 ab;let⟨p,c,ar,bc⟩:=ad.row;have bx:=U C;have b8:=ϻ C 8;have b9:=ϻ C 9;have P:=ϻ C 10;have Q:=ϻ C 11;have al:=ρ C 11;rw[ar]at Q;rw[y.out.kc]at b8;have ay:=zh ar;have HT:=zh ad;have bn:=zh bc;have bl:=zh ad.len;have ce:=y.out.len;have bh:=zh C;have aa:=zh ab;clear az a2 a5 V ab C hv ad bc ar
 go_wp2_with (go_at_call 127;refine(BN _ _).mono ?_;rintro e w2 ⟨rfl,rfl⟩)
 go_loopw [10,11] (λs i wr=>∃(j:Nat),j<=tbs.length/\i=.int .i64 j/\s=.int .i64 (BD q (r.take j):Nat)/\∃d,wr=w2.drewN d) (λ_ i _=>tbs.length-(intOf i).toNat)
 case atStart=>exact⟨0,Nat.zero_le _,rfl,rfl,0,rfl⟩
 case round=>
  obtain⟨j,hj,rfl,rfl,d,rfl⟩:=hrel;have a8:=bl.out;have Z:=Mw q (r.take j);have be:(r.take j).length=j:=sO
  rw[be]at Z;clear be;by_cases a9:j<tbs.length
  .have bt:(j:Int)<(tbs.length:Int):=oM
   have a6:j<r.length:=oM
   obtain⟨g,cur,rfl,O,a4⟩:=bn.out oM;let⟨I,vb,vc,hv⟩:=HT.out.at_ j a9 a6;have ag:BD q (r.take (j+1))=BD q (r.take j)+(if r[j].1.dn=false/\r[j].1.wr=q then 1 else 0):=by
    rw[List.take_succ_eq_append_getElem a6,Mv];simp[BD]
   obtain⟨⟨f,l⟩,hf⟩:∃f,r[j]=f:=⟨_,rfl⟩;let⟨tb,bg⟩:=eY (tbs[j]);have ao:=a4 j a9;rw[bg]at ao I;rw[hf]at I ag;simp only at I ag;have ak:=zh ag;generalize E:BD q (r.take j)=M at *;have cd:=U O;have b4:=U I;have r0:=Y O j;rw[ao]at r0;have t2:=ϻ I 2;have t3:=ϻ I 3;clear a4 O I ag hf bg ao E hv a8
   cases hdn:f.dn with
   | true=>
    rw[hdn]at t3;go_wp2;refine⟨⟨j+1,oM,by go_num,?_,_,rfl⟩,by simp[intOf];omega⟩;rw[ak.out,hdn];simp
   | false=>
    rw[hdn]at t3;by_cases X:f.wr=q
    .rw[X]at t2;go_wp2;refine⟨⟨j+1,oM,by go_num,?_,_,rfl⟩,by simp[intOf];omega⟩;rw[ak.out,hdn,if_pos ⟨rfl,X⟩]
     go_num
    .have b5:(f.wr == q)=false:=by simpa using X
     have ca:=decide_eq_false X;go_wp2;refine⟨⟨j+1,oM,by go_num,?_,_,rfl⟩,by simp[intOf];omega⟩;rw[ak.out,if_neg (λh=>X h.2)];simp
  have E:BD q (r.take j)=BD q r:=by rw[List.take_of_length_le oM]
  have bt:¬(j:Int)<(tbs.length:Int):=oM
  rw[E]at Z;rw[E];clear E a8;have av:=HC.out;clear HC;let⟨M,E⟩:=eY (BD q r);rw[E]at av Z |-;clear E;rcases av with⟨rfl,⟨hpo,rfl⟩|⟨hpo,rfl,h⟩⟩|⟨hpo,rfl,⟨x,rfl⟩,hfr⟩
  .obtain rfl:(7:Int)=tk:=N.out;rw[hpo]at P;clear hpo N;go_wp2;go_ret;exact⟨sM,.inl ⟨_,F,sM,z.1,z.2,aa.drewN _⟩⟩
  .obtain rfl:(4:Int)=tk:=N.out;rw[hpo]at P;clear hpo N;rcases h with⟨A,G⟩|⟨A,G⟩
   .have h3:(0:Int)<(M:Nat):=oM
    clear G;subst A;go_wp2;go_ret;exact⟨sM,.inl ⟨_,F,sM,z.1,z.2,aa.drewN _⟩⟩
   .subst A G;go_wp2;go_ret;exact⟨sM,.inl ⟨_,F,sM,z.1,z.2,aa.drewN _⟩⟩
  obtain rfl:(0:Int)=tk:=N.out;rw[hpo]at P;clear hpo N;obtain⟨m,ah,am,a0⟩:∃m,m=w2.drewN d/\m.heap[B]?=some (kob k)/\Kp [] F m:=⟨_,rfl,bh,aa.drewN _⟩;have aj:=zh a0;have bz:=U am;clear a0;rcases hfr with⟨rfl,rfl⟩|⟨rfl,hz⟩
  .go_wp2_with fail;rw[<-ah];clear ah b8 b9 P Q al Z;have a:=am;refine wp_region_held_drew (S:=λW=>W.heap[B]?=some (kob k)) kR a (λ_=>?_);refine zP 0 x 0 a ?_;refine zP 1 B 0 a ?_;refine zP 2 B 0 a ?_;refine zP 3 B 8 a ?_;refine zV 4 (.agg #[.slice cb b u]) rfl (λW n=>by have c:=ϻ n 8;rw[y.out.kc]at c;clear n;go_simp) a ?_;refine zU 5 (.bool true) a ?_;refine zP 6 B 0 a ?_;refine zP 7 B 0 a ?_;refine zP 8 B 8 a ?_;refine zP 9 B 8 a ?_;refine zV 10 (.slice cb b u) rfl (λW n=>by have c:=ϻ n 8;rw[y.out.kc]at c;clear n;go_simp) a ?_;refine zU 11 (ϊ b) a ?_;refine zP 12 B 0 a ?_;refine zP 13 B 0 a ?_;refine zP 14 B 9 a ?_;refine zV 15 (ϊ k.com) rfl (λW n=>by have c:=ϻ n 9;clear n;go_simp) a ?_;refine zU 16 (.agg #[.slice cb b u,.bool true,.bool false,ϊ 0,ϊ b,ϊ k.com,ϊ 0]) a ?_;refine zU 17 (.agg #[ϖ x,.slice cb b u,.bool true,.bool false,ϊ 0,ϊ b,ϊ k.com,ϊ 0,.slice none 0 0]) a ?_;refine zq 18 λK hK=>?_;go_simp;obtain⟨o,au,an,H,ac,bd⟩:∃o,o=World.drew (m.alloc (ϲ #[ϖ x,.slice cb b u,.bool true,.bool false,ϊ 0,ϊ b,ϊ k.com,ϊ 0,.slice none 0 0] 197))/\o.heap[m.heap.size]?=some (tob (TF.born k x b true))/\o.heap[B]?=some (kob k)/\Kp [] m o/\o.heap.size=m.heap.size+1:=
    ⟨_,rfl,by have e:=μ m (ϲ #[ϖ x,.slice cb b u,.bool true,.bool false,ϊ 0,ϊ b,ϊ k.com,ϊ 0,.slice none 0 0] 197);rw[TF.born,tob,y.out.kc];exact e,ν _ a,((Kp.refl _ m).alloc _).drew,show(m.alloc _).heap.size=_ by simp⟩
   exact Sz.out
  .have hz:¬(M:Int)=4:=oM
   go_wp2_with fail;rw[<-ah];clear ah b8 b9 P Q al Z;have a:=am;refine wp_region_held_drew (S:=λW=>W.heap[B]?=some (kob k)) kR a (λ_=>?_);refine zP 0 x 0 a ?_;refine zP 1 B 0 a ?_;refine zP 2 B 0 a ?_;refine zP 3 B 8 a ?_;refine zV 4 (.agg #[.slice cb b u]) rfl (λW n=>by have c:=ϻ n 8;rw[y.out.kc]at c;clear n;go_simp) a ?_;refine zU 5 (.bool false) a ?_;refine zP 6 B 0 a ?_;refine zP 7 B 0 a ?_;refine zP 8 B 8 a ?_;refine zP 9 B 8 a ?_;refine zV 10 (.slice cb b u) rfl (λW n=>by have c:=ϻ n 8;rw[y.out.kc]at c;clear n;go_simp) a ?_;refine zU 11 (ϊ b) a ?_;refine zP 12 B 0 a ?_;refine zP 13 B 0 a ?_;refine zP 14 B 9 a ?_;refine zV 15 (ϊ k.com) rfl (λW n=>by have c:=ϻ n 9;clear n;go_simp) a ?_;refine zU 16 (.agg #[.slice cb b u,.bool false,.bool false,ϊ 0,ϊ b,ϊ k.com,ϊ 0]) a ?_;refine zU 17 (.agg #[ϖ x,.slice cb b u,.bool false,.bool false,ϊ 0,ϊ b,ϊ k.com,ϊ 0,.slice none 0 0]) a ?_;refine zq 18 λK hK=>?_;go_simp;obtain⟨o,au,an,H,ac,bd⟩:∃o,o=World.drew (m.alloc (ϲ #[ϖ x,.slice cb b u,.bool false,.bool false,ϊ 0,ϊ b,ϊ k.com,ϊ 0,.slice none 0 0] 197))/\o.heap[m.heap.size]?=some (tob (TF.born k x b false))/\o.heap[B]?=some (kob k)/\Kp [] m o/\o.heap.size=m.heap.size+1:=
    ⟨_,rfl,by have e:=μ m (ϲ #[ϖ x,.slice cb b u,.bool false,.bool false,ϊ 0,ϊ b,ϊ k.com,ϊ 0,.slice none 0 0] 197);rw[TF.born,tob,y.out.kc];exact e,ν _ a,((Kp.refl _ m).alloc _).drew,show(m.alloc _).heap.size=_ by simp⟩
   exact Sz.out
end Go.Proofs.YtdohpenfkdckiaaGreatDoor
