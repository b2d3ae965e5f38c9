import Derived.Test.YtdohpenfkdckiaaGreatDoorJ15
import Derived.ChangeKeysEq
set_option linter.all false
set_option maxRecDepth 100000
set_option maxHeartbeats 20000000
namespace Go.Proofs.YtdohpenfkdckiaaGreatDoor
open Go.Proofs.Tryz
open Go.RowKit
theorem zJ1{α:Type}{R:α->Prop}{G:Prop}(h:∃ a,R a/\(R a->G)):G:=h.elim λ_ h=>h.2 h.1
theorem qX4{α:Type}(l:List α)(b N:Nat)(A B C:List α)(h:(l.drop b).take N=A++B++C):(l.drop (b+A.length)).take B.length=B:=by
 have c:(A++B++C).length<=N:=by rw[<-h];exact List.length_take_le _ _
 simp only[lA] at c;have a:=congrArg (λz=>(z.drop A.length).take B.length) h;simp only[List.drop_take,List.take_take,List.drop_drop,aA,List.drop_left,List.take_left] at a;rw[Nat.min_eq_left oM] at a;exact a
theorem qT3(bl)(o k:Nat)(xs:List Int)(c:∀ x∈xs,0<=x/\x<256)(d:xs.length=k)(h:(bl.drop o).take k=toB xs):∀ j,j<k->(enc bl)[o+j]?=some (.int .u8 (xs.getD j 0)):=by
 intro j b;have a:=congrArg (λz=>(qC0 z)[j]?) h;simp only[qC0,List.getElem?_map,List.getElem?_take,if_pos b,List.getElem?_drop] at a;unfold enc qC0;rw[zG,List.getElem?_map,a,<-List.getElem?_map];have e:=xB8 xs c;unfold qC0 at e;rw[e];unfold u8s;rw[List.getElem?_map,gQ oM,List.getD_eq_getElem?_getD,gQ oM];rfl
theorem jB0(bl)(a:Nat)(h)(k:h.key.size<=8)(i:(bl.drop a).take (φ h)=toB (qD9 h)):
  (∀ j,j<2->(enc bl)[a+j]?=some (.int .u8 ((qB5 2 h.b).getD j 0)))/\(∀ j,j<8->(enc bl)[a+2+j]?=some (.int .u8 ((qB5 8 h.s).getD j 0)))/\
  (enc bl)[a+10]?=some (.int .u8 (h.key.size:Int))/\qB0 (enc bl) (a+11) h.key.size=(qC0 h.key.data.toList).toArray:=by
 have g:h.key.data.toList.length=h.key.size:=Array.length_toList;have e:(bl.drop a).take (φ h)=toB (qB5 2 h.b)++toB (qB5 8 h.s)++toB [(h.key.size:Int)]++h.key.data.toList:=by
  rw[i,qD9,qI0,qI0,qI0,qS8]
 have c:(toB (qB5 2 h.b)).length=2:=by rw[qH5,qH9]
 have d:(toB (qB5 8 h.s)).length=8:=by rw[qH5,qH9]
 have f:(toB [(h.key.size:Int)]).length=1:=by rw[qH5];rfl
 refine⟨?_,?_,?_,?_⟩
 .have b:=qX4 bl a (φ h) [] (toB (qB5 2 h.b)) (toB (qB5 8 h.s)++toB [(h.key.size:Int)]++h.key.data.toList) (by rw[e];simp);rw[c] at b;exact qT3 bl a 2 _ (qK9 _ _) (qH9 _ _) b
 .have b:=qX4 bl a (φ h) (toB (qB5 2 h.b)) (toB (qB5 8 h.s)) (toB [(h.key.size:Int)]++h.key.data.toList) (by rw[e];simp);rw[c,d] at b;exact qT3 bl (a+2) 8 _ (qK9 _ _) (qH9 _ _) b
 .have b:=qX4 bl a (φ h) (toB (qB5 2 h.b)++toB (qB5 8 h.s)) (toB [(h.key.size:Int)]) (h.key.data.toList) (by rw[e]);rw[lA,c,d,f] at b;exact qT3 bl (a+10) 1 [(h.key.size:Int)] sO rfl b 0 oM
 .have b:=qX4 bl a (φ h) (toB (qB5 2 h.b)++toB (qB5 8 h.s)++toB [(h.key.size:Int)]) (h.key.data.toList) [] (by rw[e];simp);rw[lA,lA,c,d,f,g] at b;rw[qP2,b];rfl
theorem xN9(B base a:Nat)(bl)(h)(hs)(v)(w)(X:w.heap[B]?=some (.cells (enc bl) 288))(ay:bl.length=128)(hp:h.p=none)(hk:h.key.size<=8)(aw:0<=h.b)(ax:h.b<65536)(a6:0<=h.s)(q:h.s<18446744073709551616)(br:a+φ h<=128)
  (a3:(bl.drop a).take (φ h)=toB (qD9 h)) (hv:w.ownsRow base 87 4 v hs.length (qA9 hs)) (hb:base<=w.heap.size) (hl:hs.length<=1000):
  Calls prog 275 #[v,.slice (some ⟨B,a,none⟩) (128-a) (128-a)] w λe l=>∃ v' r,e=.returned (.tuple #[v',r,.bool true])/\(a+φ h<128->r=.slice (some ⟨B,a+φ h,none⟩) (128-(a+φ h)) (128-(a+φ h)))/\(∃ o,r=.slice (some ⟨B,o,none⟩) (128-(a+φ h)) (128-(a+φ h)))/\
   l.ownsRow base 87 4 v' (hs.length+1) (qA9 (hs++[h]))/\Below base w l/\StT 87 w l:=by
 obtain⟨m,hm⟩:=eX (128-a);obtain⟨b,aj⟩:∃ b:Nat,b=h.key.size:=⟨_,rfl⟩;have a7:φ h=11+b:=by rw[aj];rfl
 obtain⟨a4,a5,ak,al⟩:=jB0 bl a h hk a3;rw[<-aj] at ak al;have bs:h.ptr=none:=by simp[HL.ptr,hp]
 have bo:¬(m:Int)<11:=oM
 have bp:(10:Int)<(m:Int):=oM
 have b7:¬(m:Int)<2:=oM
 have b6:¬(m:Int)<10:=oM
 have bk:¬(8:Int)<(b:Int):=oM
 have bm:¬(m:Int)<11+(b:Int):=oM
 have bh:w.cell? ⟨B,a+10,none⟩=some (.int .u8 (b:Int)):=by rw[ξ X];exact ak
 have an:=zh (qP1 2 h.b oM aw (by simpa using ax));have ab:=zh (qP1 8 h.s oM a6 (by simpa using q));have bv:IntKind.i64.wrap h.b=h.b:=by rw[IntKind.wrap_i64];omega
 have ap:=zh a4;have ad:=zh a5;have aq:=zh al;have y:Hid (m=128-a/\a+(11+b)<=128):=⟨hm,oM⟩;have V:=zh X;have HV:=zh hv;have bb:=zh ay;have b2:=ζ X;rw[<-hm,a7];clear a3 hv X hm a4 a5 ak al br ay aw ax a6 q hk aj hp a7;go_enter func275,ntmps275;go_wp2_with fail;have bq:¬m=2:=oM
 have b4:a+11+b<=(enc bl).size:=by rw[qH1,bb.out];have:=y.out;omega
 rename_i K0 ar;have p:Ϙ w.drew B (.cells (enc bl) 288):=V.out;refine zJ1 (R:=λA=>∀ W,Ϙ W w.heap.size (.cells #[ϊ h.b,.int .u64 h.s] 84)->Ϙ W B (.cells (enc bl) 288)->Kp [] w W->W.heap.size=w.heap.size+1->K0 A W) ?_;apply Exists.intro;apply And.intro
 rotate_left
 .intro HREST;refine wp_region_held_drew (S:=λW=>Ϙ W B (.cells (enc bl) 288)) kR p (λ_=>?_);refine zU 0 (.slice (some ⟨B,a,none⟩) m m) p ?_;refine zU 1 (.slice (some ⟨B,a,none⟩) 2 m) p ?_;refine zU 4 (.slice (some ⟨B,a,none⟩) m m) p ?_;refine zU 5 (.slice (some ⟨B,a+2,none⟩) 8 (m-2)) p ?_;refine zr 2 8 (λK hK=>?_) λK hK=>?_
  .skip
   go_simp;refine (qW7 B a 2 m (qB5 2 h.b) w.drew (qH9 _ _) oM (λj u=>(ξ p (a+j)).trans (ap j u))).mono ?_;rintro e l ⟨rfl,k⟩;rw[k,an.out];clear k l;refine zk hK p ?_
   refine zU 3 (ϊ h.b) p ?_;refine zr 6 8 (λK hK=>?_) λK hK=>?_
   .skip
    go_simp;refine (qW7 B (a+2) 8 (m-2) (qB5 8 h.s) w.drew (qH9 _ _) oM (λj u=>(ξ p (a+2+j)).trans (ad j u))).mono ?_;rintro e l ⟨rfl,k⟩;rw[k,ab.out];clear k l;refine zk hK p ?_
    refine zU 7 (.agg #[ϊ h.b,.int .u64 h.s]) p ?_;refine zq 8 λK hK=>?_;go_simp;obtain⟨d,E,i,f,C,q⟩:∃ d,d=(w.alloc (.cells #[ϊ 0,.int .u64 0] 84)).drew/\Ϙ d w.heap.size (.cells #[ϊ 0,.int .u64 0] 84)/\Ϙ d B (.cells (enc bl) 288)/\Kp [] w d/\d.heap.size=w.heap.size+1:=
     ⟨_,rfl,υ w _,ρ _ V,((Kp.refl _ _).alloc _).drew,sM⟩
    rw[<-E];clear E;refine zk hK f ?_
    refine zq 9 λK hK=>?_;have L:=ξ i;have G:=ψ i;have U:=ζ i;have z:=zh i;have x:=zh f;clear i f;go_simp;obtain⟨c,F,s,n,H,I⟩:∃ c,c=(d.setCell ⟨w.heap.size,0,none⟩ (ϊ h.b)).setCell ⟨w.heap.size,1,none⟩ (.int .u64 h.s)/\Ϙ c w.heap.size (.cells #[ϊ h.b,.int .u64 h.s] 84)/\Ϙ c B (.cells (enc bl) 288)/\Kp [] w c/\c.heap.size=w.heap.size+1:=
     ⟨_,rfl,μ (μ z 0 _) 1 _,(qB2 oM _ _).trans ((qB2 oM _ _).trans x),(C.setCell (Or.inr (Nat.le_refl _)) _).setCell (Or.inr (Nat.le_refl _)) _,by simp[q]⟩
    rw[<-F];clear F L G;refine hK.out _ _ n (λ_=>?_);clear hK K C q z x U;refine zd ?_
    try simp only[zZ]
    exact HREST c s n H I
   .skip
    go_simp;obtain⟨d,E,i,f,C,q⟩:∃ d,d=(w.alloc (.cells #[ϊ 0,.int .u64 0] 84)).drew/\Ϙ d w.heap.size (.cells #[ϊ 0,.int .u64 0] 84)/\Ϙ d B (.cells (enc bl) 288)/\Kp [] w d/\d.heap.size=w.heap.size+1:=
     ⟨_,rfl,υ w _,ρ _ V,((Kp.refl _ _).alloc _).drew,sM⟩
    rw[<-E];clear E;refine zk hK f ?_
    refine zq 6 λK hK=>?_;go_simp;refine (qW7 B (a+2) 8 (m-2) (qB5 8 h.s) d (qH9 _ _) oM (λj u=>(ξ f (a+2+j)).trans (ad j u))).mono ?_;rintro e l ⟨rfl,k⟩;rw[k,ab.out];clear k l;refine zk hK f ?_
    refine zU 7 (.agg #[ϊ h.b,.int .u64 h.s]) f ?_;refine zq 9 λK hK=>?_;have L:=ξ i;have G:=ψ i;have U:=ζ i;have z:=zh i;have x:=zh f;clear i f;go_simp;obtain⟨c,F,s,n,H,I⟩:∃ c,c=(d.setCell ⟨w.heap.size,0,none⟩ (ϊ h.b)).setCell ⟨w.heap.size,1,none⟩ (.int .u64 h.s)/\Ϙ c w.heap.size (.cells #[ϊ h.b,.int .u64 h.s] 84)/\Ϙ c B (.cells (enc bl) 288)/\Kp [] w c/\c.heap.size=w.heap.size+1:=
     ⟨_,rfl,μ (μ z 0 _) 1 _,(qB2 oM _ _).trans ((qB2 oM _ _).trans x),(C.setCell (Or.inr (Nat.le_refl _)) _).setCell (Or.inr (Nat.le_refl _)) _,by simp[q]⟩
    rw[<-F];clear F L G;refine hK.out _ _ n (λ_=>?_);clear hK K C q z x U;refine zd ?_
    try simp only[zZ]
    exact HREST c s n H I
  .skip
   go_simp;obtain⟨d,E,i,f,C,q⟩:∃ d,d=(w.alloc (.cells #[ϊ 0,.int .u64 0] 84)).drew/\Ϙ d w.heap.size (.cells #[ϊ 0,.int .u64 0] 84)/\Ϙ d B (.cells (enc bl) 288)/\Kp [] w d/\d.heap.size=w.heap.size+1:=
    ⟨_,rfl,υ w _,ρ _ V,((Kp.refl _ _).alloc _).drew,sM⟩
   rw[<-E];clear E;refine zk hK f ?_
   refine zq 2 λK hK=>?_;go_simp;refine (qW7 B a 2 m (qB5 2 h.b) d (qH9 _ _) oM (λj u=>(ξ f (a+j)).trans (ap j u))).mono ?_;rintro e l ⟨rfl,k⟩;rw[k,an.out];clear k l;refine zk hK f ?_
   refine zU 3 (ϊ h.b) f ?_;refine zq 6 λK hK=>?_;go_simp;refine (qW7 B (a+2) 8 (m-2) (qB5 8 h.s) d (qH9 _ _) oM (λj u=>(ξ f (a+2+j)).trans (ad j u))).mono ?_;rintro e l ⟨rfl,k⟩;rw[k,ab.out];clear k l;refine zk hK f ?_
   refine zU 7 (.agg #[ϊ h.b,.int .u64 h.s]) f ?_;refine zq 9 λK hK=>?_;have L:=ξ i;have G:=ψ i;have U:=ζ i;have z:=zh i;have x:=zh f;clear i f;go_simp;obtain⟨c,F,s,n,H,I⟩:∃ c,c=(d.setCell ⟨w.heap.size,0,none⟩ (ϊ h.b)).setCell ⟨w.heap.size,1,none⟩ (.int .u64 h.s)/\Ϙ c w.heap.size (.cells #[ϊ h.b,.int .u64 h.s] 84)/\Ϙ c B (.cells (enc bl) 288)/\Kp [] w c/\c.heap.size=w.heap.size+1:=
    ⟨_,rfl,μ (μ z 0 _) 1 _,(qB2 oM _ _).trans ((qB2 oM _ _).trans x),(C.setCell (Or.inr (Nat.le_refl _)) _).setCell (Or.inr (Nat.le_refl _)) _,by simp[q]⟩
   rw[<-F];clear F L G;refine hK.out _ _ n (λ_=>?_);clear hK K C q z x U;refine zd ?_
   try simp only[zZ]
   exact HREST c s n H I
 intro c s n H I;refine ar _ _ ?_;clear ar K0 bh bo bp bk bm bv bq;go_wp2_with fail;have b3:=ζ s;have bw:(0:Int)<=11+(b:Int):=oM
 have bx:(11:Int)<=11+(b:Int):=oM
 have bz:¬(m:Int)<11+(b:Int):=by have:=y.out;omega
 have b0:(11:Int)+(b:Int)<=(m:Int):=by have:=y.out;omega
 have b1:((11:Int)+(b:Int)).toNat=11+b:=oM
 have cb:IntKind.i64.wrap (11+(b:Int))=11+(b:Int):=by rw[IntKind.wrap_i64];have:=y.out;omega
 have ca:11+b-11=b:=oM
 obtain⟨o7,a0⟩:=eX (if m=11 then a else a+11)
 obtain⟨o8,a1⟩:=eX (if m=11+b then a else a+(11+b))
 have ac:=zh a0;have ao:=zh a1;clear a0 a1;have bn:o7+b<=(enc bl).size:=by
  rw[ac.out];have:=y.out;split<;>omega
 have bf:Hid (qB0 (enc bl) o7 b=(qC0 h.key.data.toList).toArray):=by
  show _=_;rw[ac.out];split
  .rename_i he;have bu:b=0:=by have:=y.out;omega
   have h:=aq.out;rw[bu] at h |-;rw[<-h];simp[qB0]
  .exact aq
 have t:Ϙ c.drew w.heap.size (.cells #[ϊ h.b,.int .u64 h.s] 84)/\Ϙ c.drew B (.cells (enc bl) 288):=⟨s,n⟩;refine wp_region_held_drew (S:=λW=>Ϙ W w.heap.size (.cells #[ϊ h.b,.int .u64 h.s] 84)/\Ϙ W B (.cells (enc bl) 288)) kR t (λ_=>?_);refine zU 0 (.slice (some ⟨B,a,none⟩) m m) t ?_;refine zU 1 (ϊ b) t ?_;refine zU 2 (ϊ (11+(b:Int))) t ?_;refine zV 3 (.slice (some ⟨B,o7,none⟩) b (m-11)) rfl (λW N=>by clear N;go_simp;rw[ac.out];split<;>rfl) t ?_;refine zV 4 (.string h.key) rfl (λW N=>by have h:=zT2 (cap:=m-11) N.2 bn bf.out;clear N;go_simp) t ?_;refine zW 5 (.agg #[ϊ h.b,.int .u64 h.s]) t (·.1) ?_;refine zU 6 (.agg #[.string h.key,ϊ h.b,.int .u64 h.s,.pointer none]) t ?_;refine zq 7 λK hK=>?_;go_simp;obtain⟨J,a8,M,ai,ae,au,bt⟩:∃ J,J=(c.alloc (.cells ϙ 87)).drew/\Ϙ J c.heap.size (.cells ϙ 87)/\Ϙ J w.heap.size (.cells #[ϊ h.b,.int .u64 h.s] 84)/\Ϙ J B (.cells (enc bl) 288)/\Kp [] w J/\J.heap.size=c.heap.size+1:=
  ⟨_,rfl,υ c _,ρ _ s,ρ _ n,(H.alloc _).drew,sM⟩
 rw[<-a8];clear a8;rw[I] at M bt;refine hK.out _ _ ⟨ai,ae⟩ (λ_=>?_);clear hK K t
 try simp only[zZ]
 refine zq 8 λK hK=>?_;have L:=ξ M;have G:=ψ M;have bj:=ζ M;have am:=zh M;have aa:=zh (n2 ai ae);clear M ai ae;go_simp;have az:=qU0 (.string h.key) (ϊ h.b) (.int .u64 h.s) (.pointer none) am.out;obtain⟨O,a9,ag,Q⟩:=gE az;rw[<-a9];clear a9 az L G;have bi:=au.tr Q;have b8:=Q.size;refine hK.out _ _ ⟨Q.hp aa.1,Q.ho aa.2⟩ (λ_=>?_);refine zd ?_
 try simp only[zZ]
 clear aa am au Q bj;go_wp2_with fail;have D:O.drew.heap[w.heap.size+1]?=some (.cells #[.string h.key,ϊ h.b,.int .u64 h.s,.pointer none] 87):=ag;refine wp_region_held_drew (S:=λW=>W.heap[w.heap.size+1]?=some (.cells #[.string h.key,ϊ h.b,.int .u64 h.s,.pointer none] 87)) kR D (λ_=>?_);refine zU 0 v D ?_;refine zW 1 (.agg #[.string h.key,ϊ h.b,.int .u64 h.s,.pointer none]) D id ?_;refine zU 4 (.slice (some ⟨B,a,none⟩) m m) D ?_;refine zU 5 (ϊ b) D ?_;refine zU 6 (ϊ (11+(b:Int))) D ?_;refine zV 7 (.slice (some ⟨B,o8,none⟩) (m-(11+b)) (m-(11+b))) rfl (λW N=>by clear N;go_simp;rw[ao.out];split<;>rfl) D ?_;refine zq 2 λK hK=>?_;go_simp;obtain⟨P,ba,av,ah,af,b9⟩:∃ P,P=(O.alloc (.cells #[.string h.key,ϊ h.b,.int .u64 h.s,.pointer none] 87)).drew/\Ϙ P O.heap.size (.cells #[.string h.key,ϊ h.b,.int .u64 h.s,.pointer none] 87)/\P.heap[w.heap.size+1]?=some (.cells #[.string h.key,ϊ h.b,.int .u64 h.s,.pointer none] 87)/\Kp [] w P/\P.heap.size=O.heap.size+1:=
  ⟨_,rfl,υ O _,ρ _ ag,(bi.alloc _).drew,sM⟩
 rw[<-ba];clear ba;refine hK.out _ _ ah (λ_=>?_);clear hK K D
 try simp only[zZ]
 have Z:=qI5 HV af (Apt.nil _ _);refine zq 3 λK hK=>?_;refine zB8 rfl rfl (.agg #[.string ⟨#[]⟩,ϊ 0,.int .u64 0,.pointer none]) 4 40 underlying156 qV8 rfl dC base v hs.length (qA9 hs) (by simp[Act.eval]) Z O.heap.size 0 1 1 #[.string h.key,ϊ h.b,.int .u64 h.s,.pointer none] 87 (0,0) (by simp[Act.eval]) av sM (by simp[qB0,Value.oneCell']) oM oM oM ?_;intro v6 w6 a2 Y _;have T:w6.heap[w.heap.size+1]?=some (.cells #[.string h.key,ϊ h.b,.int .u64 h.s,.pointer none] 87):=by
  refine (Y.block _ oM ?_).trans ah;rcases HV.2 with⟨rfl,_⟩|⟨g,cap,cur,rfl,_,hh,_⟩
  .simp[Value.ownBlock]
  .intro e;simp only[Value.ownBlock,Option.some.injEq] at e;have:=ζ hh;omega
 have be:Hid (w6.ownsRow base 87 4 v6 (hs.length+1) (qA9 (hs++[h]))):=by
  have e:qA9 (hs++[h])=qA9 hs++(qB0 #[.string h.key,ϊ h.b,.int .u64 h.s,.pointer none] 0 (1*4)).toList:=by simp[qA9,lcs,qB0,bs]
  show World.ownsRow _ _ _ _ _ _ _;rw[e];exact a2
 have bd:=zh ((af.below hb sM).grown Y oM (qI4 Z));have bg:=zh (((StT.refl _ w).kp af).grown Z Y);refine hK.out _ _ T (λ_=>?_);clear hK K a2 Y Z
 try simp only[zZ]
 refine zq 8 λK hK=>?_;go_simp;refine zk hK T ?_
 refine zq 9 λK hK=>?_;go_simp;refine zk hK T ?_
 refine zq 10 λK hK=>?_;go_simp;refine zk hK T ?_
 refine zd ?_;have bc:Hid (a+(11+b)<128->(Value.slice (some ⟨B,o8,none⟩) (m-(11+b)) (m-(11+b)))=.slice (some ⟨B,a+(11+b),none⟩) (128-(a+(11+b))) (128-(a+(11+b)))):=by
  intro b5;have h1:=y.out;rw[ao.out,if_neg oM,show m-(11+b)=128-(a+(11+b)) from by omega]
 clear T av ah ag s n;go_wp2
 go_ret3
 refine⟨v6,_,rfl,bc,⟨o8,?_⟩,be,bd,bg⟩;show Value.slice (some ⟨B,o8,none⟩) (m-(11+b)) (m-(11+b))=_;rw[show m-(11+b)=128-(a+(11+b)) from by have:=y.out;omega]
theorem xD4{α:Type}(f:α->List Int)(g:α->Nat)(a:∀ x,(f x).length=g x)(l:List α)(j:Nat)(h:j<l.length):l.flatMap f=(l.take j).flatMap f++f l[j]++(l.drop (j+1)).flatMap f:=by
 conv=>lhs;rw[<-tD j l,fA,dG h,fC]
 rw[aA]
theorem zA6{α:Type}(g:α->Nat)(l:List α)(j:Nat)(h:j<l.length):meas g (l.take j)+g l[j]<=meas g l:=by
 have a:=qL3 g l j h;have b:=qN7 g l (j+1);omega
theorem jV9(ps)  (j:Nat) (h:j<ps.length):((toB (qA3 0 ps [])).drop (2+meas θ (ps.take j))).take (θ ps[j])=toB (qD7 ps[j]):=by
 have e:toB (qA3 0 ps [])=toB ([(0:Int),((ps.length:Nat):Int)]++(ps.take j).flatMap qD7)++toB (qD7 ps[j])++toB ((ps.drop (j+1)).flatMap qD7++List.replicate (128-(2+meas θ ps)) 0):=by
  rw[<-qI0,<-qI0]
  congr 1
  simp only[qA3,qL5,List.flatMap_nil,aN,List.length_nil,Nat.add_zero,Nat.zero_add,qD1]
  conv=>lhs;rw[xD4 qD7 θ (λp=>by first | exact qU6 p | exact qT9 p) ps j h]
  simp only[aA]
 have b:(toB ([(0:Int),((ps.length:Nat):Int)]++(ps.take j).flatMap qD7)).length=2+meas θ (ps.take j):=by
  rw[qH5,lA,zF1 qD7 θ (λp=>by first | exact qU6 p | exact qT9 p)];rfl
 have c:(toB (qD7 ps[j])).length=θ ps[j]:=by
  rw[qH5]
  first | exact qU6 _ | exact qT9 _
 have a:=qX4 (toB (qA3 0 ps [])) 0 (toB (qA3 0 ps [])).length _ _ _ (by rw[dZ,List.take_length];exact e);rw[b,c,Nat.zero_add] at a;exact a
theorem jV8(ps)(a:Int)(f:0<a)(g:a<256)(j:Nat)(h:j<ps.length):((toB (qA3 a [] ps)).drop (2+meas φ (ps.take j))).take (φ ps[j])=toB (qD9 ps[j]):=by
 have e:toB (qA3 a [] ps)=toB ([(a:Int),((ps.length:Nat):Int)]++(ps.take j).flatMap qD9)++toB (qD9 ps[j])++toB ((ps.drop (j+1)).flatMap qD9++List.replicate (128-(2+meas φ ps)) 0):=by
  rw[<-qI0,<-qI0]
  congr 1
  simp only[qA3,qL5,List.flatMap_nil,aN,List.length_nil,Nat.add_zero,Nat.zero_add,qD1]
  conv=>lhs;rw[xD4 qD9 φ (λp=>by first | exact qU6 p | exact qT9 p) ps j h]
  simp only[aA]
 have c:(toB ([(a:Int),((ps.length:Nat):Int)]++(ps.take j).flatMap qD9)).length=2+meas φ (ps.take j):=by
  rw[qH5,lA,zF1 qD9 φ (λp=>by first | exact qU6 p | exact qT9 p)];rfl
 have d:(toB (qD9 ps[j])).length=φ ps[j]:=by
  rw[qH5]
  first | exact qU6 _ | exact qT9 _
 have b:=qX4 (toB (qA3 a [] ps)) 0 (toB (qA3 a [] ps)).length _ _ _ (by rw[dZ,List.take_length];exact e);rw[c,d,Nat.zero_add] at b;exact b
theorem zY7(d:Nat)(x:Int)(W):(Op.equalIn (d+1) 5 (.int .u8 x) (.int .u8 x)).run prog W=.ok true W:=by
 simp[Op.equalIn,run_underlying underlying5]
theorem jP8(d:Nat)(E)(b:allBytes E)(W):∀ a:List Nat,(∀ i∈a,i<E.size)->(Op.eqItems (d+1) 5 1 E E a).run prog W=.ok true W:=by
 intro a
 induction a with
 | nil=>intro _;rfl
 | cons i a ih=>
  intro h;have f:=h i sM;obtain⟨x,k⟩:=b E[i] sM;have c:E[i*1]?=some (.int .u8 x):=by rw[Nat.mul_one,Array.getElem?_eq_getElem f,k]
  simp only[Op.eqItems,Sem.run_bind,run_part_plain W (P:=prog) (e:=5) kR c,Result.andThen_ok,zY7,Bool.not_true,Bool.false_eq_true,if_false];exact ih (λj g=>h j (by simp[g]))
theorem zY2(E)(c:E.size=128)(b:allBytes E)(W):Sem.run prog (Op.equalIn 10000 288 (.agg E) (.agg E)) W=.ok true W:=by
 obtain⟨d,a,_⟩:=info_parts Tryz.info5;have h:=run_equalIn_array (P:=prog) W 9999 E E underlying288 a;refine Eq.trans h ?_;rw[show prog.cellsOf 5=1 from by kernel_rfl];exact jP8 9998 E b W _ (λi a=>by rw[c];simpa using a)
theorem kA8(ps)  (w) (R:∀ p∈ps,qC3 p) (P:2+meas θ ps<=128) (hn:ps.length<=126):
  Calls prog 257 #[.agg (enc (toB (qA3 0 ps [])))] w λe T=>∃ q v,e=.returned (.tuple #[.pointer (some ⟨q,0,none⟩),.bool true])/\T.heap[q]?=some (.cells #[.int .i64 0,v,.slice none 0 0] 213)/\w.heap.size<=q/\
   T.ownsRow w.heap.size 185 2 v ps.length (qA4 ps)/\Kp [] w T:=by
 have ag:=qG5 0 ps [] oM oM sO R sM;have x:=zh (qQ0 0 ps [] (by simpa [qD1] using P));obtain⟨f,N⟩:∃ f:Nat,f=ps.length:=⟨_,rfl⟩;have O:=qT3 (toB (qA3 0 ps [])) 0 128 (qA3 0 ps []) ag x.out (by rw[dZ,tL (by rw[qH5];exact Nat.le_of_eq x.out)]);have b0:(enc (toB (qA3 0 ps [])))[0]?=some (.int .u8 0):=O 0 oM;have b1:(enc (toB (qA3 0 ps [])))[1]?=some (.int .u8 (f:Int)):=by
  rw[N];have h:=O 1 oM;simpa [qA3,qL5] using h
 have ah:(enc (toB (qA3 0 ps []))).size=128:=by rw[qH1,qH5];exact x.out
 obtain⟨E,g⟩:=eX (enc (toB (qA3 0 ps [])));have d:Hid (E=enc (toB (qA3 0 ps []))/\E.size=128):=⟨g,by rw[g];exact ah⟩;rw[<-g] at b0 b1;rw[<-g];have U:=zh N;have G:=zh R;have V:=zh P;clear O N ag R P ah g;go_enter func257,ntmps257;go_wp2_with fail;have ac:=ρ (.cells #[ϊ 0,.slice none 0 0,.slice none 0 0] 213) (υ w (.cells E 288));have J:=υ (w.alloc (.cells E 288)) (.cells #[ϊ 0,.slice none 0 0,.slice none 0 0] 213);rw[show (w.alloc (.cells E 288)).heap.size=w.heap.size+1 from by simp] at J;have ad:Kp [] w ((w.alloc (.cells E 288)).alloc (.cells #[ϊ 0,.slice none 0 0,.slice none 0 0] 213)):=(kF.alloc _).alloc _;have av:∀ o:Nat,2+meas θ (ps.take 0)=o->o=2:=λo h=>by rw[<-h];simp[qD1]
 go_loopw [5,6,15] (λr o i wr=>∃ (j a:Nat) (s:Value),j<=ps.length/\i=.int .u8 j/\o=.bool true/\Hid (a=2+meas θ (ps.take j))/\Hid (a<128->r=.slice (some ⟨w.heap.size,a,none⟩) (128-a) (128-a))/\Hid (Ϙ wr w.heap.size (.cells E 288))/\Hid (wr.heap[w.heap.size+1]?=some (.cells #[ϊ 0,s,.slice none 0 0] 213))/\Hid (wr.ownsRow w.heap.size 185 2 s j (qA4 (ps.take j)))/\Hid (Kp [] w wr)) (λ_ _ i _=>ps.length-(intOf i).toNat)
 case atStart=>exact⟨0,2,.slice none 0 0,zL _,rfl,rfl,by show _=_;simp[qD1],λ_=>rfl,ac,J,by show World.ownsRow _ _ _ _ _ _ _;exact wN _ _ _ _,ad⟩
 case round=>
  obtain⟨j,a,s,hj,rfl,rfl,D,HR,B,u,Y,C⟩:=hrel;clear ac J ad av b0 b1;by_cases m:j<ps.length
  .have ay:(j:Int)<(f:Int):=by have:=U.out;omega
   have az:=G.out ps[j] (gM m);have a4:=zA6 θ ps j m;have a5:a+θ ps[j]<=128:=by have:=D.out;have:=V.out;omega
   have a1:0<θ ps[j]:=by unfold θ;omega
   have hr:=HR.out oM;subst hr;have am:Hid (((toB (qA3 0 ps [])).drop a).take (θ ps[j])=toB (qD7 ps[j])):=by show _=_;rw[D.out];exact jV9 ps  j m
   have y:=u.out;have a3:=ζ y;have n0:=ξ y;have au:=ψ y 1;clear y;go_wp2_with fail;have ab:Ϙ wr w.heap.size (.cells (enc (toB (qA3 0 ps []))) 288):=by rw[<-d.out.1];exact B.out
   refine (xO0 w.heap.size w.heap.size a (toB (qA3 0 ps [])) ps[j] (ps.take j) _ wr ab (by rw[qH5];exact x.out) az oM am.out (by rw[lK,Nat.min_eq_left oM];exact Y.out) (by have:=C.out.size;omega) (by rw[lK];omega)).mono ?_;rintro e A ⟨v1,r1,rfl,aj,_,n,af,Q⟩;have z:(ps.take j).length=j:=by rw[lK,Nat.min_eq_left oM]
   rw[z] at n;obtain⟨g1,ar,rfl⟩:=qL7 n;have ak:=(tA m).symm;rw[ak] at n;have k:=Q _ _ _ _ u.out dC;have aa:=Q _ _ _ _ B.out dC;have a2:=ζ k;have m1:=ϻ k 1;have a0:=ψ k 1;have X:=zh k;have al:=zh aa;have ao:=zh n;have an:=zh (Kp.of_below ((C.out.below lR sM).trans af) lR);have aq:=zh aj;have ap:Hid (a+θ ps[j]=2+meas θ (ps.take (j+1))):=by show _=_;rw[qL3 θ ps j m,D.out];omega
   have a6:IntKind.u8.wrap ((j:Int)+1)=(j:Int)+1:=by rw[IntKind.wrap_u8];omega
   clear k aa n af Q aj n0 au ak z ab;go_wp2;have I:Kp [w.heap.size+1] A (A.setCell ⟨w.heap.size+1,1,none⟩ (.slice (some ⟨g1,0,none⟩) (j+1) ar)):=kF.sc _;exact⟨⟨j+1,a+θ ps[j],_,oM,by go_num,rfl,ap,aq,I.hp al.out,μ X.out 1 _,qI5 ao.out I (λq hq c t fr e=>by rw[mS hq,X.out] at e;cases e;decide),an.out.tr I⟩,by simp[intOf];omega⟩
  .have ay:¬(j:Int)<(f:Int):=by have:=U.out;omega
   have ai:ps.take j=ps:=tL oM;have z:j=ps.length:=oM
   have L:=Y.out;rw[ai,z] at L;have Z:=zh L;clear ai L;go_wp2_with fail;have b:Ϙ wr.drew w.heap.size (.cells E 288):=B.out;refine wp_region_held_drew (S:=λW=>Ϙ W w.heap.size (.cells E 288)) kR b (λ_=>?_);refine zU 0 (ϖ (w.heap.size+1)) b ?_;refine zU 1 (ϖ (w.heap.size+1)) b ?_;refine zV 3 (.agg E) rfl (λW M=>qP6 (t:=288) rfl kR 128 kR w.heap.size rfl M d.out.2) b ?_;refine zq 2 λK hK=>?_;go_simp;refine (qY3 (w.heap.size+1) 0 s (.slice none 0 0) ps [] wr.drew u.out oM oM (qJ3 Z.out) ⟨rfl,Or.inl ⟨rfl,none,0,rfl,λ_=>rfl⟩⟩ (by simpa [qD1] using V.out) sO G.out sM).mono ?_;rintro e A ⟨rfl,H⟩;have l:=H.hp b;refine hK.out _ _ l (λ_=>?_);have ax:(u8s (qA3 0 ps [])).toArray=E:=by rw[d.out.1,enc,<-qX5 _ (qG5 0 ps [] oM oM sO G.out sM)]
   rw[ax]
   try simp only[zZ]
   have aw:allBytes E:=by rw[d.out.1];exact qJ4 _
   refine zV 4 (.bool true) rfl (λW M=>by have h:=zY2 E d.out.2 aw W;clear M;go_simp) l ?_;refine zq 5 λK hK=>?_;go_simp;refine zk hK l ?_
   refine zq 6 λK hK=>?_;go_simp;refine zk hK l ?_
   refine zd ?_;have ae:Kp [] wr A:=((Kp.refl _ wr).drew).tr H;have F:=zh ae;clear ae H l b;go_wp2
   go_ret2
   exact⟨w.heap.size+1,s,rfl,F.out.hp u.out,oM,qI5 Z.out F.out (Apt.nil _ _),C.out.tr F.out⟩
theorem kA6(ps)(a:Int)(a1:0<a)(F:a<256)(w)(X:∀ p∈ps,p.p=none/\p.key.size<=8/\0<=p.b/\p.b<65536/\0<=p.s/\p.s<18446744073709551616)(U:2+meas φ ps<=128)(hn:ps.length<=126):
  Calls prog 257 #[.agg (enc (toB (qA3 a [] ps)))] w λe Y=>∃ q v,e=.returned (.tuple #[.pointer (some ⟨q,0,none⟩),.bool true])/\Y.heap[q]?=some (.cells #[.int .i64 a,.slice none 0 0,v] 213)/\w.heap.size<=q/\
   Y.ownsRow w.heap.size 87 4 v ps.length (qA9 ps)/\Kp [] w Y:=by
 have ai:=qG5 a [] ps oM F sO sM (λp d=>(X p d).2.1);have B:=zh (qQ0 a [] ps (by simpa [qD1] using U));obtain⟨m,R⟩:∃ m:Nat,m=ps.length:=⟨_,rfl⟩;have T:=qT3 (toB (qA3 a [] ps)) 0 128 (qA3 a [] ps) ai B.out (by rw[dZ,tL (by rw[qH5];exact Nat.le_of_eq B.out)]);have b0:(enc (toB (qA3 a [] ps)))[0]?=some (.int .u8 a):=T 0 oM;have b1:(enc (toB (qA3 a [] ps)))[1]?=some (.int .u8 (m:Int)):=by
  rw[R];have h:=T 1 oM;simpa [qA3,qL5] using h
 have aj:(enc (toB (qA3 a [] ps))).size=128:=by rw[qH1,qH5];exact B.out
 obtain⟨E,n⟩:=eX (enc (toB (qA3 a [] ps)));have l:Hid (E=enc (toB (qA3 a [] ps))/\E.size=128):=⟨n,by rw[n];exact aj⟩;rw[<-n] at b0 b1;rw[<-n];have Z:=zh R;have f:=zh X;have HM:=zh U;clear T R ai X U aj n;go_enter func257,ntmps257;go_wp2_with fail;have ae:=ρ (.cells #[ϊ a,.slice none 0 0,.slice none 0 0] 213) (υ w (.cells E 288));have O:=υ (w.alloc (.cells E 288)) (.cells #[ϊ a,.slice none 0 0,.slice none 0 0] 213);rw[show (w.alloc (.cells E 288)).heap.size=w.heap.size+1 from by simp] at O;have af:Kp [] w ((w.alloc (.cells E 288)).alloc (.cells #[ϊ a,.slice none 0 0,.slice none 0 0] 213)):=(kF.alloc _).alloc _;have ax:∀ o:Nat,2+meas φ (ps.take 0)=o->o=2:=λo h=>by rw[<-h];simp[qD1]
 go_loopw [5,6,15] (λr o i wr=>∃ (j b:Nat) (z:Value),j<=ps.length/\i=.int .u8 j/\o=.bool true/\Hid (b=2+meas φ (ps.take j))/\Hid (b<128->r=.slice (some ⟨w.heap.size,b,none⟩) (128-b) (128-b))/\Hid (Ϙ wr w.heap.size (.cells E 288))/\Hid (wr.heap[w.heap.size+1]?=some (.cells #[ϊ a,.slice none 0 0,z] 213))/\Hid (wr.ownsRow w.heap.size 87 4 z j (qA9 (ps.take j)))/\Hid (Kp [] w wr)) (λ_ _ i _=>ps.length-(intOf i).toNat)
 case atStart=>exact⟨0,2,.slice none 0 0,zL _,rfl,rfl,by show _=_;simp[qD1],λ_=>rfl,ae,O,by show World.ownsRow _ _ _ _ _ _ _;exact wN _ _ _ _,af⟩
 case round=>
  obtain⟨j,b,z,hj,rfl,rfl,J,HR,H,A,HO,I⟩:=hrel;clear ae O af ax b0 b1;by_cases x:j<ps.length
  .have a0:(j:Int)<(m:Int):=by have:=Z.out;omega
   have k:=f.out ps[j] (gM x);have a6:=zA6 φ ps j x;have a7:b+φ ps[j]<=128:=by have:=J.out;have:=HM.out;omega
   have a3:0<φ ps[j]:=by unfold φ;omega
   have hr:=HR.out oM;subst hr;have ao:Hid (((toB (qA3 a [] ps)).drop b).take (φ ps[j])=toB (qD9 ps[j])):=by show _=_;rw[J.out];exact jV8 ps a a1 F j x
   have C:=A.out;have a5:=ζ C;have n0:=ξ C;have aw:=ψ C 2;clear C;go_wp2_with fail;have ad:Ϙ wr w.heap.size (.cells (enc (toB (qA3 a [] ps))) 288):=by rw[<-l.out.1];exact H.out
   refine (xN9 w.heap.size w.heap.size b (toB (qA3 a [] ps)) ps[j] (ps.take j) _ wr ad (by rw[qH5];exact B.out) k.1 k.2.1 k.2.2.1 k.2.2.2.1 k.2.2.2.2.1 k.2.2.2.2.2 oM ao.out (by rw[lK,Nat.min_eq_left oM];exact HO.out) (by have:=I.out.size;omega) (by rw[lK];omega)).mono ?_;rintro e G ⟨v1,r1,rfl,al,_,y,ah,V⟩;have D:(ps.take j).length=j:=by rw[lK,Nat.min_eq_left oM]
   rw[D] at y;obtain⟨g1,av,rfl⟩:=qL7 y;have am:=(tA x).symm;rw[am] at y;have s:=V _ _ _ _ A.out dC;have ac:=V _ _ _ _ H.out dC;have a4:=ζ s;have m1:=ϻ s 2;have a2:=ψ s 2;have aa:=zh s;have an:=zh ac;have aq:=zh y;have ap:=zh (Kp.of_below ((I.out.below lR sM).trans ah) lR);have au:=zh al;have ar:Hid (b+φ ps[j]=2+meas φ (ps.take (j+1))):=by show _=_;rw[qL3 φ ps j x,J.out];omega
   have a8:IntKind.u8.wrap ((j:Int)+1)=(j:Int)+1:=by rw[IntKind.wrap_u8];omega
   clear s ac y ah V al n0 aw am D ad;go_wp2;have N:Kp [w.heap.size+1] G (G.setCell ⟨w.heap.size+1,2,none⟩ (.slice (some ⟨g1,0,none⟩) (j+1) av)):=kF.sc _;exact⟨⟨j+1,b+φ ps[j],_,oM,by go_num,rfl,ar,au,N.hp an.out,μ aa.out 2 _,qI5 aq.out N (λq hq c t fr e=>by rw[mS hq,aa.out] at e;cases e;decide),ap.out.tr N⟩,by simp[intOf];omega⟩
  .have a0:¬(j:Int)<(m:Int):=by have:=Z.out;omega
   have ak:ps.take j=ps:=tL oM;have D:j=ps.length:=oM
   have P:=HO.out;rw[ak,D] at P;have ab:=zh P;clear ak P;go_wp2_with fail;have g:Ϙ wr.drew w.heap.size (.cells E 288):=H.out;refine wp_region_held_drew (S:=λW=>Ϙ W w.heap.size (.cells E 288)) kR g (λ_=>?_);refine zU 0 (ϖ (w.heap.size+1)) g ?_;refine zU 1 (ϖ (w.heap.size+1)) g ?_;refine zV 3 (.agg E) rfl (λW Q=>qP6 (t:=288) rfl kR 128 kR w.heap.size rfl Q l.out.2) g ?_;refine zq 2 λK hK=>?_;go_simp;refine (qY3 (w.heap.size+1) a (.slice none 0 0) z [] ps wr.drew A.out oM F ⟨rfl,Or.inl ⟨rfl,none,0,rfl,λ_=>rfl⟩⟩ (qJ3 ab.out) (by simpa [qD1] using HM.out) sO sM (λp d=>⟨(f.out p d).2.1,(f.out p d).2.2.1,by have:=(f.out p d).2.2.2.1;omega,(f.out p d).2.2.2.2.1⟩)).mono ?_;rintro e G ⟨rfl,M⟩;have u:=M.hp g;refine hK.out _ _ u (λ_=>?_);have az:(u8s (qA3 a [] ps)).toArray=E:=by rw[l.out.1,enc,<-qX5 _ (qG5 a [] ps oM F sO sM (λp d=>(f.out p d).2.1))]
   rw[az]
   try simp only[zZ]
   have ay:allBytes E:=by rw[l.out.1];exact qJ4 _
   refine zV 4 (.bool true) rfl (λW Q=>by have h:=zY2 E l.out.2 ay W;clear Q;go_simp) u ?_;refine zq 5 λK hK=>?_;go_simp;refine zk hK u ?_
   refine zq 6 λK hK=>?_;go_simp;refine zk hK u ?_
   refine zd ?_;have ag:Kp [] wr G:=((Kp.refl _ wr).drew).tr M;have L:=zh ag;clear ag M u g;go_wp2
   go_ret2
   exact⟨w.heap.size+1,z,rfl,L.out.hp A.out,oM,qI5 ab.out L.out (Apt.nil _ _),I.out.tr L.out⟩
variable {κ:Nat}
theorem zS6(V A n C:Nat)(g o:Int)(i:Nat)(l)(ps)  (w) (hV:w.heap[V]?=some (qE4 A n)) (h:w.heap[A]?=some (qA6 κ n C (.slice none 0 0) g o))
  (hi:i<n) (hn:n<=1000) (R:w.heap[C]?=some (.cells (enc l) 115)) (hs:n*128<=l.length) (ao:C≠A) (ap:V≠A) (ac:ω l i=toB (qA3 0 ps [])) (I:∀ p∈ps,qC3 p) (H:2+meas θ ps<=128) (aq:ps.length<=126):
  Calls prog 217 #[.pointer (some ⟨V,0,none⟩),.agg #[.int .i64 i,.int .u64 (fnv (qA3 0 ps []))]] w λe f=>∃ q v,e=.returned (.tuple #[.pointer (some ⟨q,0,none⟩),.bool true])/\f.heap[q]?=some (.cells #[.int .i64 0,v,.slice none 0 0] 213)/\w.heap.size<=q/\
   f.ownsRow w.heap.size 185 2 v ps.length (qA4 ps)/\f.heap[A]?=some (qA6 κ n C (.slice none 0 0) (nx g) o)/\Kp [A] w f:=by
 have ad:=qG5 0 ps [] oM oM sO I sM;have u:=qQ0 0 ps [] (by simpa [qD1] using H);obtain⟨E,r⟩:=eX (enc (toB (qA3 0 ps [])));have y:E.size=128:=by rw[r,qH1,qH5];exact u
 have ae:=qT3 (toB (qA3 0 ps [])) 0 128 (qA3 0 ps []) ad u (by rw[dZ,tL (by rw[qH5];exact Nat.le_of_eq u)]);have L:Hid (∀ W,Kp [] w W->Ω 247 #[ϖ V,ϊ i] W λe f=>e=ϱ (.agg E)/\Ϙ f A (qA6 κ n C (.slice none 0 0) (nx g) o)/\Kp [A] W f):=λW hK=>by
  have h:=zH1 V A n C g o i l W (hK.hp hV) (hK.hp h) hi hn (hK.hp R) hs ao ap;rw[ac,<-r] at h;exact h
 have am:=zh (λW=>by
  have h:=kA8 ps  W I H aq;rw[<-r] at h;exact h)
 obtain⟨S,s⟩:=eX (fnv (qA3 0 ps []));have an:Hid (∀ W b cap,Ϙ W b (.cells E 288)->Ω 251 #[.slice (some ⟨b,0,none⟩) 128 cap] W λe f=>e=ϱ (.int .u64 S)/\f=W):=λW b cap hb=>by
  rw[s];refine zB9 b 0 128 cap (qA3 0 ps []) W u oM (λj hj=>?_);rw[ξ hb,r];exact ae j hj
 rw[<-s];have T:∀ v∈E.toList,v.oneCell'=true:=by rw[r];exact (qJ4 _).one
 have J:=zh y;have av:=ζ h;clear ae s r ad u I H ac hs R hV h;go_enter func217,ntmps217;go_wp2_with fail;obtain⟨w0,ai,Z,D,aw⟩:=qD5 w (.cells #[ϊ (i:Int),.int .u64 S] 84);rw[<-ai];clear ai;refine (L w0 D).mono ?_;rintro e c ⟨rfl,M,z⟩;have aa:=z.ho Z;have U:Kp [A] w c:=(D.mono sM).tr z;have ax:=z.size;clear z Z D L;go_wp2_with fail;have G:=υ c (.cells zeroCells288 288);rw[qQ3 G (by simp[qK4,y]) T];rw[show E.toList.toArray=E from by simp,qO7 (by rw[qK4,y])];obtain⟨d,aj,x,ab,N,X,ay⟩:∃ d,d=(c.alloc (.cells zeroCells288 288)).setRow c.heap.size E/\Ϙ d c.heap.size (.cells E 288)/\Ϙ d w.heap.size (.cells #[ϊ (i:Int),.int .u64 S] 84)/\Ϙ d A (qA6 κ n C (.slice none 0 0) (nx g) o)/\Kp [A] w d/\d.heap.size=c.heap.size+1:=
  ⟨_,rfl,setRow_heap _ _ _ _ _ _ G,(setRow_other _ _ _ _ oM).trans (ρ _ aa),(setRow_other _ _ _ _ oM).trans (ρ _ M),(U.alloc _).setRow (Or.inr oM) _,sM⟩
 rw[<-aj];clear aj G aa M y T;go_wp2_with fail;have k:Ϙ d.drew c.heap.size (.cells E 288)/\Ϙ d.drew w.heap.size (.cells #[ϊ (i:Int),.int .u64 S] 84):=⟨x,ab⟩;refine wp_region_held_drew (S:=λW=>Ϙ W c.heap.size (.cells E 288)/\Ϙ W w.heap.size (.cells #[ϊ (i:Int),.int .u64 S] 84)) kR k (λ_=>?_);refine zU 0 (.slice (some ⟨c.heap.size,0,none⟩) 128 128) k ?_;refine zP 2 w.heap.size 1 k ?_;refine zV 3 (.int .u64 S) rfl (λW s=>by have a:=ϻ s.2 1;clear s;go_simp) k ?_;refine zq 1 λK hK=>?_;go_simp;refine (an d.drew c.heap.size 128 x).mono ?_;rintro e f ⟨rfl,ah⟩;rw[ah];clear ah f;refine zk hK k ?_
 refine zU 4 (.bool false) k ?_;refine zd ?_;obtain⟨m,ak,Q,O,Y,az⟩:∃ m,m=d.drew/\Ϙ m c.heap.size (.cells E 288)/\Ϙ m A (qA6 κ n C (.slice none 0 0) (nx g) o)/\Kp [A] w m/\m.heap.size=d.heap.size:=⟨_,rfl,x,N,X.drew,rfl⟩;rw[<-ak];have ar:qB0 E 0 128=E:=by rw[<-J.out];simp[qB0,tL]
 clear ak k x ab N X U
 go_wp2_with (
  with_reducible refine qV2 (t:=288) ?_ 128 ?_ c.heap.size 0 ?_ E 288 (0,0) ?_ ?_ ?_
  .kernel_rfl
  .kernel_rfl
  .rfl
  .exact Q
  .have:=J.out;omega)
 refine (am m).mono ?_;rintro e B ⟨q,v,rfl,ag,au,af,F⟩;have P:=F.hp O;have al:Hid (Ϙ B q (.cells #[ϊ 0,v,.slice none 0 0] 213)/\w.heap.size<=q/\B.ownsRow w.heap.size 185 2 v ps.length (qA4 ps)/\Ϙ B A (qA6 κ n C (.slice none 0 0) (nx g) o)/\Kp [A] w B):=⟨ag,oM,qL0 af oM,P,Y.tr F⟩;clear ag au af F P O Q Y ar;go_wp2
 go_ret2
 exact⟨q,v,rfl,al⟩
theorem zS5(V A n C:Nat)(k r:Int)(i:Nat)(l)(ps)(c:Int)(au:0<c)(ag:c<256)(w)(hV:w.heap[V]?=some (qE4 A n))(h:w.heap[A]?=some (qA6 κ n C (.slice none 0 0) k r))
  (hi:i<n) (hn:n<=1000) (T:w.heap[C]?=some (.cells (enc l) 115)) (hs:n*128<=l.length) (aq:C≠A) (ar:V≠A) (ad:ω l i=toB (qA3 c [] ps)) (J:∀ p∈ps,p.p=none/\p.key.size<=8/\0<=p.b/\p.b<65536/\0<=p.s/\p.s<18446744073709551616) (I:2+meas φ ps<=128) (av:ps.length<=126):
  Calls prog 217 #[.pointer (some ⟨V,0,none⟩),.agg #[.int .i64 i,.int .u64 (fnv (qA3 c [] ps))]] w λe g=>∃ q v,e=.returned (.tuple #[.pointer (some ⟨q,0,none⟩),.bool true])/\g.heap[q]?=some (.cells #[.int .i64 c,.slice none 0 0,v] 213)/\w.heap.size<=q/\
   g.ownsRow w.heap.size 87 4 v ps.length (qA9 ps)/\g.heap[A]?=some (qA6 κ n C (.slice none 0 0) (nx k) r)/\Kp [A] w g:=by
 have ae:=qG5 c [] ps oM ag sO sM (λp hp=>(J p hp).2.1);have x:=qQ0 c [] ps (by simpa [qD1] using I);obtain⟨E,s⟩:=eX (enc (toB (qA3 c [] ps)));have z:E.size=128:=by rw[s,qH1,qH5];exact x
 have af:=qT3 (toB (qA3 c [] ps)) 0 128 (qA3 c [] ps) ae x (by rw[dZ,tL (by rw[qH5];exact Nat.le_of_eq x)]);have M:Hid (∀ W,Kp [] w W->Ω 247 #[ϖ V,ϊ i] W λe g=>e=ϱ (.agg E)/\Ϙ g A (qA6 κ n C (.slice none 0 0) (nx k) r)/\Kp [A] W g):=λW hK=>by
  have h:=zH1 V A n C k r i l W (hK.hp hV) (hK.hp h) hi hn (hK.hp T) hs aq ar;rw[ad,<-s] at h;exact h
 have ao:=zh (λW=>by
  have h:=kA6 ps c au ag W J I av;rw[<-s] at h;exact h)
 obtain⟨S,u⟩:=eX (fnv (qA3 c [] ps));have ap:Hid (∀ W b cap,Ϙ W b (.cells E 288)->Ω 251 #[.slice (some ⟨b,0,none⟩) 128 cap] W λe g=>e=ϱ (.int .u64 S)/\g=W):=λW b cap hb=>by
  rw[u];refine zB9 b 0 128 cap (qA3 c [] ps) W x oM (λj hj=>?_);rw[ξ hb,s];exact af j hj
 rw[<-u];have U:∀ v∈E.toList,v.oneCell'=true:=by rw[s];exact (qJ4 _).one
 have L:=zh z;have ay:=ζ h;clear af u s ae x J I ad hs T hV h;go_enter func217,ntmps217;go_wp2_with fail;obtain⟨w0,ak,aa,F,az⟩:=qD5 w (.cells #[ϊ (i:Int),.int .u64 S] 84);rw[<-ak];clear ak;refine (M w0 F).mono ?_;rintro e d ⟨rfl,N,B⟩;have ab:=B.ho aa;have X:Kp [A] w d:=(F.mono sM).tr B;have a0:=B.size;clear B aa F M;go_wp2_with fail;have H:=υ d (.cells zeroCells288 288);rw[qQ3 H (by simp[qK4,z]) U];rw[show E.toList.toArray=E from by simp,qO7 (by rw[qK4,z])];obtain⟨f,al,y,ac,O,Y,a1⟩:∃ f,f=(d.alloc (.cells zeroCells288 288)).setRow d.heap.size E/\Ϙ f d.heap.size (.cells E 288)/\Ϙ f w.heap.size (.cells #[ϊ (i:Int),.int .u64 S] 84)/\Ϙ f A (qA6 κ n C (.slice none 0 0) (nx k) r)/\Kp [A] w f/\f.heap.size=d.heap.size+1:=
  ⟨_,rfl,setRow_heap _ _ _ _ _ _ H,(setRow_other _ _ _ _ oM).trans (ρ _ ab),(setRow_other _ _ _ _ oM).trans (ρ _ N),(X.alloc _).setRow (Or.inr oM) _,sM⟩
 rw[<-al];clear al H ab N z U;go_wp2_with fail;have m:Ϙ f.drew d.heap.size (.cells E 288)/\Ϙ f.drew w.heap.size (.cells #[ϊ (i:Int),.int .u64 S] 84):=⟨y,ac⟩;refine wp_region_held_drew (S:=λW=>Ϙ W d.heap.size (.cells E 288)/\Ϙ W w.heap.size (.cells #[ϊ (i:Int),.int .u64 S] 84)) kR m (λ_=>?_);refine zU 0 (.slice (some ⟨d.heap.size,0,none⟩) 128 128) m ?_;refine zP 2 w.heap.size 1 m ?_;refine zV 3 (.int .u64 S) rfl (λW u=>by have a:=ϻ u.2 1;clear u;go_simp) m ?_;refine zq 1 λK hK=>?_;go_simp;refine (ap f.drew d.heap.size 128 y).mono ?_;rintro e g ⟨rfl,aj⟩;rw[aj];clear aj g;refine zk hK m ?_
 refine zU 4 (.bool false) m ?_;refine zd ?_;obtain⟨o,am,R,P,Z,a2⟩:∃ o,o=f.drew/\Ϙ o d.heap.size (.cells E 288)/\Ϙ o A (qA6 κ n C (.slice none 0 0) (nx k) r)/\Kp [A] w o/\o.heap.size=f.heap.size:=⟨_,rfl,y,O,Y.drew,rfl⟩;rw[<-am];have aw:qB0 E 0 128=E:=by rw[<-L.out];simp[qB0,tL]
 clear am m y ac O Y X
 go_wp2_with (
  with_reducible refine qV2 (t:=288) ?_ 128 ?_ d.heap.size 0 ?_ E 288 (0,0) ?_ ?_ ?_
  .kernel_rfl
  .kernel_rfl
  .rfl
  .exact R
  .have:=L.out;omega)
 refine (ao o).mono ?_;rintro e D ⟨q,v,rfl,ai,ax,ah,G⟩;have Q:=G.hp P;have an:Hid (Ϙ D q (.cells #[ϊ c,.slice none 0 0,v] 213)/\w.heap.size<=q/\D.ownsRow w.heap.size 87 4 v ps.length (qA9 ps)/\Ϙ D A (qA6 κ n C (.slice none 0 0) (nx k) r)/\Kp [A] w D):=⟨ai,oM,qL0 ah oM,Q,Z.tr G⟩;clear ai ax ah G Q P R Z aw;go_wp2
 go_ret2
 exact⟨q,v,rfl,an⟩
theorem qZ2(s x:Int):qJ5 s x<18446744073709551616:=by
 unfold qJ5;rw[IntKind.wrap_u64];omega
theorem qZ3(xs:List Int):fnv xs<18446744073709551616:=by
 unfold fnv;rcases List.eq_nil_or_concat xs with h|⟨l,a,h⟩
 .rw[h];decide
 .rw[h,List.concat_eq_append,List.foldl_append];exact qZ2 _ _
def Laid(N:Nat)(l:List UInt8):(n:Nat)→Nat→Int→Tn n→Prop
 | 0,b,s,t=>2≤b∧b<N∧s=fnv (qA3 0 (prs t) [])∧ω l b=toB (qA3 0 (prs t) [])∧(∀ p∈prs t,qC3 p)∧2+meas θ (prs t)≤128∧(prs t).length≤126
 | n+1,b,s,t=>2≤b∧b<N∧n+1<6∧∃ hs:List HL,Both (RLof (fun _ _=>False) (Laid N l n)) hs (η t)∧s=fnv (qA3 ((n+1:Nat):Int) [] hs)∧ω l b=toB (qA3 ((n+1:Nat):Int) [] hs)∧(∀ h∈hs,h.key.size≤8)∧2+meas φ hs≤128∧hs.length≤126
theorem Laid.at{N:Nat}{l}:∀ {n b:Nat} {s:Int} {t},Laid N l n b s t->2<=b/\b<N/\0<=s/\s<18446744073709551616/\n<6
 | 0,_,_,_,h=>⟨h.1,h.2.1,by rw[h.2.2.1];exact qR3 _,by rw[h.2.2.1];exact qZ3 _,oM⟩
 | _+1,_,_,_,h=>by
  obtain⟨c,d,e,f,_,a,_⟩:=h;exact⟨c,d,by rw[a];exact qR3 _,by rw[a];exact qZ3 _,e⟩
theorem Laid.links{N:Nat}{l}{n:Nat}{b}{ls}(h:Both (RLof (λ_ _=>False) (Laid N l n)) b ls)(j:∀ h∈b,h.key.size<=8)(r:N<=1000):
  ∀ p∈b,p.p=none/\p.key.size<=8/\0<=p.b/\p.b<65536/\0<=p.s/\p.s<18446744073709551616:=by
 intro p d;obtain⟨i,c,rfl⟩:=gO d;have a:=(h.2 i c (by rw[<-h.1];exact c)).2;split at a
 .obtain⟨_,_,q,_,g⟩:=a;exact g.elim
 .obtain⟨k,m,e,f⟩:=a;have o:=f.at;exact⟨e,j _ d,oM,oM,oM,oM⟩
structure Devl(V A N C:Nat)(l:List UInt8)(wr:Int)(w:World):Prop where
 hV:w.heap[V]?=some (qE4 A N)
 hA:∃ calls,w.heap[A]?=some (qA6 (l.length / 128) N C (.slice none 0 0) calls wr)
 hC:w.heap[C]?=some (.cells (enc l) 115)
theorem kN2(V A N C:Nat)(l)(j:Int)(I:N<=1000)(hs:N*128<=l.length)(m:C≠A)(u:V≠A)(n:Nat)(h r)(L)(a:Int)(w)(y:Devl V A N C l j w)(hr:RL (Laid N l) n w h L)(K:h.p=none)(ha:(n:Int)<a):
  Calls prog 150 #[τ V r,qC1 h,.int .i64 a] w λe c=>∃ q,e=.returned (.pointer (some ⟨q,0,none⟩))/\RN (Laid N l) n c q L.sub/\Devl V A N C l j c/\Kp [A] w c:=by
 obtain⟨P,S⟩:=y.hA;have hO:∃ b s,h.b=(b:Nat)/\h.s=s/\Laid N l n b s L.sub:=by
  have f:=hr.2
  cases hl:L.ref with
  | none=>
   rw[hl] at f;obtain⟨_,_,q',R,_⟩:=f;rw[K] at R;cases R
  | some x=>
   rw[hl] at f;exact⟨x.1,x.2,f.1,f.2.1,f.2.2.2⟩
 obtain⟨b,s,Z,ac,p⟩:=hO;have af:=p.at.2.2.2.2;have O:Hid (∀ W,Kp [] w W->Ω 217 #[ϖ V,.agg #[ϊ b,.int .u64 s]] W λe c=>∃ q vp vl,e=ϱ (.tuple #[ϖ q,.bool true])/\Ϙ c q (χ (n:Int) vp vl)/\RN (Laid N l) n c q L.sub/\Devl V A N C l j c/\Kp [A] W c):=by
  intro W hK;have t:=hK.hp y.hV;have T:=hK.hp S;have o:=hK.hp y.hC
  cases n with
  | zero=>
   obtain⟨g1,B,Q,k,D,E,F⟩:=p;rw[Q];refine (zS6 V A N C P j b l (prs L.sub) W t T B I o hs m u k D E F).mono ?_;rintro e c ⟨q,v,rfl,d,_,J,G,g⟩;exact⟨q,v,.slice none 0 0,rfl,d,⟨v,d,qJ3 J⟩,⟨g.heap t (by simpa using u),⟨_,G⟩,g.heap o (by simpa using m)⟩,g⟩
  | succ n=>
   obtain⟨g1,B,Q,ab,k,D,E,F,g8,g9⟩:=p;rw[D];refine (zS5 V A N C P j b l ab ((n+1:Nat):Int) oM oM W t T B I o hs m u E (Laid.links k F I) g8 g9).mono ?_;rintro e c ⟨q,v,rfl,d,_,J,G,g⟩;exact⟨q,.slice none 0 0,v,rfl,d,⟨v,d,ab,qJ3 J,⟨k.1,λi h1 f=>(k.2 i h1 f).mono (λ_ h=>h.elim) (λ_ _ h=>h)⟩⟩,⟨g.heap t (by simpa using u),⟨_,G⟩,g.heap o (by simpa using m)⟩,g⟩
 have aa:h.ptr=none:=by simp[HL.ptr,K]
 rw[τ,qC1,aa,Z,ac];clear hr y p S K Z ac aa;go_enter func150,ntmps150;go_wp2_with fail;obtain⟨z,ad,H⟩:∃ z,z=(w.alloc (.cells (ϟ V r) 89)).alloc (.cells #[.string h.key,ϊ (b:Int),.int .u64 s,.pointer none] 87)/\Kp [] w z:=⟨_,rfl,(kF.alloc _).alloc _⟩;rw[<-ad];clear ad;refine (O z H).mono ?_;rintro e M ⟨q,vp,vl,rfl,d,Y,U,X⟩;have ah:=ζ d;have c0:=ξ d 0;simp only[χ,zG,zH,zI] at c0;have ag:¬a<=(n:Int):=oM
 have ae:Hid (RN (Laid N l) n M q L.sub/\Devl V A N C l j M/\Kp [A] w M):=⟨Y,U,(H.mono sM).tr X⟩;clear d Y U X H O;go_wp2;go_ret;exact⟨q,rfl,ae⟩
def EL(V A N C:Nat)(l:List UInt8)(writes:Int)(hN:N≤1000)(hs:N*128≤l.length)(hAC:C≠A)(hVA:V≠A):SEnv where
 O:=Laid N l
 V:=V
 S:=[A]
 Dev:=Devl V A N C l writes
 keep:=fun w w' L hd hK hL=>by
  obtain⟨calls,hA⟩:=hd.hA;have h1:∀ k c t fr,w.heap[k]?=some (.cells c t fr)→t ∉ zH2→k ∉ L:=fun k c t fr e ht hm=>by
   obtain⟨c',t',fr',e',h'⟩:=hL k hm;rw[e] at e';cases e';exact ht h'
  exact⟨hK.heap hd.hV (h1 _ _ _ _ hd.hV (by decide)),⟨_,hK.heap hA (h1 _ _ _ _ hA (by decide))⟩,hK.heap hd.hC (h1 _ _ _ _ hd.hC (by decide))⟩
 apt:=fun w hd k hk c t fr e=>by
  obtain⟨calls,hA⟩:=hd.hA;rw[List.mem_singleton.1 hk,hA] at e;cases e;decide
 low:=fun w hd k hk=>by
  obtain⟨calls,hA⟩:=hd.hA;rw[List.mem_singleton.1 hk];exact ζ hA
 pos:=fun n b s t h=>by have:=h.at;omega
 lvl:=fun n b s t h=>h.at.2.2.2.2
 read:=fun n h r L a w hd hr hp ha=>kN2 V A N C l writes hN hs hAC hVA n h r L a w hd hr hp ha
 keepX:=fun w w' L hd hK hL=>by
  obtain⟨calls,hA⟩:=hd.hA;exact⟨hK.heap hd.hV (fun hm=>hL _ hm _ _ _ hd.hV (by decide)),⟨_,hK.heap hA (fun hm=>hL _ hm _ _ _ hA (by decide))⟩,hK.heap hd.hC (fun hm=>hL _ hm _ _ _ hd.hC (by decide))⟩
 offS:=fun w hd k hk=>by
  obtain⟨calls,hA⟩:=hd.hA;rw[List.mem_singleton.1 hk];exact⟨_,_,_,hA,by decide⟩
end Go.Proofs.YtdohpenfkdckiaaGreatDoor
