import Derived.Test.YtdohpenfkdckiaaGreatDoorJ22
import Derived.Test.YtdohpenfkdckiaaGreatDoorJ25
set_option linter.all false
set_option maxRecDepth 100000
set_option maxHeartbeats 20000000
namespace Go.Proofs.YtdohpenfkdckiaaGreatDoor
open Go.Proofs.Tryz
open Go.RowKit
theorem jA8(d:Nat)(x y:Int)(h:x≠y)(W):(Op.equalIn (d+1) 5 (.int .u8 x) (.int .u8 y)).run prog W=.ok false W:=by
 simp[Op.equalIn,run_underlying underlying5,h]
theorem jP7(d:Nat)(E F)(n:allBytes E)(o:allBytes F)(u:E.size=F.size)(W):∀ a:List Nat,(∀ i∈a,i<E.size)->(∃ i∈a,E[i]?≠F[i]?)->(Op.eqItems (d+1) 5 1 E F a).run prog W=.ok false W:=by
 intro a
 induction a with
 | nil=>intro _ h;obtain⟨i,f,_⟩:=h;cases f
 | cons i a ih=>
  intro h p;have f:=h i sM;have q:i<F.size:=oM
  obtain⟨x,s⟩:=n E[i] sM;obtain⟨y,t⟩:=o F[i] sM;have b:E[i*1]?=some (.int .u8 x):=by rw[Nat.mul_one,Array.getElem?_eq_getElem f,s]
  have c:F[i*1]?=some (.int .u8 y):=by rw[Nat.mul_one,Array.getElem?_eq_getElem q,t]
  by_cases m:x=y
  .subst m;simp only[Op.eqItems,Sem.run_bind,run_part_plain W (P:=prog) (e:=5) kR b,run_part_plain W (P:=prog) (e:=5) kR c,Result.andThen_ok,zY7,Bool.not_true,Bool.false_eq_true,if_false];refine ih (λj r=>h j (by simp[r])) ?_;obtain⟨k,g,l⟩:=p;rcases List.mem_cons.1 g with rfl|g
   .rw[Nat.mul_one] at b c;exact absurd (b.trans c.symm) l
   .exact⟨k,g,l⟩
  .simp only[Op.eqItems,Sem.run_bind,run_part_plain W (P:=prog) (e:=5) kR b,run_part_plain W (P:=prog) (e:=5) kR c,Result.andThen_ok,jA8 _ _ _ m,Bool.not_false,if_true];rfl
theorem zY1(E F)(g:E.size=128)(j:F.size=128)(b:allBytes E)(c:allBytes F)(e:E≠F)(W):Sem.run prog (Op.equalIn 10000 288 (.agg E) (.agg F)) W=.ok false W:=by
 obtain⟨k,a,_⟩:=info_parts Tryz.info5;have h:=run_equalIn_array (P:=prog) W 9999 E F underlying288 a;refine Eq.trans h ?_;rw[show prog.cellsOf 5=1 from by kernel_rfl];refine jP7 9998 E F b c oM W _ (λi a=>by rw[g];simpa using a) ?_;refine Classical.byContradiction λf=>e ?_;refine Array.ext_getElem? λi=>?_;by_cases a:i<128
 .exact Classical.byContradiction λd=>f ⟨i,by simpa using a,d⟩
 .rw[Array.getElem?_eq_none oM,Array.getElem?_eq_none oM]
theorem jG5{a b}(h:qC0 a=qC0 b):a=b:=by
 unfold qC0 at h;refine (List.map_inj_right ?_).1 h;intro x y e;simp only[Value.int.injEq,true_and] at e;exact UInt8.toNat_inj.1 oM
theorem xB9{a b}(h:enc a=enc b):a=b:=jG5 (by simpa [enc] using h)
theorem zA3{α:Type}(f:α->Nat)(l:List α)(h:∀ x∈l,1<=f x):l.length<=meas f l:=by
 induction l with
 | nil=>simp
 | cons a l ih=>
  have:=h a sM;have:=ih (λx b=>h x (by simp[b]));rw[qC2,lC];omega
theorem qP9{α:Type}(f:α->Nat)(l:List α)(a:α):meas f (l++[a])=meas f l+f a:=by rw[qE2,qC2,qD1,Nat.add_zero]
theorem kA7(bl)  (w) (aa:bl.length=128) (V:bl[0]?=some 0) (ax:∀ ps:List KV,(∀ p∈ps,qC3 p)->2+meas θ ps<=128->bl≠toB (qA3 0 ps [])):
  Calls prog 257 #[.agg (enc bl)] w λe w'=>(∃ q,e=.returned (.tuple #[q,.bool false]))/\Kp [] w w':=by
 obtain⟨O,af⟩:∃ x,bl[1]?=some x:=⟨_,gQ oM⟩;have bh:=O.toNat_lt;obtain⟨d,ab⟩:∃ d:Nat,d=O.toNat:=⟨_,rfl⟩;have b0:(enc bl)[0]?=some (.int .u8 0):=by
  unfold enc qC0;rw[zG,List.getElem?_map]
  first
   | (rw[V];rfl)
   | (obtain⟨x,e1,e2⟩:=V;rw[e1,e2];rfl)
 have b1:(enc bl)[1]?=some (.int .u8 (d:Int)):=by
  unfold enc qC0;rw[zG,List.getElem?_map,af,ab];rfl
 have au:(enc bl).size=128:=by rw[qH1];exact aa
 obtain⟨E,D⟩:=eX (enc bl);have u:Hid (E=enc bl/\E.size=128):=⟨D,by rw[D];exact au⟩;have bi:Hid (d<256/\bl[1]?=some O/\d=O.toNat):=⟨oM,af,ab⟩;have a1:=zh ax;have ah:=zh aa;rw[<-D] at b0 b1;rw[<-D];clear ab ax au D V af bh aa;go_enter func257,ntmps257;go_wp2_with fail;have an:=ρ (.cells #[ϊ 0,.slice none 0 0,.slice none 0 0] 213) (υ w (.cells E 288));have Y:=υ (w.alloc (.cells E 288)) (.cells #[ϊ 0,.slice none 0 0,.slice none 0 0] 213);rw[show (w.alloc (.cells E 288)).heap.size=w.heap.size+1 from by simp] at Y;have ao:Kp [] w ((w.alloc (.cells E 288)).alloc (.cells #[ϊ 0,.slice none 0 0,.slice none 0 0] 213)):=(kF.alloc _).alloc _
 go_loopw [5,6,15] (λr ob i wr=>∃ (j b o:Nat) (A:Value) (a:List KV),Hid (a.length=j/\j<=d)/\i=.int .u8 j/\ob=.bool true/\Hid (b=2+meas θ a/\b<=128)/\r=.slice (some ⟨w.heap.size,o,none⟩) (128-b) (128-b)/\Hid (b<128->o=b)/\Hid ((bl.drop 2).take (meas θ a)=toB (a.flatMap qD7))/\Hid (∀ p∈a,qC3 p)/\Hid (Ϙ wr w.heap.size (.cells E 288))/\Hid (wr.heap[w.heap.size+1]?=some (.cells #[ϊ 0,A,.slice none 0 0] 213))/\Hid (wr.ownsRow w.heap.size 185 2 A j (qA4 a))/\Hid (Kp [] w wr)) (λ_ _ i _=>d-(intOf i).toNat)
 case atStart=>exact⟨0,2,2,.slice none 0 0,[],⟨rfl,zL _⟩,rfl,rfl,⟨by simp[qD1],oM⟩,rfl,λ_=>rfl,by show _=_;simp[qD1,toB],by show ∀ p∈([]:List KV),_;simp,an,Y,by show World.ownsRow _ _ _ _ _ _ _;exact wN _ _ _ _,ao⟩
 case round=>
  obtain⟨j,b,o,A,a,HJ,rfl,rfl,l,rfl,al,a5,L,I,C,T,J⟩:=hrel;clear an Y ao b0 b1;have z:=HJ.out.1;have av:j<=126:=by
   have v:=zA3 θ a (λp _=>by unfold θ;omega);have:=l.out;omega
  by_cases aw:j<d
  .have be:(j:Int)<(d:Int):=oM
   by_cases ac:∃ p:KV,(qC3 p)/\b+θ p<=128/\(bl.drop b).take (θ p)=toB (qD7 p)
   .obtain⟨p,ad,ae,ay⟩:=ac;have ai:=zh ay;have ba:0<θ p:=by unfold θ;omega
    have bf:=(al oM).symm;subst bf;have k:=C.out;have bc:=ζ k;have n0:=ξ k;have U:=ψ k 1;clear k ay;go_wp2_with fail;refine (xO0 w.heap.size w.heap.size b bl p a _ wr (by have h:=I.out;rw[u.out.1] at h;exact h) ah ad ae ai (by rw[z];exact T) (by have:=J.out.size;omega) oM).mono ?_;rintro e B ⟨v1,r1,rfl,hr1,⟨o1,rfl⟩,hown1,hbl1,hst1⟩;rw[z] at hown1;obtain⟨g1,a8,rfl⟩:=qL7 hown1;have f:=hst1 _ _ _ _ C dC;have am:=hst1 _ _ _ _ I dC;have bb:=ζ f;have m1:=ϻ f 1;have a9:=ψ f 1;have ak:=zh f;have a0:=zh am;have a2:=zh hown1;have R:=zh (Kp.of_below ((J.below lR sM).trans hbl1) lR);have a4:Hid (b+θ p<128->o1=b+θ p):=by
     intro h;have M:=hr1 h;simp only[vJ,Option.some.injEq,Addr.mk.injEq,and_true,true_and] at M;exact M
    have a3:Hid (b+θ p=2+meas θ (a++[p])/\b+θ p<=128):=⟨by rw[qP9,l.out.1];omega,ae⟩;have a6:Hid ((bl.drop 2).take (meas θ (a++[p]))=toB ((a++[p]).flatMap qD7)):=by
     show _=_;rw[qP9,qV0,a5.out,List.drop_drop,<-l.out.1,ai.out,fA,qI0];simp
    have a7:Hid (∀ q∈a++[p],(λp:KV=>qC3 p) q):=by
     intro q s;rcases mA s with s|s
     .exact L q s
     .rw[mS s];exact ad
    have bn:IntKind.u8.wrap ((j:Int)+1)=(j:Int)+1:=by rw[IntKind.wrap_u8];omega
    have aj:Hid ((a++[p]).length=j+1/\j+1<=d):=⟨by rw[lA,z];rfl,oM⟩;clear f am hown1 hbl1 hst1 hr1 n0 U ad ae ba z av aw;go_wp2;have X:Kp [w.heap.size+1] B (B.setCell ⟨w.heap.size+1,1,none⟩ (.slice (some ⟨g1,0,none⟩) (j+1) a8)):=kF.sc _;have bk:=aj.out.2;exact⟨⟨j+1,b+θ p,o1,_,a++[p],aj,by go_num,rfl,a3,rfl,a4,a6,a7,X.hp a0,μ ak 1 _,qI5 a2 X (λq s c t fr e=>by rw[mS s,ak.out] at e;cases e;decide),R.tr X⟩,by simp[intOf];omega⟩
   .have ag:=zh (kB5 w.heap.size b o bl A wr (by have h:=I.out;rw[u.out.1] at h;exact h) ah (by have:=l.out;omega) al (λp v M h3=>ac ⟨p,v,M,h3⟩));have k:=C.out;have bc:=ζ k;have n0:=ξ k;have U:=ψ k 1;obtain⟨bj,lj,cj,bg⟩:∃ bj lj cj,A=.slice bj lj cj:=by
     rcases T.2 with⟨v,_⟩|⟨g,cap,cur,v,_⟩
     .exact⟨_,_,_,v⟩
     .exact⟨_,_,_,v⟩
    subst bg;clear k ac z av aw;go_wp2_with fail;refine (show Calls _ _ _ _ _ from ag).mono ?_;rintro e B ⟨rfl,m,az⟩;have n:Kp [] wr B:=by rw[az];exact kF.drewN _
    have f:=n.hp C.out;have bb:=ζ f;have m1:=ϻ f 1;have a9:=ψ f 1;have R:=zh (J.tr n);clear f n az n0 U ag;go_wp2
    go_ret2
    exact⟨⟨_,rfl⟩,R.setCell (Or.inr (by show w.heap.size<=w.heap.size+1;omega)) _⟩
  .have be:¬(j:Int)<(d:Int):=oM
   have bm:j=d:=by have:=HJ.out;omega
   have ar:=qG5 0 a [] oM oM sO L sM;have aq:=qQ0 0 a [] (by have:=l.out;simp only[qD1];omega);have N:(u8s (qA3 0 a [])).toArray=enc (toB (qA3 0 a [])):=by rw[enc,<-qX5 _ ar]
   obtain⟨F,G⟩:=eX ((u8s (qA3 0 a [])).toArray);have Q:Hid (F.size=128/\allBytes F/\F≠E):=⟨by rw[G,N,qH1,qH5];exact aq,by rw[G,N];exact qJ4 _,λh=>a1 a L (by rw[<-l.out.1];exact l.2) (xB9 (by rw[<-N,<-G,h];exact u.1.symm))⟩;have P:=Hid.mk' (qY3 (w.heap.size+1) 0 A (.slice none 0 0) a [] wr.drew C oM oM (qJ3 (by have h:=T.out;rw[<-z] at h;exact h)) ⟨rfl,Or.inl ⟨rfl,none,0,rfl,λ_=>rfl⟩⟩ (by have:=l.out;simp only[qD1];omega) sO L sM);rw[<-G] at P;have bd:allBytes E:=by rw[u.out.1];exact qJ4 _
   clear ar aq N G;go_wp2_with fail;have y:Ϙ wr.drew w.heap.size (.cells E 288):=I.out;refine wp_region_held_drew (S:=λW=>Ϙ W w.heap.size (.cells E 288)) kR y (λ_=>?_);refine zU 0 (ϖ (w.heap.size+1)) y ?_;refine zU 1 (ϖ (w.heap.size+1)) y ?_;refine zV 3 (.agg E) rfl (λW Z=>qP6 (t:=288) rfl kR 128 kR w.heap.size rfl Z u.2) y ?_;refine zq 2 λK hK=>?_;go_simp;refine (show Calls _ _ _ _ _ from P).mono ?_;rintro e B ⟨rfl,n⟩;have H:=n.hp y;refine zk hK H ?_
   refine zV 4 (.bool false) rfl (λW Z=>by have h:=zY1 F E Q.1 u.2 Q.2.1 bd Q.2.2 W;clear Z;go_simp) H ?_;refine zq 5 λK hK=>?_;go_simp;refine zk hK H ?_
   refine zq 6 λK hK=>?_;go_simp;refine zk hK H ?_
   refine zd ?_;have ap:Kp [] wr B:=((Kp.refl _ wr).drew).tr n;have HW:=zh (J.tr ap);clear ap n H y P;go_wp2
   go_ret2
   exact⟨⟨_,rfl⟩,HW⟩
theorem kA5(bl)(d:Int)(bp:0<d)(ay:d<256)(w)(ac:bl.length=128)(Z:∃ x:UInt8,bl[0]?=some x/\d=((x.toNat:Nat):Int))(az:∀ ps:List HL,(∀ p∈ps,p.p=none/\p.key.size<=8/\0<=p.b/\p.b<65536/\0<=p.s/\p.s<18446744073709551616)->2+meas φ ps<=128->bl≠toB (qA3 d [] ps)):
  Calls prog 257 #[.agg (enc bl)] w λe w'=>(∃ q,e=.returned (.tuple #[q,.bool false]))/\Kp [] w w':=by
 obtain⟨R,ag⟩:∃ x,bl[1]?=some x:=⟨_,gQ oM⟩;have bk:=R.toNat_lt;obtain⟨f,ad⟩:∃ f:Nat,f=R.toNat:=⟨_,rfl⟩;have b0:(enc bl)[0]?=some (.int .u8 d):=by
  unfold enc qC0;rw[zG,List.getElem?_map]
  first
   | (rw[Z];rfl)
   | (obtain⟨x,e1,e2⟩:=Z;rw[e1,e2];rfl)
 have b1:(enc bl)[1]?=some (.int .u8 (f:Int)):=by
  unfold enc qC0;rw[zG,List.getElem?_map,ag,ad];rfl
 have av:(enc bl).size=128:=by rw[qH1];exact ac
 obtain⟨E,J⟩:=eX (enc bl);have z:Hid (E=enc bl/\E.size=128):=⟨J,by rw[J];exact av⟩;have bm:Hid (f<256/\bl[1]?=some R/\f=R.toNat):=⟨oM,ag,ad⟩;have a3:=zh az;have ai:=zh ac;rw[<-J] at b0 b1;rw[<-J];clear ad az av J Z ag bk ac;go_enter func257,ntmps257;go_wp2_with fail;have ao:=ρ (.cells #[ϊ d,.slice none 0 0,.slice none 0 0] 213) (υ w (.cells E 288));have ab:=υ (w.alloc (.cells E 288)) (.cells #[ϊ d,.slice none 0 0,.slice none 0 0] 213);rw[show (w.alloc (.cells E 288)).heap.size=w.heap.size+1 from by simp] at ab;have ap:Kp [] w ((w.alloc (.cells E 288)).alloc (.cells #[ϊ d,.slice none 0 0,.slice none 0 0] 213)):=(kF.alloc _).alloc _
 go_loopw [5,6,15] (λr ob i wr=>∃ (j b o:Nat) (G:Value) (a:List HL),Hid (a.length=j/\j<=f)/\i=.int .u8 j/\ob=.bool true/\Hid (b=2+meas φ a/\b<=128)/\r=.slice (some ⟨w.heap.size,o,none⟩) (128-b) (128-b)/\Hid (b<128->o=b)/\Hid ((bl.drop 2).take (meas φ a)=toB (a.flatMap qD9))/\Hid (∀ p∈a,p.p=none/\p.key.size<=8/\0<=p.b/\p.b<65536/\0<=p.s/\p.s<18446744073709551616)/\Hid (Ϙ wr w.heap.size (.cells E 288))/\Hid (wr.heap[w.heap.size+1]?=some (.cells #[ϊ d,.slice none 0 0,G] 213))/\Hid (wr.ownsRow w.heap.size 87 4 G j (qA9 a))/\Hid (Kp [] w wr)) (λ_ _ i _=>f-(intOf i).toNat)
 case atStart=>exact⟨0,2,2,.slice none 0 0,[],⟨rfl,zL _⟩,rfl,rfl,⟨by simp[qD1],oM⟩,rfl,λ_=>rfl,by show _=_;simp[qD1,toB],by show ∀ p∈([]:List HL),_;simp,ao,ab,by show World.ownsRow _ _ _ _ _ _ _;exact wN _ _ _ _,ap⟩
 case round=>
  obtain⟨j,b,o,G,a,HJ,rfl,rfl,n,rfl,am,a7,u,N,I,X,O⟩:=hrel;clear ao ab ap b0 b1;have C:=HJ.out.1;have aw:j<=126:=by
   have A:=zA3 φ a (λp _=>by unfold φ;omega);have:=n.out;omega
  by_cases ax:j<f
  .have bg:(j:Int)<(f:Int):=oM
   by_cases ae:∃ p:HL,(p.p=none/\p.key.size<=8/\0<=p.b/\p.b<65536/\0<=p.s/\p.s<18446744073709551616)/\b+φ p<=128/\(bl.drop b).take (φ p)=toB (qD9 p)
   .obtain⟨p,s,af,a0⟩:=ae;have aj:=zh a0;have bc:0<φ p:=by unfold φ;omega
    have bh:=(am oM).symm;subst bh;have l:=I.out;have be:=ζ l;have n0:=ξ l;have Y:=ψ l 2;clear l a0;go_wp2_with fail;refine (xN9 w.heap.size w.heap.size b bl p a _ wr (by have h:=N.out;rw[z.out.1] at h;exact h) ai s.1 s.2.1 s.2.2.1 s.2.2.2.1 s.2.2.2.2.1 s.2.2.2.2.2 af aj (by rw[C];exact X) (by have:=O.out.size;omega) oM).mono ?_;rintro e H ⟨v1,r1,rfl,hr1,⟨o1,rfl⟩,hown1,hbl1,hst1⟩;rw[C] at hown1;obtain⟨g1,ba,rfl⟩:=qL7 hown1;have k:=hst1 _ _ _ _ I dC;have an:=hst1 _ _ _ _ N dC;have bd:=ζ k;have m1:=ϻ k 2;have bb:=ψ k 2;have al:=zh k;have a2:=zh an;have a4:=zh hown1;have V:=zh (Kp.of_below ((O.below lR sM).trans hbl1) lR);have a6:Hid (b+φ p<128->o1=b+φ p):=by
     intro h;have P:=hr1 h;simp only[vJ,Option.some.injEq,Addr.mk.injEq,and_true,true_and] at P;exact P
    have a5:Hid (b+φ p=2+meas φ (a++[p])/\b+φ p<=128):=⟨by rw[qP9,n.out.1];omega,af⟩;have a8:Hid ((bl.drop 2).take (meas φ (a++[p]))=toB ((a++[p]).flatMap qD9)):=by
     show _=_;rw[qP9,qV0,a7.out,List.drop_drop,<-n.out.1,aj.out,fA,qI0];simp
    have a9:Hid (∀ q∈a++[p],(λp:HL=>p.p=none/\p.key.size<=8/\0<=p.b/\p.b<65536/\0<=p.s/\p.s<18446744073709551616) q):=by
     intro q y;rcases mA y with y|y
     .exact u q y
     .rw[mS y];exact s
    have bq:IntKind.u8.wrap ((j:Int)+1)=(j:Int)+1:=by rw[IntKind.wrap_u8];omega
    have ak:Hid ((a++[p]).length=j+1/\j+1<=f):=⟨by rw[lA,C];rfl,oM⟩;clear k an hown1 hbl1 hst1 hr1 n0 Y s af bc C aw ax;go_wp2;have aa:Kp [w.heap.size+1] H (H.setCell ⟨w.heap.size+1,2,none⟩ (.slice (some ⟨g1,0,none⟩) (j+1) ba)):=kF.sc _;have bn:=ak.out.2;exact⟨⟨j+1,b+φ p,o1,_,a++[p],ak,by go_num,rfl,a5,rfl,a6,a8,a9,aa.hp a2,μ al 2 _,qI5 a4 aa (λq y c t fr e=>by rw[mS y,al.out] at e;cases e;decide),V.tr aa⟩,by simp[intOf];omega⟩
   .have ah:=zh (kB4 w.heap.size b o bl G wr (by have h:=N.out;rw[z.out.1] at h;exact h) ai (by have:=n.out;omega) am (λp A P h3=>ae ⟨p,A,P,h3⟩));have l:=I.out;have be:=ζ l;have n0:=ξ l;have Y:=ψ l 2;obtain⟨bj,lj,cj,bi⟩:∃ bj lj cj,G=.slice bj lj cj:=by
     rcases X.2 with⟨A,_⟩|⟨g,cap,cur,A,_⟩
     .exact⟨_,_,_,A⟩
     .exact⟨_,_,_,A⟩
    subst bi;clear l ae C aw ax;go_wp2_with fail;refine (show Calls _ _ _ _ _ from ah).mono ?_;rintro e H ⟨rfl,m,a1⟩;have v:Kp [] wr H:=by rw[a1];exact kF.drewN _
    have k:=v.hp I.out;have bd:=ζ k;have m1:=ϻ k 2;have bb:=ψ k 2;have V:=zh (O.tr v);clear k v a1 n0 Y ah;go_wp2
    go_ret2
    exact⟨⟨_,rfl⟩,V.setCell (Or.inr (by show w.heap.size<=w.heap.size+1;omega)) _⟩
  .have bg:¬(j:Int)<(f:Int):=oM
   have bo:j=f:=by have:=HJ.out;omega
   have au:=qG5 d [] a oM ay sO sM (λp D=>(u p D).2.1);have ar:=qQ0 d [] a (by have:=n.out;simp only[qD1];omega);have Q:(u8s (qA3 d [] a)).toArray=enc (toB (qA3 d [] a)):=by rw[enc,<-qX5 _ au]
   obtain⟨F,L⟩:=eX ((u8s (qA3 d [] a)).toArray);have U:Hid (F.size=128/\allBytes F/\F≠E):=⟨by rw[L,Q,qH1,qH5];exact ar,by rw[L,Q];exact qJ4 _,λh=>a3 a u (by rw[<-n.out.1];exact n.2) (xB9 (by rw[<-Q,<-L,h];exact z.1.symm))⟩;have T:=Hid.mk' (qY3 (w.heap.size+1) d (.slice none 0 0) G [] a wr.drew I oM ay ⟨rfl,Or.inl ⟨rfl,none,0,rfl,λ_=>rfl⟩⟩ (qJ3 (by have h:=X.out;rw[<-C] at h;exact h)) (by have:=n.out;simp only[qD1];omega) sO sM (λp D=>⟨(u p D).2.1,(u p D).2.2.1,by have:=(u p D).2.2.2.1;omega,(u p D).2.2.2.2.1⟩));rw[<-L] at T;have bf:allBytes E:=by rw[z.out.1];exact qJ4 _
   clear au ar Q L;go_wp2_with fail;have B:Ϙ wr.drew w.heap.size (.cells E 288):=N.out;refine wp_region_held_drew (S:=λW=>Ϙ W w.heap.size (.cells E 288)) kR B (λ_=>?_);refine zU 0 (ϖ (w.heap.size+1)) B ?_;refine zU 1 (ϖ (w.heap.size+1)) B ?_;refine zV 3 (.agg E) rfl (λW hS=>qP6 (t:=288) rfl kR 128 kR w.heap.size rfl hS z.2) B ?_;refine zq 2 λK hK=>?_;go_simp;refine (show Calls _ _ _ _ _ from T).mono ?_;rintro e H ⟨rfl,v⟩;have M:=v.hp B;refine zk hK M ?_
   refine zV 4 (.bool false) rfl (λW hS=>by have h:=zY1 F E U.1 z.2 U.2.1 bf U.2.2 W;clear hS;go_simp) M ?_;refine zq 5 λK hK=>?_;go_simp;refine zk hK M ?_
   refine zq 6 λK hK=>?_;go_simp;refine zk hK M ?_
   refine zd ?_;have aq:Kp [] wr H:=((Kp.refl _ wr).drew).tr v;have HW:=zh (O.tr aq);clear aq v M B T;go_wp2
   go_ret2
   exact⟨⟨_,rfl⟩,HW⟩
variable {κ:Nat}
def LeafAt(l:List UInt8)(b:Nat)(s:Int)(ps:List KV):Prop:=s=fnv (qA3 0 ps [])∧ω l b=toB (qA3 0 ps [])∧(∀ p∈ps,qC3 p)∧2+meas θ ps≤128
def xO3(p:HL):Prop:=p.p=none∧p.key.size≤8∧0≤p.b∧p.b<65536∧0≤p.s∧p.s<18446744073709551616
def BranchAt(l:List UInt8)(b:Nat)(s lv:Int)(hs:List HL):Prop:=0<lv∧lv<256∧s=fnv (qA3 lv [] hs)∧ω l b=toB (qA3 lv [] hs)∧(∀ p∈hs,xO3 p)∧2+meas φ hs≤128
theorem LeafAt.len{l}{b:Nat}{s:Int}{ps}(h:LeafAt l b s ps):ps.length<=126:=by
 have:=zA3 θ ps (λp _=>by unfold θ;omega);have:=h.2.2.2;omega
theorem BranchAt.len{l}{b:Nat}{s d:Int}{ps}(h:BranchAt l b s d ps):ps.length<=11:=by
 have c:∀ xs:List HL,11*xs.length<=meas φ xs:=λxs=>by
  induction xs with
  | nil=>simp
  | cons a xs ih=>rw[qC2,lC];have:φ a=11+a.key.size:=rfl;omega
 have:=c ps;have:=h.2.2.2.2.2;omega
theorem jW1(V A n C:Nat)(r D:Int)(i:Nat)(s:Int)(l)(w)(hV:w.heap[V]?=some (qE4 A n))(h:w.heap[A]?=some (qA6 κ n C (.slice none 0 0) r D))
  (hi:i<n) (hn:n<=1000) (hC:w.heap[C]?=some (.cells (enc l) 115)) (P:n*128<=l.length) (az:C≠A) (a0:V≠A) (an:∀ ps,¬LeafAt l i s ps) (ao:∀ lv P,¬BranchAt l i s lv P):
  Calls prog 217 #[.pointer (some ⟨V,0,none⟩),.agg #[.int .i64 i,.int .u64 s]] w λe f=>(∃ q,e=.returned (.tuple #[q,.bool false]))/\f.heap[A]?=some (qA6 κ n C (.slice none 0 0) (nx r) D)/\Kp [A] w f:=by
 have B:(ω l i).length=128:=by simp[ω];omega
 obtain⟨o,H⟩:=eY (ω l i);rw[H] at B;obtain⟨E,y⟩:=eX (enc o);have M:E.size=128:=by rw[y,qH1];exact B
 have ab:Hid (∀ W,Kp [] w W->Ω 247 #[ϖ V,ϊ i] W λe f=>e=ϱ (.agg E)/\Ϙ f A (qA6 κ n C (.slice none 0 0) (nx r) D)/\Kp [A] W f):=λW hK=>by
  have h:=zH1 V A n C r D i l W (hK.hp hV) (hK.hp h) hi hn (hK.hp hC) P az a0;rw[H,<-y] at h;exact h
 obtain⟨S,g⟩:=eX (fnv (qE3 o));have Q:Hid (S=s->∀ W,Ω 257 #[.agg E] W λe f=>(∃ q,e=ϱ (.tuple #[q,.bool false]))/\Kp [] W f):=λz W=>by
  rw[y];obtain⟨x,hx⟩:∃ x,o[0]?=some x:=⟨_,gQ oM⟩;by_cases aw:x=0
  .subst aw;exact kA7 o W B hx (λps u R G=>an ps ⟨by rw[<-z,g,G,qM8 _ (qG5 0 ps [] oM oM (by have:=zA3 θ ps (λp _=>by unfold θ;omega);simp;omega) u sM)],by rw[H];exact G,u,R⟩)
  .have h0:0<x.toNat:=by
    rcases Nat.eq_zero_or_pos x.toNat with h|h
    .exact absurd (UInt8.toNat_inj.1 h) aw
    .exact h
   have u:=x.toNat_lt;exact kA5 o ((x.toNat:Nat):Int) oM oM W B ⟨x,hx,rfl⟩ (λps u R G=>ao ((x.toNat:Nat):Int) ps ⟨oM,oM,by rw[<-z,g,G,qM8 _ (qG5 _ [] ps oM oM (by have:=zA3 φ ps (λp _=>by unfold φ;omega);simp;omega) sM (λp hp=>(u p hp).2.1))],by rw[H];exact G,u,R⟩)
 have ay:Hid (∀ W b cap,Ϙ W b (.cells E 288)->Ω 251 #[.slice (some ⟨b,0,none⟩) 128 cap] W λe f=>e=ϱ (.int .u64 S)/\f=W):=λW b cap hb=>by
  rw[g];refine zB9 b 0 128 cap (qE3 o) W (by rw[qV4];exact B) oM (λj hj=>?_);rw[ξ hb,y];unfold enc qC0 qE3;rw[zG,List.getElem?_map,Nat.zero_add,List.getD_eq_getElem?_getD,List.getElem?_map,gQ oM];rfl
 have ag:∀ v∈E.toList,v.oneCell'=true:=by rw[y];exact (qJ4 _).one
 have aa:=zh M;have a1:=ζ h;clear g y H B P hC hV h an ao;go_enter func217,ntmps217;go_wp2_with fail;obtain⟨w0,ar,aj,U,a2⟩:=qD5 w (.cells #[ϊ (i:Int),.int .u64 s] 84);rw[<-ar];clear ar;refine (ab w0 U).mono ?_;rintro e c ⟨rfl,ad,N⟩;have ak:=N.ho aj;have ah:Kp [A] w c:=(U.mono sM).tr N;have a3:=N.size;clear N aj U ab;go_wp2_with fail;have Y:=υ c (.cells zeroCells288 288);rw[qQ3 Y (by simp[qK4,M]) ag];rw[show E.toList.toArray=E from by simp,qO7 (by rw[qK4,M])];obtain⟨d,au,L,al,ae,ai,a4⟩:∃ d,d=(c.alloc (.cells zeroCells288 288)).setRow c.heap.size E/\Ϙ d c.heap.size (.cells E 288)/\Ϙ d w.heap.size (.cells #[ϊ (i:Int),.int .u64 s] 84)/\Ϙ d A (qA6 κ n C (.slice none 0 0) (nx r) D)/\Kp [A] w d/\d.heap.size=c.heap.size+1:=
  ⟨_,rfl,setRow_heap _ _ _ _ _ _ Y,(setRow_other _ _ _ _ oM).trans (ρ _ ak),(setRow_other _ _ _ _ oM).trans (ρ _ ad),(ah.alloc _).setRow (Or.inr oM) _,sM⟩
 rw[<-au];clear au Y ak ad M ag;go_wp2_with fail;have k:Ϙ d.drew c.heap.size (.cells E 288)/\Ϙ d.drew w.heap.size (.cells #[ϊ (i:Int),.int .u64 s] 84):=⟨L,al⟩;refine wp_region_held_drew (S:=λW=>Ϙ W c.heap.size (.cells E 288)/\Ϙ W w.heap.size (.cells #[ϊ (i:Int),.int .u64 s] 84)) kR k (λ_=>?_);refine zU 0 (.slice (some ⟨c.heap.size,0,none⟩) 128 128) k ?_;refine zP 2 w.heap.size 1 k ?_;refine zV 3 (.int .u64 s) rfl (λW g=>by have a:=ϻ g.2 1;clear g;go_simp) k ?_;refine zq 1 λK hK=>?_;go_simp;refine (ay d.drew c.heap.size 128 L).mono ?_;rintro e f ⟨rfl,aq⟩;rw[aq];clear aq f;refine zk hK k ?_
 obtain⟨F,I⟩:∃ F:Bool,F=!(decide (S=s)):=⟨_,rfl⟩;refine zV 4 (.bool F) rfl (λW g=>by clear g;rw[I];by_cases hz:S=s<;>simp only[hz,decide_true,decide_false]<;>go_simp) k ?_;refine zd ?_;obtain⟨m,av,T,J,O,a5⟩:∃ m,m=d.drew/\Ϙ m c.heap.size (.cells E 288)/\Ϙ m A (qA6 κ n C (.slice none 0 0) (nx r) D)/\Kp [A] w m/\m.heap.size=d.heap.size:=⟨_,rfl,L,ae,ai.drew,rfl⟩;rw[<-av];have ap:qB0 E 0 128=E:=by rw[<-aa.out];simp[qB0,tL]
 have Z:=zh (n2 J O);clear av k L al ae ai ah;by_cases z:S=s
 .have am:=Q.out z;have ac:=Hid.mk' am;rw[show F=false by rw[I];simp[z]];clear I am Q
  go_wp2_with (
   with_reducible refine qV2 (t:=288) ?_ 128 ?_ c.heap.size 0 ?_ E 288 (0,0) ?_ ?_ ?_
   .kernel_rfl
   .kernel_rfl
   .rfl
   .exact T
   .have:=aa.out;omega)
  refine (ac m).mono ?_;rintro e w4 ⟨⟨q,rfl⟩,X⟩;have af:=X.hp J;have ax:=zh (n2 af (O.tr X));clear X af J T O ap ac Z;go_wp2
  go_ret2
  exact⟨⟨q,rfl⟩,ax⟩
 .rw[show F=true by rw[I];simp[z]];clear I Q J T O ap;go_wp2
  go_ret2
  exact⟨⟨_,rfl⟩,Z⟩
def Old:(n:Nat)→Lnk (Tn n)→Prop
 | 0,l=>l.ref.isSome=true
 | n+1,l=>l.ref.isSome=true∧∀ m∈η l.sub,Old n m
theorem Old.some{n:Nat}{l}(h:Old n l):l.ref.isSome=true:=by
 cases n with
 | zero=>exact h
 | succ n=>exact h.1
theorem xG8{N:Nat}{l}:∀ (n b:Nat) (s:Int) (t),Laid N l (n+1) b s t->∀ m∈η t,Old n m
 | n,b,s,t,h,m,hm=>by
  obtain⟨f,g,j,o,c,k⟩:=h;obtain⟨i,d,rfl⟩:=gO hm;have a:=(c.2 i (by rw[c.1];exact d) d).2
  cases hx:(η t)[i].ref with
  | none=>
   rw[hx] at a;obtain⟨_,_,q,_,e⟩:=a;exact e.elim
  | some x=>
   rw[hx] at a
   cases n with
   | zero=>show (η t)[i].ref.isSome=true;rw[hx];rfl
   | succ n=>exact⟨by rw[hx];rfl,xG8 n x.1 x.2 _ a.2.2.2⟩
variable {κ:Nat}
theorem xD1(V A n C:Nat)(b k:Int)(i:Nat)(l)(a:Option (Int × Int × Int))(w)(y:w.heap[V]?=some (qE4 A n))(h:w.heap[A]?=some (qA6 κ n C (.slice none 0 0) b k))
  (B:i<n) (D:n<=1000) (x:w.heap[C]?=some (.cells (enc l) 115)) (E:n*128<=l.length) (v:C≠A) (z:V≠A) (g:IsHd l i a):
  Calls prog 205 #[.pointer (some ⟨V,0,none⟩),.int .i64 i] w λe j=>e=.returned (.tuple #[qN1 a,.bool a.isSome])/\
   j.heap[A]?=some (qA6 κ n C (.slice none 0 0) (nx b) k)/\Kp [A] w j:=by
 have I:(256:Int) ^ 2=65536:=dC
 have t:(256:Int) ^ 8=18446744073709551616:=dC
 have J:(ω l i).length=128:=by simp[ω];omega
 have F:(((ω l i).drop 8).take 8).length=8:=by rw[lK,lD];omega
 have G:(((ω l i).drop 6).take 2).length=2:=by rw[lK,lD];omega
 have H:(((ω l i).drop 16).take 8).length=8:=by rw[lK,lD];omega
 have m:=qR5 (((ω l i).drop 8).take 8) oM;have o:=qR5 (((ω l i).drop 6).take 2) oM;have p:=qR5 (((ω l i).drop 16).take 8) oM;rw[F,t] at m;rw[G,I] at o;rw[H,t] at p;refine (jI1 V A n C b k i l _ _ _ w y h B D x E v z rfl rfl rfl m.1 o.1 oM p.1 a.isSome ?_).mono ?_
 .cases a with
  | some a=>
   obtain⟨c,d,f,q,r⟩:=g;rw[c,d,f];simp[q,r]
  | none=>
   symm
   show _=false;rw[Bool.and_eq_false_iff];by_cases s:qG6 (qE3 (((ω l i).drop 8).take 8)) % 2=(i:Int)
   .right;rw[beq_eq_false_iff_ne];intro e;exact g _ _ _ ⟨rfl,rfl,rfl,s,e⟩
   .left;simpa using s
 .rintro e j ⟨rfl,u,hK⟩;refine⟨?_,u,hK⟩
  cases a with
  | some a=>
   obtain⟨c,d,f,q,r⟩:=g;rw[c,d,f];simp[qN1]
  | none=>simp[qN1]
theorem zQ8(V A n C:Nat)(Q F:Int)(l)(j f:Option (Int × Int × Int))(w)(hV:w.heap[V]?=some (qE4 A n))(h:w.heap[A]?=some (qA6 κ n C (.slice none 0 0) Q F))
  (ay:8<=n) (hn:n<=1000) (hC:w.heap[C]?=some (.cells (enc l) 115)) (hs:n*128<=l.length) (Z:C≠A) (ac:V≠A) (ak:IsHd l 0 j) (al:IsHd l 1 f):
  Calls prog 140 #[.pointer (some ⟨V,0,none⟩)] w λe x=>e=.returned (.tuple #[qN1 (qI3 j f),.bool (qI3 j f).isSome])/\
   x.heap[A]?=some (qA6 κ n C (.slice none 0 0) (nx (nx Q)) F)/\Kp [A] w x:=by
 have ax:=ζ hV;have hA:=ζ h;have ao:=ζ hC;obtain⟨i,D,E,z,K,I⟩:∃ i D E z,qN1 j=.agg #[.int .u64 i,ϊ D,.int .u64 E]/\j.isSome=z:=by cases j<;>exact⟨_,_,_,_,rfl,rfl⟩
 obtain⟨d,p,r,B,O,J⟩:∃ d p r B,qN1 f=.agg #[.int .u64 d,ϊ p,.int .u64 r]/\f.isSome=B:=by cases f<;>exact⟨_,_,_,_,rfl,rfl⟩
 have U:∀ W G,Hid (Ϙ W V (qE4 A n)->Ϙ W A (qA6 κ n C (.slice none 0 0) G F)->Ϙ W C (.cells (enc l) 115)->(Ω 205 #[ϖ V,ϊ 0] W λe x=>e=ϱ (.tuple #[.agg #[.int .u64 i,ϊ D,.int .u64 E],.bool z])/\Ϙ x A (qA6 κ n C (.slice none 0 0) (nx G) F)/\Kp [A] W x)/\(Ω 205 #[ϖ V,ϊ 1] W λe x=>e=ϱ (.tuple #[.agg #[.int .u64 d,ϊ p,.int .u64 r],.bool B])/\Ϙ x A (qA6 κ n C (.slice none 0 0) (nx G) F)/\Kp [A] W x)):=λW G g2 g3 g4=>by
  have k0:=xD1 V A n C G F 0 l j W g2 g3 oM hn g4 hs Z ac ak;have k1:=xD1 V A n C G F 1 l f W g2 g3 oM hn g4 hs Z ac al;rw[K,I] at k0;rw[O,J] at k1;exact⟨k0,k1⟩
 have X:Hid (∀ q,(B=true->z=true->qU3 d i=q)->qN1 (qI3 j f)=(if B && (!z || q) then .agg #[.int .u64 d,ϊ p,.int .u64 r] else .agg #[.int .u64 i,ϊ D,.int .u64 E])/\(qI3 j f).isSome=(B || z)):=λq hq=>by
  cases j with
  | none=>
   cases f with
   | none=>subst I;subst J;exact⟨by simpa [qI3] using K,rfl⟩
   | some b=>subst I;subst J;exact⟨by simpa [qI3] using O,rfl⟩
  | some a=>
   cases f with
   | none=>subst I;subst J;exact⟨by simpa [qI3] using K,rfl⟩
   | some b=>
    subst I;subst J;have e0:a.1=i:=by have h:=K;simp[qN1,qI6] at h;exact h.1
    have e1:b.1=d:=by have h:=O;simp[qN1,qI6] at h;exact h.1
    have N:=hq rfl rfl;rw[<-e0,<-e1] at N
    cases q with
    | true=>exact⟨by simpa [qI3,N] using O,by simp[qI3,N]⟩
    | false=>exact⟨by simpa [qI3,N] using K,by simp[qI3,N]⟩
 clear ak al K O I J;go_enter func140,ntmps140;go_wp2_with fail;refine ((U _ Q).out (ρ _ hV) (ρ _ h) (ρ _ hC)).1.mono ?_;rintro e w1 ⟨rfl,Y,L⟩;have ab:=L.heap (υ w (.cells #[.int .u64 0,ϊ 0,.int .u64 0] 166)) sO;have aj:=L.heap (ρ _ hV) (by simp[ac]);have ag:=L.heap (ρ _ hC) (by simp[Z]);have ah:Kp [A] w w1:=(kF.alloc _).tr L;have am:=ζ Y;have au:=ζ ab;clear L;go_wp2_with fail;refine ((U _ (nx Q)).out (ρ _ aj) (ρ _ Y) (ρ _ ag)).2.mono ?_;rintro e w2 ⟨rfl,R,M⟩;have c:=M.heap (ρ _ ab) sO;have s:=M.heap (υ w1 (.cells #[.int .u64 i,ϊ D,.int .u64 E] 166)) sO;have aa:=ah.trans (((Kp.refl [A] _).alloc _).tr M) sM;have az:=M.size;have ap:=ζ s;have av:=ζ c;have an:=ζ R;clear M ah ab aj ag Y U
 cases B with
 | false=>
  have k:=ξ c 0;have m:=ξ c 1;have o:=ξ c 2;have P:=ψ c;have t:=ξ s 0;have u:=ξ s 1;have v:=ξ s 2;simp at k m o t u v;go_wp2;have y:=ρ (.cells #[.int .u64 d,ϊ p,.int .u64 r] 166) (μ (μ (μ c 0 (.int .u64 i)) 1 (ϊ D)) 2 (.int .u64 E));refine bodyPost_ret (qU8 results140 _ _ w.heap.size 166 _ _ _ rfl y underlying166 rfl kR) rfl ⟨by have h:=X.out true sM;simp only[Bool.false_and,Bool.false_or] at h;rw[h.1,h.2];rfl,?_,(((aa.sc _).sc _).sc _).alloc _⟩;exact ρ _ ((qB2 oM _ _).trans ((qB2 oM _ _).trans ((qB2 oM _ _).trans R)))
 | true=>
  cases z with
  | false=>
   have k:=ξ c 0;have m:=ξ c 1;have o:=ξ c 2;have P:=ψ c;simp at k m o;go_wp2;have y:=ρ (.cells #[.int .u64 d,ϊ p,.int .u64 r] 166) (μ (μ (μ c 0 (.int .u64 d)) 1 (ϊ p)) 2 (.int .u64 r));refine bodyPost_ret (qU8 results140 _ _ w.heap.size 166 _ _ _ rfl y underlying166 rfl kR) rfl ⟨by have h:=X.out true sM;simp only[Bool.not_false,Bool.true_or,Bool.and_self,Bool.or_false] at h;rw[h.1,h.2];rfl,?_,(((aa.sc _).sc _).sc _).alloc _⟩;exact ρ _ ((qB2 oM _ _).trans ((qB2 oM _ _).trans ((qB2 oM _ _).trans R)))
  | true=>
   have k:=ξ c 0;have m:=ξ c 1;have o:=ξ c 2;have P:=ψ c;have t:=ξ s 0;have u:=ξ s 1;have v:=ξ s 2;simp at k m o t u v;go_wp2_with fail;refine (jV4 _ _ _ _ _ _ _).mono ?_;obtain⟨q,ad⟩:=eY (qU3 d i);rw[ad];have HR:=hid (X q (λ_ _=>ad));clear ad;rintro e w3 ⟨rfl,af⟩;have H:=Kp.of_below af lR;have g:=H.heap (ρ _ c) sM;have ae:=H.heap (ρ _ R) sM;have S:=H.heap (ρ _ s) sM;have T:=H.heap (υ w2 (.cells #[.int .u64 d,ϊ p,.int .u64 r] 166)) sM;have ai:=(aa.alloc _).tr H;have aw:=ζ g;have aq:=ζ S;have ar:=ζ T;clear af H k m o t u v P
   cases q with
   | false=>
    have k:=ξ g 0;have m:=ξ g 1;have o:=ξ g 2;have P:=ψ g;have t:=ξ S 0;have u:=ξ S 1;have v:=ξ S 2;simp at k m o t u v;go_wp2;have y:=μ (μ (μ g 0 (.int .u64 i)) 1 (ϊ D)) 2 (.int .u64 E);refine bodyPost_ret (qU8 results140 _ _ w.heap.size 166 _ _ _ rfl y underlying166 rfl kR) rfl ⟨by have h:=HR.out;simp only[Bool.not_true,Bool.or_self,Bool.and_false,Bool.or_true] at h;rw[h.1,h.2];rfl,?_,((ai.sc _).sc _).sc _⟩;exact (qB2 oM _ _).trans ((qB2 oM _ _).trans ((qB2 oM _ _).trans ae))
   | true=>
    have k:=ξ g 0;have m:=ξ g 1;have o:=ξ g 2;have P:=ψ g;have t:=ξ T 0;have u:=ξ T 1;have v:=ξ T 2;simp at k m o t u v;go_wp2;have y:=μ (μ (μ g 0 (.int .u64 d)) 1 (ϊ p)) 2 (.int .u64 r);refine bodyPost_ret (qU8 results140 _ _ w.heap.size 166 _ _ _ rfl y underlying166 rfl kR) rfl ⟨by have h:=HR.out;simp only[Bool.or_true,Bool.and_self] at h;rw[h.1,h.2];rfl,?_,((ai.sc _).sc _).sc _⟩;exact (qB2 oM _ _).trans ((qB2 oM _ _).trans ((qB2 oM _ _).trans ae))
theorem jV5(V A n C:Nat)(a b:Int)(l)(N c rs:Int)(w)(q:w.heap[V]?=some (qE4 A n))(h:w.heap[A]?=some (qA6 κ n C (.slice none 0 0) a b))
  (u:8<=n) (t:n<=1000) (p:w.heap[C]?=some (.cells (enc l) 115)) (v:n*128<=l.length) (o:C≠A) (r:V≠A) (s:Heads l N c rs):
  Calls prog 140 #[.pointer (some ⟨V,0,none⟩)] w λe d=>e=.returned (.tuple #[.agg #[.int .u64 N,.int .i64 c,.int .u64 rs],.bool true])/\
   d.heap[A]?=some (qA6 κ n C (.slice none 0 0) (nx (nx a)) b)/\Kp [A] w d:=by
 obtain⟨f,g,i,j,m⟩:=s;have k:=zQ8 V A n C a b l f g w q h u t p v o r i j;rw[m] at k;exact k
end Go.Proofs.YtdohpenfkdckiaaGreatDoor
