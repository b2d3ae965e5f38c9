import Derived.Test.YtdohpenfkdckiaaGreatDoorJ26
import Derived.Test.YtdohpenfkdckiaaGreatDoorJ27
set_option linter.all false
set_option maxRecDepth 100000
set_option maxHeartbeats 20000000
namespace Go.Proofs.YtdohpenfkdckiaaGreatDoor
open Go.Proofs.Tryz
open Go.RowKit
def RawAt(l:List UInt8)(n b:Nat)(s:Int)(ps:List KV)(hs:List HL):Prop:=(n=0∧hs=[]∧LeafAt l b s ps)∨(0<n∧n<256∧ps=[]∧BranchAt l b s n hs)
def RawM(w:World)(q n:Nat)(ps:List KV)(hs:List HL):Prop:=∃ vp vl,w.heap[q]?=some (χ (n:Int) vp vl)∧Slc w 185 2 vp ps.length (qA4 ps)∧Slc w 87 4 vl hs.length (qA9 hs)
theorem RawM.keep{w w'}{q n:Nat}{ps}{hs}{S}(h:RawM w q n ps hs)(hK:Kp S w w')(a:Apt w S qF1):RawM w' q n ps hs:=by
 obtain⟨g,f,b,c,d⟩:=h;exact⟨g,f,hK.heap b (λe=>a q e _ _ _ b dC),c.keep hK (a.sub dC),d.keep hK (a.sub dC)⟩
theorem RawAt.len{l}{n b:Nat}{s:Int}{ps}{hs}(h:RawAt l n b s ps hs):ps.length+hs.length<=126:=by
 rcases h with⟨_,rfl,h⟩|⟨_,_,rfl,h⟩
 .have:=h.len;simpa using this
 .have:=h.len;simp;omega
theorem xQ9(w)(T)(sz:Nat):Slc w T sz (.slice none 0 0) 0 []:=⟨sM,.inl ⟨rfl,none,0,rfl,λ_=>rfl⟩⟩
def cor:List PanicEntry:=[{ v:=.iface 182 (.agg #[.iface 45 (.int .i64 9)]),recovered:=false }]
theorem qP0(w):Calls prog 253 #[.bool false] w λe a=>e=.panicked cor/\Kp [] w a:=by
 go_enter func253,ntmps253;go_wp2;exact⟨rfl,rfl,rfl,Kp.refl _ _⟩
theorem xL2(q n:Nat)(ps)(b)(w)(h:RawM w q n ps b)(i:ps.length+b.length<=1000):
  Calls prog 161 #[.pointer (some ⟨q,0,none⟩)] w λe k=>e=.returned (.int .i64 ((ps.length+b.length:Nat):Int))/\∃ m,k=w.drewN m:=by
 obtain⟨y,x,a,c,d⟩:=h;obtain⟨t,u,rfl⟩:=qK2 c;obtain⟨p,r,rfl⟩:=qK2 d;obtain⟨v,g⟩:=eX ps.length;obtain⟨s,f⟩:=eX b.length;rw[<-g,<-f] at i a |-;have o:=ζ a;have j:=ξ a;simp only[χ,zG,zH,zI] at j;clear a c d g f;go_enter func161,ntmps161;go_wp2_with fail
 go_quiet (fail)
 go_wp2;go_ret;exact⟨qK7 oM,_,rfl⟩
section
variable (V A N C:Nat) (l:List UInt8) (writes:Int) (hN:N≤1000) (hs0:N*128≤l.length) (hAC:C≠A) (hVA:V≠A)
include hN hs0 hAC hVA
theorem jW0(b:Nat)(s:Int)(w)(a:Devl V A N C l writes w)(u:b<N):
  Calls prog 217 #[.pointer (some ⟨V,0,none⟩),.agg #[.int .i64 b,.int .u64 s]] w λe g=>(((∃ q,e=.returned (.tuple #[q,.bool false])))\/∃ q n ps f,e=.returned (.tuple #[.pointer (some ⟨q,0,none⟩),.bool true])/\RawM g q n ps f/\RawAt l n b s ps f)/\Devl V A N C l writes g/\Kp [A] w g:=by
 obtain⟨m,t⟩:=a.hA;by_cases z:∃ ps,LeafAt l b s ps
 .obtain⟨ps,c⟩:=z;obtain⟨h,o,p,r⟩:=id c;rw[h];refine (zS6 V A N C m writes b l ps w a.hV t u hN a.hC hs0 hAC hVA o p r c.len).mono ?_;rintro e g ⟨q,v,rfl,j,_,x,i,d⟩;rw[h] at c;exact⟨.inr ⟨q,0,ps,[],rfl,⟨v,.slice none 0 0,j,qJ3 x,xQ9 _ _ _⟩,.inl ⟨rfl,rfl,c⟩⟩,⟨d.heap a.hV (by simpa using hVA),⟨_,i⟩,d.heap a.hC (by simpa using hAC)⟩,d⟩
 .by_cases B:∃ k f,BranchAt l b s k f
  .obtain⟨k,f,c⟩:=B;obtain⟨y,D,h,o,p,r⟩:=id c;obtain⟨n,rfl⟩:=Int.eq_ofNat_of_zero_le (Int.le_of_lt y);rw[h];refine (zS5 V A N C m writes b l f (n:Int) y D w a.hV t u hN a.hC hs0 hAC hVA o p r (by have:=c.len;omega)).mono ?_;rintro e g ⟨q,v,rfl,j,_,x,i,d⟩;rw[h] at c;exact⟨.inr ⟨q,n,[],f,rfl,⟨.slice none 0 0,v,j,xQ9 _ _ _,qJ3 x⟩,.inr ⟨oM,oM,rfl,c⟩⟩,⟨d.heap a.hV (by simpa using hVA),⟨_,i⟩,d.heap a.hC (by simpa using hAC)⟩,d⟩
  .refine (jW1 V A N C m writes b s l w a.hV t u hN a.hC hs0 hAC hVA (λps c=>z ⟨ps,c⟩) (λk f c=>B ⟨k,f,c⟩)).mono ?_;rintro e g ⟨j,i,d⟩;exact⟨.inl j,⟨d.heap a.hV (by simpa using hVA),⟨_,i⟩,d.heap a.hC (by simpa using hAC)⟩,d⟩
theorem xA9(g s:Int)(G:Nat)(m:Int)(k)(w)(E:Devl V A N C l writes w)(O:w.heap[G]?=some (qB3 V m k))(aw:0<=m)(ax:m<=1000000):
  Calls prog 255 #[.pointer (some ⟨G,0,none⟩),.agg #[.int .i64 g,.int .u64 s]] w λe r=>(e=.panicked cor\/∃ q n b ps u,e=.returned (.pointer (some ⟨q,0,none⟩))/\g=((b:Nat):Int)/\2<=b/\b<N/\RawM r q n ps u/\RawAt l n b s ps u/\r.heap[G]?=some (qB3 V (m+1) k))/\Devl V A N C l writes r/\Kp [A,G] w r:=by
 have HD:=zh E;have am:G≠A:=by obtain⟨c,h⟩:=E.hA;exact qA1 O h dC
 have au:=ζ O;have ap:A<w.heap.size:=by obtain⟨c,h⟩:=E.hA;exact ζ h
 have I:Hid (∀ b:Nat,g=((b:Nat):Int)->b<N->∀ W,Devl V A N C l writes W->Ω 217 #[ϖ V,.agg #[ϊ g,.int .u64 s]] W λe r=>(((∃ q,e=ϱ (.tuple #[q,.bool false])))\/∃ q n ps u,e=ϱ (.tuple #[ϖ q,.bool true])/\RawM r q n ps u/\RawAt l n b s ps u)/\Devl V A N C l writes r/\Kp [A] W r):=λb D af W hW=>by
  rw[D];exact jW0 V A N C l writes hN hs0 hAC hVA b s W hW af
 go_enter func255,ntmps255;go_wp2_with fail;obtain⟨z,ag,y,P,az⟩:=qD5 w (.cells #[ϊ g,.int .u64 s] 84);rw[<-ag];clear ag;have t:=P.hp O;have ac:=P.hp E.hV;have Y:=zh P;have aj:=zh t;have ak:=zh y;have al:=zh ac;have aa:Hid (∀ W,Kp [] w W->Devl V A N C l writes W/\Kp [A,G] w W):=λW hW=>⟨qD0 HD hW (by intro k hk;cases hk),hW.mono sM⟩;clear E O P;by_cases h2:(2:Int)<=g
 .by_cases af:g<(N:Int)
  .obtain⟨b,D⟩:∃ b:Nat,g=((b:Nat):Int):=⟨g.toNat,oM⟩;have HR:=Hid.mk' (I b D oM);have U:Hid (g=((b:Nat):Int)/\2<=b/\b<N):=⟨D,oM,oM⟩;have aq:=ζ t;have av:=ζ y;have J:=ξ t 0;have L:=ξ t 1;have M:=ξ t 2;simp only[qB3,zG,zH,zI] at J L M;have p0:=ξ y;clear D I t y ac
   go_quiet (first | (go_at_call 121;exact Calls.quiet_of_same (zC2 V A N _ al)) | (go_at_call 253;exact Calls.quiet_of_same (qL4 _)))
   go_wp2_with fail;obtain⟨F,ai,R⟩:∃ F,F=z.drewN nq/\Kp [] z F:=⟨_,rfl,kF.drewN _⟩;rw[<-ai];clear ai J L M p0;have ab:=(Y.tr R).drew;have ae:=(aa.out _ ab).1;have d:Ϙ F.drew G (qB3 V m k)/\Ϙ F.drew w.heap.size (.cells #[ϊ g,.int .u64 s] 84):=⟨R.hp aj,R.hp ak⟩;refine wp_region_held_drew (S:=λW=>Ϙ W G (qB3 V m k)/\Ϙ W w.heap.size (.cells #[ϊ g,.int .u64 s] 84)) kR d (λ_=>?_);refine zP 0 G 0 d ?_;refine zV 1 (ϖ G) rfl (λW f=>by have c:=ζ f.1;clear f;go_simp) d ?_;refine zP 2 G 0 d ?_;refine zV 3 (ϖ V) rfl (λW f=>by have a:=ξ f.1 0;simp only[qB3,zG,zH,zI] at a;clear f;go_simp) d ?_;refine zV 4 (.agg #[ϊ g,.int .u64 s]) rfl (λW f=>by have a:=ξ f.2;clear f;go_simp) d ?_;refine zq 5 λK hK=>?_;go_simp;refine (show Calls _ _ _ _ _ from HR _ ae).mono ?_;rintro e p ⟨ao,ad,Q⟩;have j:=n2 (Q.heap d.1 (by simpa using am)) (Q.ho d.2);have H:=zh j.1;have X:Hid (Devl V A N C l writes p/\Kp [A,G] w p):=⟨ad,(ab.mono sM).tr Q⟩;clear ad Q d R ab ae HR;rcases ao with⟨q,rfl⟩|⟨q,n,ps,u,rfl,hM,hR⟩
   .refine zk hK j ?_
    refine zU 6 (.tuple #[q,.bool false]) j ?_;refine zU 7 q j ?_;refine zU 8 (.bool false) j ?_;refine zU 9 q j ?_;refine zU 10 (.bool false) j ?_;refine zd ?_
    try simp only[zZ]
    clear j;go_wp2_with fail;refine (qP0 p).mono ?_;rintro e T ⟨rfl,o⟩;go_wp2;exact⟨rfl,.inl rfl,qD0 X.1 o (by intro k hk;cases hk),X.2.tr o⟩
   .refine zk hK j ?_
    refine zU 6 (.tuple #[ϖ q,.bool true]) j ?_;refine zP 7 q 0 j ?_;refine zU 8 (.bool true) j ?_;refine zP 9 q 0 j ?_;refine zU 10 (.bool true) j ?_;refine zd ?_
    try simp only[zZ]
    have HM:=zh (n2 hM hR);clear j hM hR;go_wp2_with fail;refine (qL4 p).mono ?_;rintro e T ⟨rfl,hw⟩;rw[hw];clear hw T;have x:=H.out;have ar:=ζ x;have J:=ξ x 0;have L:=ξ x 1;have M:=ξ x 2;simp only[qB3,zG,zH,zI] at J L M;have f1:=ψ x 1;have ay:wrap64 (m+1)=m+1:=by simp only[wrap64];omega
    clear x;go_wp2;go_ret;have an:Apt p [G] qF1:=Apt.one H dC;have o:Kp [G] p (p.setCell ⟨G,1,none⟩ (ϊ (m+1))):=kF.sc _;obtain⟨B,e3⟩:=X.out;exact⟨.inr ⟨q,n,b,ps,u,rfl,U.1,U.2.1,U.2.2,HM.1.keep o an,HM.2,μ H 1 _⟩,qD0 B o (OffD.one H dC),e3.tr o⟩
  .clear I;have d:Ϙ z.drew G (qB3 V m k)/\Ϙ z.drew w.heap.size (.cells #[ϊ g,.int .u64 s] 84)/\Ϙ z.drew V (qE4 A N):=⟨t,y,ac⟩;refine wp_region_held_drew (S:=λW=>Ϙ W G (qB3 V m k)/\Ϙ W w.heap.size (.cells #[ϊ g,.int .u64 s] 84)/\Ϙ W V (qE4 A N)) kR d (λ_=>?_);refine zP 0 w.heap.size 0 d ?_;refine zV 1 (ϊ g) rfl (λW f=>by have a:=ϻ f.2.1 0;clear f;go_simp) d ?_;refine zU 2 (.bool true) d ?_;refine zU 3 (.bool true) d ?_;refine zP 4 w.heap.size 0 d ?_;refine zV 5 (ϊ g) rfl (λW f=>by have a:=ϻ f.2.1 0;clear f;go_simp) d ?_;refine zP 6 G 0 d ?_;refine zV 7 (ϖ G) rfl (λW f=>by have c:=ζ f.1;clear f;go_simp) d ?_;refine zP 8 G 0 d ?_;refine zV 9 (ϖ V) rfl (λW f=>by have a:=ξ f.1 0;simp only[qB3,zG,zH,zI] at a;clear f;go_simp) d ?_;refine zq 10 λK hK=>?_;go_simp;refine (zC2 V A N _ d.2.2).mono ?_;rintro e p ⟨rfl,ah⟩;rw[ah];clear ah p;refine zk hK d ?_
   refine zU 11 (.bool false) d ?_;refine zU 12 (.bool false) d ?_;refine zq 13 λK hK=>?_;go_simp;refine (qP0 _).mono ?_;rintro e T ⟨rfl,o⟩;clear hK;go_wp2;obtain⟨Z,B⟩:=aa.out _ (Y.drew.tr o);exact⟨rfl,.inl rfl,Z,B⟩
 .clear I;have d:Ϙ z.drew w.heap.size (.cells #[ϊ g,.int .u64 s] 84):=y;refine wp_region_held_drew (S:=λW=>Ϙ W w.heap.size (.cells #[ϊ g,.int .u64 s] 84)) kR d (λ_=>?_);refine zP 0 w.heap.size 0 d ?_;refine zV 1 (ϊ g) rfl (λW f=>by have a:=ϻ f 0;clear f;go_simp) d ?_;refine zU 2 (.bool false) d ?_;refine zU 3 (.bool false) d ?_;refine wpAnyH_take (i:=4) (v:=undef) rfl kR kR kR (λ_ _ _ h=>h) (Or.inr ⟨by rfl,rfl⟩) d ?_;simp only[zZ];refine wpAnyH_take (i:=5) (v:=undef) rfl kR kR kR (λ_ _ _ h=>h) (Or.inr ⟨by rfl,rfl⟩) d ?_;simp only[zZ];refine wpAnyH_take (i:=6) (v:=undef) rfl kR kR kR (λ_ _ _ h=>h) (Or.inr ⟨by rfl,rfl⟩) d ?_;simp only[zZ];refine wpAnyH_take (i:=7) (v:=undef) rfl kR kR kR (λ_ _ _ h=>h) (Or.inr ⟨by rfl,rfl⟩) d ?_;simp only[zZ];refine wpAnyH_take (i:=8) (v:=undef) rfl kR kR kR (λ_ _ _ h=>h) (Or.inr ⟨by rfl,rfl⟩) d ?_;simp only[zZ];refine wpAnyH_take (i:=9) (v:=undef) rfl kR kR kR (λ_ _ _ h=>h) (Or.inr ⟨by rfl,rfl⟩) d ?_;simp only[zZ];refine wpAnyH_take (i:=10) (v:=undef) rfl kR kR kR (λ_ _ _ h=>h) (Or.inr ⟨by rfl,rfl⟩) d ?_;simp only[zZ];refine wpAnyH_take (i:=11) (v:=undef) rfl kR kR kR (λ_ _ _ h=>h) (Or.inr ⟨by rfl,rfl⟩) d ?_;simp only[zZ];refine zU 12 (.bool false) d ?_;refine zq 13 λK hK=>?_;go_simp;refine (qP0 _).mono ?_;rintro e T ⟨rfl,o⟩;clear hK;go_wp2;obtain⟨Z,B⟩:=aa.out _ (Y.drew.tr o);exact⟨rfl,.inl rfl,Z,B⟩
end
section
variable (V A N C:Nat) (l:List UInt8) (writes:Int) (hN:N≤1000) (hs0:N*128≤l.length) (hAC:C≠A) (hVA:V≠A)
include hN hs0 hAC hVA
theorem jB4(n:Nat)(x s:Int)(G g:Nat)(vp0 vl0)(y:Int)(k)(w)(Y:Devl V A N C l writes w)(O:w.heap[G]?=some (qB3 V y k))(H:w.heap[g]?=some (χ ((n+1:Nat):Int) vp0 vl0))(am:0<=y)(an:y<=1000000)(hn:n<300):
  Calls prog 254 #[.pointer (some ⟨G,0,none⟩),.pointer (some ⟨g,0,none⟩),.agg #[.int .i64 x,.int .u64 s]] w λe j=>(e=.panicked cor\/∃ q b ps p,e=.returned (.pointer (some ⟨q,0,none⟩))/\x=((b:Nat):Int)/\2<=b/\b<N/\RawM j q n ps p/\RawAt l n b s ps p/\3<=ps.length+p.length/\j.heap[G]?=some (qB3 V (y+1) k))/\Devl V A N C l writes j/\Kp [A,G] w j:=by
 have ac:Hid (∀ W,Kp [] w W->Ω 255 #[ϖ G,.agg #[ϊ x,.int .u64 s]] W λe j=>(e=.panicked cor\/∃ q n b ps p,e=ϱ (ϖ q)/\x=((b:Nat):Int)/\2<=b/\b<N/\RawM j q n ps p/\RawAt l n b s ps p/\Ϙ j G (qB3 V (y+1) k))/\Devl V A N C l writes j/\Kp [A,G] W j):=λW hW=>xA9 V A N C l writes hN hs0 hAC hVA x s G y k W (qD0 Y hW (by intro k hk;cases hk)) (hW.hp O) am an;have aq:=qA1 H O dC;have ap:g≠A:=by obtain⟨c,h⟩:=Y.hA;exact qA1 H h dC
 have ab:=zh H;clear Y O H;go_enter func254,ntmps254;go_wp2_with fail;obtain⟨w0,ai,al,E,aw⟩:=qD5 w (.cells #[ϊ x,.int .u64 s] 84);rw[<-ai];clear ai;refine (show Calls _ _ _ _ _ from ac w0 E).mono ?_;rintro e o ⟨ar,ad,P⟩;have B:Hid (∀ W,Kp [] o W->Devl V A N C l writes W/\Kp [A,G] w W):=λW hW=>⟨qD0 ad hW (by intro k hk;cases hk),((E.mono sM).tr P).tr hW⟩;have D:=zh (P.heap (E.hp ab) (by simp[ap,aq]));clear ac ad P E al ab;rcases ar with rfl|⟨q,m,b,ps,p,rfl,hb,af,ag,hM,F,ae⟩
 .go_wp2;obtain⟨r,t⟩:=B.out o kF;exact⟨rfl,.inl rfl,r,t⟩
 .have ao:=F.len;have HM:=zh hM;have L:=zh (n3 hb af ag);have HR:=zh F;have ak:=zh ae;obtain⟨J,I,u,_,_⟩:=hM;have hm:m<256:=by
   rcases F with⟨h,_⟩|⟨_,h,_⟩
   .omega
   .exact h
  have z:=D.out;have av:=ζ u;have au:=ζ z;have M:=zh u;have ax:wrap64 (((n+1:Nat):Int)-1)=(n:Int):=by simp only[wrap64];omega
  have ay:wrap64 ((n:Int)+1-1)=(n:Int):=by simp only[wrap64];omega
  have az:IntKind.i64.wrap (n:Int)=(n:Int):=by rw[wK];omega
  obtain⟨cn,X⟩:=eX (ps.length+p.length);have aa:Hid (∀ W,Kp [] o W->Ω 161 #[ϖ q] W λe j=>e=ϱ (ϊ (cn:Int))/\∃ m,j=W.drewN m):=λW hW=>by
   rw[X];exact xL2 q m ps p W (HM.keep hW (Apt.nil _ _)) oM
  have aj:=zh X;clear hb af ag F ae X ao;by_cases ah:m=n
  .have Z:(m:Int)=(n:Int):=oM
   by_cases h3:(3:Int)<=(cn:Int)
   .rw[Z] at u;have x0:=ξ u 0;simp only[χ,zG,zH,zI] at x0;have y0:=ξ z 0;simp only[χ,zG,zH,zI] at y0;clear u z;go_wp2_with fail
    go_quiet (first | (go_at_call 161;exact Calls.quiet_of (aa _ ((Kp.refl [] _).drewN _))) | (go_at_call 253;exact Calls.quiet_of_same (qL4 _)))
    go_wp2;go_ret;have T:Kp [] o (o.drewN nq):=kF.drewN _;obtain⟨r,t⟩:=B.out _ T;refine⟨.inr ⟨q,b,ps,p,rfl,L.1,L.2.1,L.2.2,?_,?_,by have:=aj.out;omega,T.hp ak⟩,r,t⟩
    .rw[<-ah];exact HM.keep T (Apt.nil _ _)
    .rw[<-ah];exact HR
   .clear u z;go_wp2_with fail;have d:Ϙ o.drew q (χ (m:Int) J I)/\Ϙ o.drew g (χ ((n+1:Nat):Int) vp0 vl0):=⟨M,D⟩;refine wp_region_held_drew (S:=λW=>Ϙ W q (χ (m:Int) J I)/\Ϙ W g (χ ((n+1:Nat):Int) vp0 vl0)) kR d (λ_=>?_);refine zP 0 q 0 d ?_;refine zV 1 (ϖ q) rfl (λW f=>by have c:=ζ f.1;clear f;go_simp) d ?_;refine zP 2 q 0 d ?_;refine zV 3 (ϊ (n:Int)) rfl (λW f=>by have a:=ξ f.1 0;simp only[χ,zG,zH,zI,Z] at a;clear f;go_simp) d ?_;refine zP 4 g 0 d ?_;refine zV 5 (ϖ g) rfl (λW f=>by have c:=ζ f.2;clear f;go_simp) d ?_;refine zP 6 g 0 d ?_;refine zV 7 (ϊ ((n+1:Nat):Int)) rfl (λW f=>by have a:=ξ f.2 0;simp only[χ,zG,zH,zI] at a;clear f;go_simp) d ?_;refine zU 8 (ϊ (n:Int)) d ?_;refine zU 9 (.bool true) d ?_;refine zU 10 (.bool true) d ?_;refine zP 11 q 0 d ?_;refine zq 12 λK hK=>?_;go_simp;refine (show Calls _ _ _ _ _ from aa _ ((Kp.refl [] _).drew)).mono ?_;rintro e w2 ⟨rfl,nn,hw⟩;have Q:Kp [] o w2:=by rw[hw];exact ((Kp.refl [] _).drew).trans ((Kp.refl [] _).drewN _) sM
    have U:=n2 (Q.hp M) (Q.hp D);refine hK.out _ _ U (λ_=>?_);clear hK K hw
    try simp only[zZ]
    refine zU 13 (.bool false) U ?_;refine zU 14 (.bool false) U ?_;refine zq 15 λK hK=>?_;go_simp;refine (qP0 _).mono ?_;rintro e w3 ⟨rfl,R⟩;clear hK;go_wp2;obtain⟨r,t⟩:=B.out _ (Q.tr R);exact⟨rfl,.inl rfl,r,t⟩
  .have Z:¬(m:Int)=(n:Int):=oM
   clear u z;go_wp2_with fail;have d:Ϙ o.drew q (χ (m:Int) J I)/\Ϙ o.drew g (χ ((n+1:Nat):Int) vp0 vl0):=⟨M,D⟩;refine wp_region_held_drew (S:=λW=>Ϙ W q (χ (m:Int) J I)/\Ϙ W g (χ ((n+1:Nat):Int) vp0 vl0)) kR d (λ_=>?_);refine zP 0 q 0 d ?_;refine zV 1 (ϖ q) rfl (λW f=>by have c:=ζ f.1;clear f;go_simp) d ?_;refine zP 2 q 0 d ?_;refine zV 3 (ϊ (m:Int)) rfl (λW f=>by have a:=ξ f.1 0;simp only[χ,zG,zH,zI] at a;clear f;go_simp) d ?_;refine zP 4 g 0 d ?_;refine zV 5 (ϖ g) rfl (λW f=>by have c:=ζ f.2;clear f;go_simp) d ?_;refine zP 6 g 0 d ?_;refine zV 7 (ϊ ((n+1:Nat):Int)) rfl (λW f=>by have a:=ξ f.2 0;simp only[χ,zG,zH,zI] at a;clear f;go_simp) d ?_;refine zU 8 (ϊ (n:Int)) d ?_;refine zU 9 (.bool false) d ?_;refine zU 10 (.bool false) d ?_;refine wpAnyH_take (i:=11) (v:=undef) rfl kR kR kR (λ_ _ _ h=>h) (Or.inr ⟨by rfl,rfl⟩) d ?_;simp only[zZ];refine wpAnyH_take (i:=12) (v:=undef) rfl kR kR kR (λ_ _ _ h=>h) (Or.inr ⟨by rfl,rfl⟩) d ?_;simp only[zZ];refine wpAnyH_take (i:=13) (v:=undef) rfl kR kR kR (λ_ _ _ h=>h) (Or.inr ⟨by rfl,rfl⟩) d ?_;simp only[zZ];refine zU 14 (.bool false) d ?_;refine zq 15 λK hK=>?_;go_simp;refine (qP0 _).mono ?_;rintro e w3 ⟨rfl,R⟩;clear hK;go_wp2;obtain⟨r,t⟩:=B.out _ (((Kp.refl [] o).drew).tr R);exact⟨rfl,.inl rfl,r,t⟩
theorem jE6(t s:Int)(G:Nat)(u:Int)(k)(w)(hd:Devl V A N C l writes w)(T:w.heap[G]?=some (qB3 V u k))(ak:0<=u)(al:u<=1000000):
  Calls prog 211 #[.pointer (some ⟨G,0,none⟩),.agg #[.int .i64 t,.int .u64 s]] w λe g=>(e=.panicked cor\/∃ q n b ps j,e=.returned (.pointer (some ⟨q,0,none⟩))/\t=((b:Nat):Int)/\2<=b/\b<N/\RawM g q n ps j/\RawAt l n b s ps j/\n<6/\min n 1<ps.length+j.length/\g.heap[G]?=some (qB3 V (u+1) k))/\Devl V A N C l writes g/\Kp [A,G] w g:=by
 have P:Hid (∀ W,Kp [] w W->Ω 255 #[ϖ G,.agg #[ϊ t,.int .u64 s]] W λe g=>(e=.panicked cor\/∃ q n b ps j,e=ϱ (ϖ q)/\t=((b:Nat):Int)/\2<=b/\b<N/\RawM g q n ps j/\RawAt l n b s ps j/\Ϙ g G (qB3 V (u+1) k))/\Devl V A N C l writes g/\Kp [A,G] W g):=λW hW=>xA9 V A N C l writes hN hs0 hAC hVA t s G u k W (qD0 hd hW (by intro k hk;cases hk)) (hW.hp T) ak al;clear hd T;go_enter func211,ntmps211;go_wp2_with fail;obtain⟨w0,ad,aj,F,aq⟩:=qD5 w (.cells #[ϊ t,.int .u64 s] 84);rw[<-ad];clear ad;refine (show Calls _ _ _ _ _ from P w0 F).mono ?_;rintro e x ⟨an,R,X⟩;have z:Hid (∀ W,Kp [] x W->Devl V A N C l writes W/\Kp [A,G] w W):=λW hW=>⟨qD0 R hW (by intro k hk;cases hk),((F.mono sM).tr X).tr hW⟩;clear P R X F aj;rcases an with rfl|⟨q,n,b,ps,j,rfl,Z,aa,ab,Y,I,U⟩
 .go_wp2;obtain⟨o,p⟩:=z.out x kF;exact⟨rfl,.inl rfl,o,p⟩
 .have am:=I.len;have M:=zh Y;have D:=zh (n3 Z aa ab);have HR:=zh I;have ah:=zh U;obtain⟨vp,vl,hq,_,_⟩:=Y;have O:=zh hq;obtain⟨Q,J⟩:=eX (ps.length+j.length);have ag:Hid (∀ W,Kp [] x W->Ω 161 #[ϖ q] W λe g=>e=ϱ (ϊ (Q:Int))/\∃ m,g=W.drewN m):=λW hW=>by
   rw[J];exact xL2 q n ps j W (M.keep hW (Apt.nil _ _)) oM
  have af:=zh J;obtain⟨y,ap,ac⟩:∃ y:Int,(if (1:Int)<(n:Int) then 1 else (n:Int))=y/\y=((min n 1:Nat):Int):=⟨_,rfl,by split<;>omega⟩;have ai:=zh ac;clear Z aa ab I U J am hq ac;go_wp2_with fail;have d:Ϙ x.drew q (χ (n:Int) vp vl):=O.out;refine wp_region_held_drew (S:=λW=>Ϙ W q (χ (n:Int) vp vl)) kR d (λ_=>?_);refine zP 0 q 0 d ?_;refine zV 1 (ϖ q) rfl (λW f=>by have c:=ζ f;clear f;go_simp) d ?_;refine zP 2 q 0 d ?_;refine zV 3 (ϊ (n:Int)) rfl (λW f=>by have a:=ξ f 0;simp only[χ,zG,zH,zI] at a;clear f;go_simp) d ?_;by_cases h6:(n:Int)<6
  .skip
   refine zU 4 (.bool true) d ?_;refine zU 5 (.bool true) d ?_;refine zP 6 q 0 d ?_;refine zP 8 q 0 d ?_;refine zV 9 (ϖ q) rfl (λW f=>by have c:=ζ f;clear f;go_simp) d ?_;refine zP 10 q 0 d ?_;refine zV 11 (ϊ (n:Int)) rfl (λW f=>by have a:=ξ f 0;simp only[χ,zG,zH,zI] at a;clear f;go_simp) d ?_;refine zU 12 (ϊ y) d ?_;refine zq 7 λK hK=>?_;go_simp;refine (show Calls _ _ _ _ _ from ag _ ((Kp.refl [] _).drew)).mono ?_;rintro e w2 ⟨rfl,nn,ae⟩;have B:Kp [] x w2:=by rw[ae];exact ((Kp.refl [] _).drew).trans ((Kp.refl [] _).drewN _) sM
   have r:=B.hp O.out;refine hK.out _ _ r (λ_=>?_);clear hK K ae
   try simp only[zZ]
   by_cases ao:y<(Q:Int)
   .skip
    refine zU 13 (.bool true) r ?_;refine zU 14 (.bool true) r ?_;refine zq 15 λK hK=>?_;go_simp;refine (qL4 w2).mono ?_;rintro e L ⟨rfl,hw⟩;rw[hw];clear hw L;refine hK.out _ _ r (λ_=>?_);refine zd ?_
    try simp only[zZ]
    have E:=zh B;clear B r d;go_wp2;go_ret;obtain⟨o,p⟩:=z.out _ E.out;exact⟨.inr ⟨q,n,b,ps,j,rfl,D.1,D.2.1,D.2.2,M.keep E (Apt.nil _ _),HR,oM,by have:=af.out;have:=ai.out;omega,E.hp ah⟩,o,p⟩
   .skip
    refine zU 13 (.bool false) r ?_;refine zU 14 (.bool false) r ?_;refine zq 15 λK hK=>?_;go_simp;refine (qP0 _).mono ?_;rintro e L ⟨rfl,H⟩;clear hK;go_wp2;obtain⟨o,p⟩:=z.out _ (B.tr H);exact⟨rfl,.inl rfl,o,p⟩
  .skip
   refine zU 4 (.bool false) d ?_;refine zU 5 (.bool false) d ?_;refine wpAnyH_take (i:=6) (v:=undef) rfl kR kR kR (λ_ _ _ h=>h) (Or.inr ⟨by rfl,rfl⟩) d ?_;simp only[zZ];refine wpAnyH_take (i:=7) (v:=undef) rfl kR kR kR (λ_ _ _ h=>h) (Or.inr ⟨by rfl,rfl⟩) d ?_;simp only[zZ];refine wpAnyH_take (i:=8) (v:=undef) rfl kR kR kR (λ_ _ _ h=>h) (Or.inr ⟨by rfl,rfl⟩) d ?_;simp only[zZ];refine wpAnyH_take (i:=9) (v:=undef) rfl kR kR kR (λ_ _ _ h=>h) (Or.inr ⟨by rfl,rfl⟩) d ?_;simp only[zZ];refine wpAnyH_take (i:=10) (v:=undef) rfl kR kR kR (λ_ _ _ h=>h) (Or.inr ⟨by rfl,rfl⟩) d ?_;simp only[zZ];refine wpAnyH_take (i:=11) (v:=undef) rfl kR kR kR (λ_ _ _ h=>h) (Or.inr ⟨by rfl,rfl⟩) d ?_;simp only[zZ];refine wpAnyH_take (i:=12) (v:=undef) rfl kR kR kR (λ_ _ _ h=>h) (Or.inr ⟨by rfl,rfl⟩) d ?_;simp only[zZ];refine wpAnyH_take (i:=13) (v:=undef) rfl kR kR kR (λ_ _ _ h=>h) (Or.inr ⟨by rfl,rfl⟩) d ?_;simp only[zZ];refine zU 14 (.bool false) d ?_;refine zq 15 λK hK=>?_;go_simp;refine (qP0 _).mono ?_;rintro e L ⟨rfl,H⟩;clear hK;go_wp2;obtain⟨o,p⟩:=z.out _ (((Kp.refl [] x).drew).tr H);exact⟨rfl,.inl rfl,o,p⟩
end
end Go.Proofs.YtdohpenfkdckiaaGreatDoor
