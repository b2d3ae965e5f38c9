import Derived.Test.YtdohpenfkdckiaaGreatDoorJ28
import Derived.Test.YtdohpenfkdckiaaGreatDoorJ29
import Derived.Test.YtdohpenfkdckiaaGreatDoorJ31
import Derived.Test.YtdohpenfkdckiaaGreatDoorJ32
import Derived.Test.YtdohpenfkdckiaaGreatDoorJ35
set_option linter.all false
set_option maxRecDepth 100000
set_option maxHeartbeats 20000000
namespace Go.Proofs.YtdohpenfkdckiaaGreatDoor.Gw
open Go.Proofs.Tryz
open Go.RowKit
theorem zH9(I:DInv)(base c:Nat)(T:Int)(i:List I.G)(k x y a b:Int)(s t)(w)(h:WOk I base T w c i)
  (H:∀ w,WOk I base T w c i->Calls prog 78 #[.pointer (some ⟨c,0,none⟩),.agg #[.int .i64 k,.int .i64 x,.int .i64 y,.int .i64 a,.int .i64 b,.string s,.string t]] w λe d=>e=.returned (.bool true)/\(∃ ds',WOk I base (T+2) d c ds')/\Below base w d):
  Calls prog 40 #[.pointer (some ⟨c,0,none⟩),.agg #[.int .i64 k,.int .i64 x,.int .i64 y,.int .i64 a,.int .i64 b,.string s,.string t]] w λe d=>e=.returned (.bool true)/\(∃ ds',WOk I base (T+2) d c ds')/\Below base w d:=by
 have f:Kp [] w (w.alloc (.cells #[ϊ k,ϊ x,ϊ y,ϊ a,ϊ b,.string s,.string t] 66)):=kF.alloc _;have g:=H _ (h.same f (iR _));have m:=zh (f.below h.hbs sM);clear H h f;go_enter func40,ntmps40;go_wp2_with fail;refine g.mono ?_;rintro e w1 ⟨rfl,⟨ds',h1⟩,h2⟩;have j:=zh h1;have l:=zh h2;clear h1 h2 g;go_wp2;go_ret;exact⟨rfl,⟨ds',j⟩,m.trans l⟩
theorem xP2(I:DInv)(base d:Nat)(T:Int)(c:List I.G)(k x y a b:Int)(s t)(w)(h:WOk I base T w d c)
  (H:∀ w,Calls prog 78 #[.pointer (some ⟨d,0,none⟩),.agg #[.int .i64 k,.int .i64 x,.int .i64 y,.int .i64 a,.int .i64 b,.string s,.string t]] w λe f=>e=.returned (.bool false)/\Kp [] w f) (p:c.length=0\/k<1):
  Calls prog 40 #[.pointer (some ⟨d,0,none⟩),.agg #[.int .i64 k,.int .i64 x,.int .i64 y,.int .i64 a,.int .i64 b,.string s,.string t]] w λe f=>e=.returned (.bool true)/\(∃ ds',WOk I base (T+2) f d ds')/\Below base w f:=by
 have o:=H (w.alloc (.cells #[ϊ k,ϊ x,ϊ y,ϊ a,ϊ b,.string s,.string t] 66));have g:=zh h;clear H h;go_enter func40,ntmps40;go_wp2_with fail;refine o.mono ?_;rintro e w1 ⟨rfl,l⟩;have j:Hid (Kp [] w w1):=(kF.alloc _).tr l;have i:=zh (g.same j (iR _));have m:=l.heap (υ w (.cells #[ϊ k,ϊ x,ϊ y,ϊ a,ϊ b,.string s,.string t] 66)) sM;obtain⟨L,nk,A,xs,K,z,n,q,r,u⟩:=i.out.hW;have C:=ζ n;have B:=ζ m;have v:=ξ n 1;simp only[qF6,zG,zH,zI] at v;have J:=ϻ m 0;clear q r u l o m n;by_cases G:(c.length:Int)=0
 .clear p;go_wp2;go_ret;exact⟨rfl,⟨c,i.same kF oM⟩,j.below g.hbs sM⟩
 .have F:k<1:=oM
  clear p;have E:¬20<k:=oM
  have D:k<10:=oM
  go_wp2
  all_goals
   go_ret;exact⟨rfl,⟨c,i.same kF oM⟩,j.below g.hbs sM⟩
theorem kN9(I:DInv)(ks:List Int)(q:∀ k∈ks,k=5\/(10<=k/\k<=20))(O:DOps I ks):zJ6 I ks:=by
 intro base c T d o w h p n m;obtain⟨k,x,y,a,b,s,t⟩:=o;obtain⟨f,g⟩:=p;simp only at f |-;rcases f with f|f
 .by_cases e:k<1
  .exact xP2 I base c T d k x y a b s t w h (λw1=>kG8 c k x y a b s t w1 e) (Or.inr e)
  .have l:k=1\/k=2\/k=3:=oM
   rcases l with rfl|rfl|rfl
   .exact zH9 I base c T d 1 x y a b s t w h (λw1 e=>kG7 I base c T d x y a b s t w1 e oM)
   .exact zH9 I base c T d 2 x y a b s t w h (λw1 e=>kG9 I base c T d x y a b s t w1 e)
   .exact zH9 I base c T d 3 x y a b s t w h (λw1 e=>kG6 I base c T d x y a b s t w1 e oM)
 .rcases q k f with rfl|i
  .exact zH9 I base c T d 5 x y a b s t w h (λw1 e=>kG5 I base c T d x y a b s t w1 e oM g.x g.a g.b)
  by_cases j:d.length=0
  .exact xP2 I base c T d k x y a b s t w h (λw1=>xL2 c k x y a b s t w1 oM) (Or.inl j)
  .exact kN8 I ks O base c T d k x y a b s t w h n m g f i.1 i.2 j
end Go.Proofs.YtdohpenfkdckiaaGreatDoor.Gw
namespace Go.Proofs.YtdohpenfkdckiaaGreatDoor
open Go.Proofs.Tryz
open Go.RowKit
def qT5:ByteArray:=⟨#[255,255,255,255,255,255,255,255,255]⟩
theorem xH4:∀ (a) (n:Nat),a.length<n->Op.bytesLess a (List.replicate n 255)=true
 | [],n,h=>by
  obtain⟨m,rfl⟩:∃ m,n=m+1:=⟨n-1,by simp at h;omega⟩;rfl
 | x::a,n,h=>by
  obtain⟨m,rfl⟩:∃ m,n=m+1:=⟨n-1,by simp at h;omega⟩;have c:=xH4 a m (by simp at h;omega);rw[List.replicate_succ,Op.bytesLess,c];by_cases e:x=255
  .simp[e]
  .have d:x.toNat≠255:=λh=>e (UInt8.toNat_inj.1 h);have f:=x.toNat_lt;have b:x<255:=UInt8.lt_iff_toNat_lt.2 (by show x.toNat<255;omega);simp[b]
theorem kL5{ps}(h:∀ p∈ps,qC6 p)(c:ps.length<=1048576):qH1 ps ⟨#[]⟩ qT5 1048576=ps:=by
 unfold qH1;have e:ps.filter (inR ⟨#[]⟩ qT5)=ps:=List.filter_eq_self.2 λp d=>by
  have f:=(h p d).2.1;unfold inR;rw[qN5];have a:=xH4 p.k.toList 9 (by rw[ByteArray.toList_eq,Array.length_toList];have e:p.k.data.size=p.k.size:=rfl;omega);have b:qT5.toList=List.replicate 9 255:=by rw[ByteArray.toList_eq];rfl
  simp only[kl,b,a];rfl
 rw[e];exact tL c
def zJ3(B db St A C n kk:Nat)(s:Sto)(l:List UInt8)(wr:Int)(nw:Root)(k:KF)(w w':World):Prop:=Kp [B,St,s.M,A] w w'∧∃ s' D' v gm gw cw',Sh w' db St A C n 1 s' D' l wr nw∧Maps.size D'=0∧(∀ m,Maps.has D' (χ m)=false)∧s'=s.read.left (s.bg+1)∧SPR w' v nw.cont∧w'.heap[B]?=some (kob { k.only gm gw kk cw' with c:=v,com:=0,x:=some ⟨db,0,none⟩ })∧w'.ownsRow w.heap.size 126 1 (.slice (some ⟨gm,0,none⟩) 1 1) 1 [v]∧RowM w' w.heap.size (.slice (some ⟨gw,0,none⟩) (kk+1) cw') (kk+1)
theorem jP3(B M St A C n:Nat)(s)(l)(wr:Int)(nw)(k:KF)(w)(I:w.heap[B]?=some (kob k))(cr:k.A=A)(ca:k.wild=false)(y:Sh w M St A C n 0 s emp l wr nw)(ay:s.bg=0)
  (base r b cw:Nat) (pw) (mv) (bp:k.may=.slice (some ⟨r,0,none⟩) 1 1) (bz:k.were=.slice pw b cw) (P:w.ownsRow base 126 1 (.slice (some ⟨r,0,none⟩) 1 1) 1 [mv]) (bo:SPR w mv nw.cont) (hk:RowM w base (.slice pw b cw) b) (bm:b<=100000):
  Calls prog 131 #[.pointer (some ⟨B,0,none⟩),.pointer (some ⟨M,0,none⟩)] w λe w'=>e=.returned (.bool true)/\zJ3 B M St A C n b s l wr nw k w w':=by
 have c3:=ζ I;obtain⟨cA,hA⟩:=y.hA;have bq:=(zH1 y.good).2;have br:=(qZ9 y.lie y.good y.N4).2;have cj:=hid (show qH1 nw.cont ⟨#[]⟩ qT5 1048576=nw.cont from kL5 bq oM);have be:=hid br;have HB:=hid I;have o:=hid (show k.may=.slice (some ⟨r,0,none⟩) 1 1/\k.were=.slice pw b cw/\w.ownsRow base 126 1 (.slice (some ⟨r,0,none⟩) 1 1) 1 [mv]/\RowM w base (.slice pw b cw) b/\SPR w mv nw.cont/\b<=100000 from⟨bp,bz,P,hk,bo,bm⟩);have HA:=hid hA;subst cr;have b0:=ξ I 0;simp only[kob,zG,zH,zI] at b0;have a4:=hid (show Ω 29 #[ϖ M,.bool false] w _ from y.beginR dC dC (by rw[ay];decide));have V:=hid (show B ∉ [St,s.M]/\B≠k.A from⟨by simp only[mC,lN,or_false,not_or];exact⟨ω I y.hSt dC,qC5 I y.hM⟩,ω I hA dC⟩);have cl:=hid ca;have bc:=hid y;have HZ:=hid ay;clear I P bo hk bp bz bm hA bq br ca y ay;go_enter func131,ntmps131;go_wp2_with fail;refine (qK6 k.A n C _ cA wr w HA).mono ?_;rintro e w ⟨rfl,rfl⟩;go_wp2_with fail;refine (show Calls _ _ _ _ _ from a4).mono ?_;rintro e w1 ⟨x,t,D1,rfl,cb,bt,bu,ct,cu,cv,ao,bi,aw,ar⟩;have cf:=hid ao;have cc:=hid (ao.heap HB V.1);have j:=hid (show t.St=St/\t.nr=s.bg+1/\w.heap.size<=x/\D1=emp.put (χ (s.bg+1)) (qG8 ⟨⟨#[]⟩,s.rb,s.rs,none⟩) from⟨bt,bu,cb,bi⟩);have al:=hid (show Ω 71 #[ϖ x,.string ⟨#[]⟩,.string qT5,ϊ 1048576] w1 _ from xO2 aw.E x k.A n t s.read nw ⟨#[]⟩ qT5 1048576 w1 ar dC dC);have a8:=hid ar;rw[cj.out,qT5] at al;clear cb bt bu ct cu cv ao bi ar b0 a4
 go_wp2_with (go_at_call 24;refine (zT4 _).mono ?_;rintro e w1 ⟨rfl,rfl⟩)
 go_wp2_with (go_at_call 127;refine (qH6 _ _).mono ?_;rintro e w1 ⟨rfl,rfl⟩)
 refine (show Calls _ _ _ _ _ from al).mono ?_;rintro e w2 ⟨v,rfl,hv,an⟩;obtain⟨ah,au⟩:=aw.again a8 j.1 an;have ac:Kp [t.St,k.A] w1 w2:=an.kp;rw[j.out.1] at ac;have a3:=hid (ac.heap cc (by simp only[mC,lN,or_false,not_or];exact⟨λe=>V.1 (by simp[e]),V.2⟩));have cg:=hid ac;obtain⟨vb,cy,rfl⟩:=hv.form;obtain⟨vn,a1⟩:=eX nw.cont.length;have ck:=hid a1;have bb:=hid hv;have a2:=hid (show Ω 36 #[ϖ x] w2 _ from ah.abort au j.1 (by rw[j.out.2.1,HZ.out];decide) (by rw[j.out.2.1,HZ.out];decide));have bg:=hid au.hx;rw[<-a1];clear an ac a1 au al a8
 go_wp2_with (go_at_call 24;refine (zT4 _).mono ?_;rintro e w2 ⟨rfl,rfl⟩)
 go_wp2_with (go_at_call 127;refine (qH6 _ _).mono ?_;rintro e w2 ⟨rfl,rfl⟩)
 refine (show Calls _ _ _ _ _ from a2).mono ?_;rintro e J ⟨rfl,cx,bk,ad⟩;have ag:s.read.M=s.M:=rfl;have bh:=ω a3 bg dC;have Q:=hid (ad.heap a3 (by rw[ag];simp only[mC,lN,or_false,not_or];exact⟨λe=>V.1 (by simp[e]),bh,λe=>V.1 (by simp[e])⟩));have T:=hid (show Kp [St,s.M,k.A] w J from ((cf.mono (by simp +contextual)).trans cg (by simp +contextual)).trans ad (by
  intro i hi c6;have:=j.out.2.2.1;rw[ag] at hi;simp only[mC,lN,or_false] at hi |-;omega))
 have az:=bb.out.keep ad (λq a c d e=>by
  rw[ag] at a;simp only[mC,lN,or_false] at a;rcases a with rfl|rfl|rfl
  .rw[ah.hSt] at e;cases e
  .rw[bg.out] at e;cases e
  .exact absurd rfl (qC5 e ah.hM))
 rw[<-ck.out] at az;have G:∀ q c t d,w.heap[q]?=some (.cells c t d)->q∈[St,s.M,k.A]->t≠126/\t≠284:=λq c t d e a=>by
  simp only[mC,lN,or_false] at a;rcases a with rfl|rfl|rfl
  .rw[bc.out.hSt] at e;cases e;decide
  .exact absurd rfl (qC5 e bc.hM)
  .rw[HA.out] at e;cases e;decide
 have ak:=hid (show J.ownsRow base 126 1 (.slice (some ⟨r,0,none⟩) 1 1) 1 [mv]/\RowM J base (.slice pw b cw) b/\SPR J mv nw.cont from⟨qF1 o.2.2.1 T λq c t d e a=>(G q c t d e a).1,o.2.2.2.1.kp T λq c t d e a=>(G q c t d e a).1,o.2.2.2.2.1.keep T λq a c t d e P=>(G q c t d e a).2 (mS P)⟩);have g:=hid bk;have ax:=Q.out;have co:=ζ ax;clear ad G cx ah aw a2 bk ag bh bb;go_wp2_with fail;refine (show Calls _ _ _ _ _ from (by have h:=xL3 (.slice vb vn cy) nw.cont J az.sp (by have:=be.out;omega);exact h)).mono ?_;rintro e H ⟨v4,rfl,av,N⟩;obtain⟨E,z,rfl⟩:=av.form;obtain⟨D,a0⟩:=eX nw.cont.length;rw[<-a0];have F:=N.hp ax;have ai:=hid F;have c4:=ζ F;have bf:=hid (show SPR H (.slice E D z) nw.cont from by rw[a0];exact av.sp);have U:=hid (show H.ownsRow base 126 1 (.slice (some ⟨r,0,none⟩) 1 1) 1 [mv]/\RowM H base (.slice pw b cw) b/\SPR H mv nw.cont from⟨qF1 ak.1 N (λ_ _ _ _ _ h=>by cases h),ak.2.1.keep N (by intro q a;cases a),ak.2.2.keep0 N⟩);have a6:=hid (show Kp [] J H from N);have W:=ξ F 1;have b2:=ξ F 2;have b3:=ξ F 3;have b4:=ξ F 4;have L:=ξ F 5;have b6:=ξ F 6;simp only[kob,zG,zH,zI] at W b2 b3 b4 L b6;rw[o.out.1] at b2;rw[o.out.2.1] at b4;have a5:=hid (jR4 base r (.slice pw b cw) mv (.slice E D z) k.n k.emp k.wild k.bit nw.cont H U.1 U.2.2 bf (by have:=be.out;omega));clear av a0 F N ax az co;go_wp2_with fail;refine (show Calls _ _ _ _ _ from a5).mono ?_;rintro e w5 ⟨rfl,ap⟩;have O:=ap.hp ai.out;have c5:=ζ O;clear W b2 b3 b4 L b6 a5;have L:=ξ O 5;have b8:=ξ O 8;simp only[kob,zG,zH,zI] at L b8;have cn:=φ O 8;rw[cl.out] at L;have cd:=hid O;have ch:=hid ap;clear O ap;go_wp2_with fail;obtain⟨f,bv,am,ae⟩:∃ f,f=w5.setCell ⟨B,8,none⟩ (.slice E D z)/\f.heap[B]?=some (kob { k with c:=.slice E D z })/\Kp [B] H f:=⟨_,rfl,μ cd 8 _,(ch.mono sM).sc _⟩;rw[<-bv];clear bv L b8 cn;have S:=hid am;have aj:=hid ae;have G:∀ q c t d,H.heap[q]?=some (.cells c t d)->q∈[B]->t≠126:=λq c t d e a=>by
  rw[mS a,ai.out] at e;cases e;decide
 have a9:=hid (show RowM f.drew base (.slice (some ⟨r,0,none⟩) 1 1) 1/\RowM f.drew base (.slice pw b cw) b from⟨(RowM.kp ⟨_,λu hu=>by rw[mS hu];obtain⟨p,c,e⟩:=U.out.2.2.form;exact⟨p,_,c,e⟩,U.1⟩ ae G).keep ((Kp.refl [] _).drew) (by intro q a;cases a),(U.2.1.kp ae G).keep ((Kp.refl [] _).drew) (by intro q a;cases a)⟩);have c0:B<f.drew.heap.size:=ζ am;clear am ae G;refine shr (α:=Prop) (R:=λX=>X) ?_;apply Exists.intro;apply And.intro
 rotate_left
 .intro HREST;refine wp_region_any kR ?_;change wpAny _ _ _ _ _ _ _ (World.drew _);refine zu 0 (ϖ B) ?_;refine zu 1 (ϖ B) ?_;refine zu 2 (ϖ B) ?_;refine zu 3 (.pointer (some ⟨B,1,none⟩)) ?_;refine zu 5 (ϖ B) ?_;refine zu 6 (ϖ B) ?_;refine zu 7 (.pointer (some ⟨B,8,none⟩)) ?_;refine wpAny_ready (rs:=[4,8]) kR sM ?_;refine AllReady.cons rfl (λK hK=>?_) (AllReady.cons rfl (λK hK=>?_) AllReady.nil)
  .refine qF3 rfl (qO3 (t:=123) rfl kR 6 kR B 1 rfl (show f.drew.heap[B]?=_ from S) (by simp[kob]) (show _=#[ϊ k.n,.slice (some ⟨r,0,none⟩) 1 1,.bool k.emp,.slice pw b cw,.bool k.wild,.bool k.bit] from by simp only[kob];rw[o.out.1,o.out.2.1];rfl)) ?_;refine hK _ _ ?_
   try simp only[zZ]
   refine zQ 8 λK hK=>?_;refine qF3 rfl (qO3 (t:=126) rfl kR 1 kR B 8 rfl (show f.drew.heap[B]?=_ from S) (by simp[kob]) (show _=#[.slice E D z] from rfl)) ?_;refine hK _ _ ?_
   try simp only[zZ]
   exact HREST
  .refine qF3 rfl (qO3 (t:=126) rfl kR 1 kR B 8 rfl (show f.drew.heap[B]?=_ from S) (by simp[kob]) (show _=#[.slice E D z] from rfl)) ?_;refine hK _ _ ?_
   try simp only[zZ]
   refine zQ 4 λK hK=>?_;refine qF3 rfl (qO3 (t:=123) rfl kR 6 kR B 1 rfl (show f.drew.heap[B]?=_ from S) (by simp[kob]) (show _=#[ϊ k.n,.slice (some ⟨r,0,none⟩) 1 1,.bool k.emp,.slice pw b cw,.bool k.wild,.bool k.bit] from by simp only[kob];rw[o.out.1,o.out.2.1];rfl)) ?_;refine hK _ _ ?_
   try simp only[zZ]
   exact HREST
 refine zQ 9 λK hK=>?_;go_simp;refine (zR2 base 1 1 b cw _ pw k.n k.emp k.wild k.bit E D z f.drew a9.1 a9.2 oM o.2.2.2.2.2).mono ?_;rintro e w7 ⟨gm,gw,ab,rfl,bn,b9,aq⟩;have aa:=aq.heap (k:=B) S sM;have bd:=hid aa;have a7:=hid aq;have ba:=hid (And.intro bn b9);have c1:=ζ aa;refine hK _ _ ?_;clear hK K aq bn b9
 try simp only[zZ]
 refine zu 10 (ϖ B) ?_;refine zu 11 (.pointer (some ⟨B,1,none⟩)) ?_;have W:=ξ aa;simp only[kob,zG,zH,zI] at W;have cm:=φ aa;clear aa;refine zQ 12 λK hK=>?_;go_simp;refine hK _ _ ?_;refine wpAny_done kR ?_ _;obtain⟨w8,bw,Y,bj⟩:∃ w8,w8=(((((w7.setCell ⟨B,1,none⟩ (ϊ k.n)).setCell ⟨B,2,none⟩ (.slice (some ⟨gm,0,none⟩) 1 1)).setCell ⟨B,3,none⟩ (.bool false)).setCell ⟨B,4,none⟩ (.slice (some ⟨gw,0,none⟩) (b+1) ab)).setCell ⟨B,5,none⟩ (.bool k.wild)).setCell ⟨B,6,none⟩ (.bool k.bit)/\w8.heap[B]?=some (kob { k.only gm gw b ab with c:=.slice E D z })/\Kp [B] w7 w8:=
  ⟨_,rfl,μ (μ (μ (μ (μ (μ bd 1 _) 2 _) 3 _) 4 _) 5 _) 6 _,(((((((Kp.refl [B] w7).sc _).sc _).sc _).sc _).sc _).sc _)⟩
 rw[<-bw];clear bw W cm;have c2:=ζ Y;have b7:=ξ Y;simp only[kob,zG,zH,zI] at b7;have cz:=φ Y;have ce:=hid Y;have ci:=hid bj;clear Y bj;go_wp2;go_ret;obtain⟨w9,bx,cp,af⟩:∃ w9,w9=(w8.setCell ⟨B,7,none⟩ (ϖ M)).setCell ⟨B,9,none⟩ (ϊ 0)/\w9.heap[B]?=some (kob { k.only gm gw b ab with c:=.slice E D z,com:=0,x:=some ⟨M,0,none⟩ })/\Kp [B] w7 w9:=⟨_,rfl,μ (μ ce 7 _) 9 _,(ci.sc _).sc _⟩;rw[<-bx];clear bx;have Z:Kp [B] J w9:=(((a6.mono sM).tr aj).trans (((Kp.refl [] _).drew).tr a7) sM).tr af;have cq:=(aj.trans (((Kp.refl [] _).drew).tr a7) sM).tr af;have bl:∀ q c t d,w7.heap[q]?=some (.cells c t d)->q∈[B]->t≠126:=λq c t d e a=>by
  rw[mS a,bd.out] at e;cases e;decide
 have bs:w.heap.size<=f.drew.heap.size:=by
  have h1:=T.out.size;have h2:=a6.out.size;have h3:=aj.out.size;show w.heap.size<=f.heap.size;omega
 have cs:=OffD.one Q dC;obtain⟨m1,m2,m3,m4⟩:=g.out.neDb;refine⟨rfl,(T.mono (by simp +contextual)).trans Z (by simp +contextual),_,_,.slice E D z,gm,gw,ab,g.turn Z (by simpa using ω g.hDb Q dC) (qF8 g.dev Z cs) ⟨rfl,rfl,rfl,rfl,rfl,rfl⟩ (Z.heap g.hSt (by simpa using ω g.hSt Q dC)) (g.hM.kp Z (by simpa using (qC5 Q g.hM).symm)) g.m4 g.n1 g.bg0 g.kb g.rd,?_,?_,by rw[j.out.2.1],bf.keep cq (λq a c t d e P=>by rw[mS a,ai.out] at e;cases e;revert P;decide),cp,qF1 (qK4 ba.1 bs) af bl,(ba.2.le bs).kp af bl⟩
 .rw[j.out.2.1,j.out.2.2.2,HZ.out];rfl
 .intro m;rw[j.out.2.1,j.out.2.2.2,HZ.out];rfl
def MayQ(base:Nat)(w:World)(may:Value):Option Root→Prop
 | none=>∃ pm cm,may=.slice pm 0 cm∧RowM w base (.slice pm 0 cm) 0
 | some r=>∃ g mv,may=.slice (some ⟨g,0,none⟩) 1 1∧w.ownsRow base 126 1 (.slice (some ⟨g,0,none⟩) 1 1) 1 [mv]∧SPR w mv r.cont
theorem MayQ.kp{base:Nat}{w w'}{may}{q:Option Root}{S}(h:MayQ base w may q)(hK:Kp S w w')(j:∀ i c t a,w.heap[i]?=some (.cells c t a)->i∈S->t≠126/\t≠284):MayQ base w' may q:=by
 cases q with
 | none=>
  obtain⟨n,k,d,f⟩:=h;exact⟨n,k,d,f.kp hK λq c t a e b=>(j q c t a e b).1⟩
 | some r=>
  obtain⟨g,m,d,f,l⟩:=h;exact⟨g,m,d,qF1 f hK λq c t a e b=>(j q c t a e b).1,l.keep hK λq b c t a e hm=>(j q c t a e b).2 (mS hm)⟩
def zC3(B A C n kk:Nat)(l:List UInt8)(wr N:Int)(q:Option Root)(k:KF)(w w':World):Prop:=(w'.heap[B]?=some (kob k.shut)∧Dvl A n C l wr w'∧Kp [B,A,C] w w')∨
 ∃ r V M St db rb rs w2,q=some r∧w.heap.size≤V∧w.heap.size≤M∧w.heap.size≤St∧w.heap.size≤db∧Kp [B,A,C] w w2∧zJ3 B db St A C n kk ⟨V,M,N,rb,rs,qC9 r,false,0,0⟩ l wr r k.shut w2 w'
theorem kF2(B A n C:Nat)(k:KF)(l)(wr N:Int)(q:Option Root)(w)(F:w.heap[B]?=some (kob k))(bb:k.A=A)(bc:k.n=n)(a1:k.wild=false)(aq:k.emp=false)(i:Dvl A n C l wr w)(hs:n*128<=l.length)(hl:8<=n->n<=400->qS5 n l N q)(am:0<=N)(hg:w.cell? ⟨0,0,none⟩=some qE9)(h0:0<B/\0<A/\0<C)
  (base j cw:Nat) (pw) (a0:k.were=.slice pw j cw) (s:MayQ base w k.may q) (U:RowM w base (.slice pw j cw) j) (av:j<=100000):
  Calls prog 81 #[.pointer (some ⟨B,0,none⟩)] w λe w'=>e=.returned (.bool true)/\zC3 B A C n j l wr N q k w w':=by
 have ba:=ζ F;obtain⟨cA,R⟩:=i.hA;have HB:=hid F;have H:=hid (show B≠A/\B≠C from⟨ω F R dC,ω F i.hC dC⟩);have x:=hid (And.intro i (And.intro hs (And.intro hl am)));have y:=hid (And.intro a0 (And.intro s (And.intro U av)));have HG:=hid (And.intro hg h0);have X:=hid (And.intro a1 aq);subst bc bb;clear F i hs hl am a0 s U av hg h0 a1 aq R;go_enter func81,ntmps81;go_wp2_with fail;refine (zZ4 B k w HB).mono ?_;rintro e w1 ⟨rfl,S,aa⟩;have ag:=x.out.1.kp aa (by simpa using H.1.symm) (by simpa using H.2.symm);obtain⟨a8,ak⟩:=ag.hA;have bd:=ζ S;have b0:=ξ S 0;simp only[kob,KF.shut,zG,zH,zI] at b0;have a2:=hid S;have ai:=hid aa;have ah:=hid (show Ω 43 #[ϖ k.A] w1 _ from kF1 ag x.2.1 x.2.2.1 x.2.2.2);clear S aa ag;go_wp2_with fail;refine (qK6 k.A k.n C _ a8 wr w1 ak).mono ?_;rintro e w1 ⟨rfl,rfl⟩;clear ak;go_wp2_with fail;refine (show Calls _ _ _ _ _ from ah).mono ?_;rintro e w2 ⟨v,ko,xo,rfl,hv,ab,aw⟩;have a5:=hid (show B ∉ [k.A,C] from by simp[H.out.1,H.out.2]);have al:=ab.heap a2 a5.out;have ae:Kp [B,k.A,C] w w2:=(ai.mono sM).trans ab (by simp +contextual);have au:=(ae.cell (a:=⟨0,0,none⟩) (Nat.lt_of_le_of_lt (zL B) ba) (by have h:=HG.out.2;simp;omega)).trans HG.1;have Z:=hid ae;have I:=hid ai.size;have a7:=hid aw;have a3:=hid al;clear aw ab ae b0 al ah;go_wp2_with fail;refine (qJ7 v ko w2 au hv).mono ?_;rintro e w3 ⟨rfl,ac⟩;have o:=ac.hp a3.out;have a9:=ζ o;have J:=ξ o 1;have z:=ξ o 2;have D:=ξ o 3;have K:=ξ o 4;have E:=ξ o 5;have L:=ξ o 6;simp only[kob,KF.shut,zG,zH,zI] at J z D K E L;have a4:=hid o;have a6:=hid ac;clear ac au hv o
 go_wp2_with (go_at_call 127;refine (qH6 _ _).mono ?_;rintro e w3 ⟨rfl,rfl⟩)
 refine (xB6 _ _ k.n _ _ _ w3).mono ?_;rintro e u ⟨rfl,ad⟩;have d:=ad.hp a4.out;have be:=ζ d;have m:=hid (show Kp [] w2 u from a6.tr ad);have W:=hid d;clear ad J z D K E L a9;rcases a7 with⟨rfl,r,V,M,St,O,rb,rs,f,rfl,hV,hM,ao,ap,b⟩|⟨rfl,f,p,rfl,i⟩|⟨rfl,p,rfl,i⟩
 .have p:=n2 b.N8 b.N4;rw[decide_eq_true p];simp only[Option.getD_none];have T:=Z.out.tr m.out;have af:∀ q c t P,w.heap[q]?=some (.cells c t P)->q∈[B,k.A,C]->t≠126/\t≠284:=λq c t P e f=>by
   simp only[mC,lN,or_false] at f;obtain⟨c0,R⟩:=x.out.1.hA;rcases f with rfl|rfl|rfl
   .rw[HB.out] at e;cases e;decide
   .rw[R] at e;cases e;decide
   .rw[x.out.1.hC] at e;cases e;decide
  have an:=b.turn m sM (qF8 b.dev m (by intro k U;cases U)) ⟨rfl,rfl,rfl,rfl,rfl,rfl⟩ (m.hp b.hSt) (b.hM.kp m sM) b.m4 b.n1 b.bg0 b.kb b.rd;have s:=y.out.2.1.kp T af;rw[f] at s;obtain⟨g,mv,ax,ay,az⟩:=s;have ar:=jP3 B O St k.A C k.n ⟨V,M,N,rb,rs,qC9 r,false,0,0⟩ l wr r k.shut u W rfl X.1 an rfl base g j cw pw mv ax y.1 ay az (y.2.2.1.kp T λq c t P e f=>(af q c t P e f).1) y.2.2.2;have HF:=hid (show Ω 131 #[ϖ B,ϖ O] u _ from ar);have aj:=hid (show ∀ G,zJ3 B O St k.A C k.n j ⟨V,M,N,rb,rs,qC9 r,false,0,0⟩ l wr r k.shut u G->zC3 B k.A C k.n j l wr N q k w G from λG Q=>.inr ⟨r,V,M,St,O,rb,rs,u,f,lT I hV,lT I hM,lT I ao,lT I ap,T,Q⟩);clear ar ax ay az af T an b f hV hM ao ap p d;go_wp2_with fail;refine (show Calls _ _ _ _ _ from HF).mono ?_;rintro e G ⟨rfl,Q⟩;have H5:=hid (aj G Q);clear Q HF aj;go_wp2;go_ret;exact⟨rfl,H5⟩
 .rw[decide_eq_true p];simp only[Option.getD_some];have s:=y.out.2.1;rw[f] at s;obtain⟨pm,cm,hm,_⟩:=s;have Y:=hid (show zC3 B k.A C k.n j l wr N q k w u from .inl ⟨W,i.kp m sM sM,Z.tr m⟩);have J:=ξ d 1;have z:=ξ d 2;have D:=ξ d 3;have K:=ξ d 4;have E:=ξ d 5;have L:=ξ d 6;simp only[kob,KF.shut,zG,zH,zI] at J z D K E L;rw[hm] at z;rw[X.out.1] at E;rw[X.out.2] at D;clear p f i d hm;go_wp2;go_ret;exact⟨rfl,Y⟩
 .rw[decide_eq_false p];simp only[Option.getD_some];have Y:=hid (show zC3 B k.A C k.n j l wr N q k w u from .inl ⟨W,i.kp m sM sM,Z.tr m⟩);clear p i d;go_wp2;go_ret;exact⟨rfl,Y⟩
theorem jH3(St:Nat)(s)(h)(w)(d:w.heap[St]?=some (θ 1 s))
  (k:∀ W:World,Sem.run prog (Op.equalIn 10000 89 (τ s.V h) (τ s.V ⟨⟨#[]⟩,s.rb,s.rs,none⟩)) W=.ok true W):
  Calls prog 70 #[.pointer (some ⟨St,0,none⟩),τ s.V h] w λe m=>e=.returned (.tuple #[])/\Kp [] w m:=by
 have j:=zh d;clear d;rw[τ,show τ s.V ⟨⟨#[]⟩,s.rb,s.rs,none⟩=.agg #[ϖ s.V,.string ⟨#[]⟩,ϊ s.rb,.int .u64 s.rs,.pointer none] from rfl] at k;rw[τ];go_enter func70,ntmps70;go_wp2_with fail;obtain⟨n,g,f,a,p⟩:=qF7 w (.cells (ϟ s.V h) 89);rw[<-g];clear g;refine (zA6 St 1 s n (a.hp j)).mono ?_;rintro e w1 ⟨rfl,b⟩;rw[show τ s.V ⟨⟨#[]⟩,s.rb,s.rs,none⟩=.agg #[ϖ s.V,.string ⟨#[]⟩,ϊ s.rb,.int .u64 s.rs,.pointer none] from rfl];have c:=b.hp f;have o:=ζ c;have t:=ξ c;have i:=zh (a.tr b);clear a b f c;go_wp2;refine bodyPost_ret (results_none results70 _ _ _) rfl ?_;exact⟨rfl,i.alloc _⟩
section
variable {w:World} {db St A C N nM:Nat} {s:Sto} {D:DataW Unit} {l:List UInt8} {wr:Int} {nw:Root}
theorem LiveT.lie{E':SEnv}{x:Nat}{t:Tx}{r:Root}{i:N<=1000}{m:N*128<=l.length}{g:C≠A}{j:s.V≠A}(h:LiveT (EL s.V A N C l wr i m g j) w x A N t s r)(k:t.h.p=none):Lie N l t.h.b t.h.s r:=by
 have c:=h.rr
 cases r with
 | none=>rw[show t.h=_ from c];exact⟨rfl,rfl⟩
 | «at» n L=>
  have a:=c.2
  cases hx:L.ref with
  | none=>
   rw[hx] at a;obtain⟨_,_,q,e,_⟩:=a;rw[k] at e;cases e
  | some x=>
   rw[hx] at a;obtain⟨d,b,_,f⟩:=a;refine⟨x.1,d,?_,?_⟩
   .rw[hx,b]
   .rw[b];exact f
theorem Sh.commits(a:Sh w db St A C N nM s D l wr nw){x:Nat}{t}{r}(d:LiveT a.E w x A N t s r)(J:t.St=St)(K:t.wrt=true)(E:0<=t.nr)(F:t.nr<=1000000000)(aa:s.N<=999999999):
  Calls prog 31 #[.pointer (some ⟨x,0,none⟩)] w λe f=>∃ v k,e=.returned v/\ErrV f v k/\f.heap[x]?=some (qA1 t.ended)/\Kp [St,x,s.M,A,C] w f/\((k=none/\∃ b j wr' m,Sh f db St A C N nM b (D.del (χ t.nr)) j wr' m/\m.cont=r.cont/\s.N<=b.N/\b.N<=s.N+2/\b.bg=s.bg/\b.wr=(s.left t.nr).wr/\b.V=s.V/\b.M=s.M/\j.length=l.length/\zC2 N (D.del (χ t.nr)) l j/\(wr'=wr\/(wr'=nx (nk (nx wr) r.news)/\r.lev<=5)))\/(k=some 3/\Sh f db St A C N nM (s.left t.nr) (D.del (χ t.nr)) l wr nw/\∀ U,zC0 N (D.del (χ t.nr)) l U->N<2+r.news+qC9 r+qC9 nw+meas Prod.snd U)):=by
 have ad:=a.hM.tidy qM4;have ah:=Maps.size_del (k:=χ t.nr) ad;have ag:=a.m4;have u:∀ k,Maps.has (D.del (χ t.nr)) k=true->Maps.has D k=true/\∀ zd,(D.del (χ t.nr)).atKey k zd=D.atKey k zd:=λk g=>by
  by_cases e:k=χ t.nr
  .rw[e,Maps.has_del_same] at g;cases g
  .rw[Maps.has_del_other e] at g;exact⟨g,λzd=>Maps.atKey_del_other e zd⟩
 have I:(∀ W:World,Sem.run prog (Op.equalIn 10000 89 (τ s.V t.h) (τ s.V ⟨⟨#[]⟩,s.rb,s.rs,none⟩)) W=.ok false W)->Ω 31 #[ϖ x] w λe f=>∃ v k,e=ϱ v/\ErrV f v k/\Ϙ f x (qA1 t.ended)/\Kp [St,x,s.M,A,C] w f/\((k=none/\∃ b j wr' m,Sh f db St A C N nM b (D.del (χ t.nr)) j wr' m/\m.cont=r.cont/\s.N<=b.N/\b.N<=s.N+2/\b.bg=s.bg/\b.wr=(s.left t.nr).wr/\b.V=s.V/\b.M=s.M/\j.length=l.length/\zC2 N (D.del (χ t.nr)) l j/\(wr'=wr\/(wr'=nx (nk (nx wr) r.news)/\r.lev<=5)))\/(k=some 3/\Sh f db St A C N nM (s.left t.nr) (D.del (χ t.nr)) l wr nw/\∀ U,zC0 N (D.del (χ t.nr)) l U->N<2+r.news+qC9 r+qC9 nw+meas Prod.snd U)):=λz=>by
  refine (kM5 a x t r d J K E F z aa u oM).mono ?_;rintro e f ⟨v,k,M,O,P,Q,R⟩;refine⟨v,k,M,O,P,Q,R.imp ?_ id⟩;rintro⟨S,b,j,m,X,Y,b4,Z,b6,b7,b8,b9,T,V⟩;exact⟨S,b,j,_,m,X,Y,oM,oM,Z,b6,b7,b8,b9,T,.inr ⟨rfl,V⟩⟩
 cases hp:t.h.p with
 | some q=>exact I (λW=>kQ3 s.V q t.h s.rb s.rs hp d.key W)
 | none=>
  by_cases n:t.h.b=s.rb/\t.h.s=s.rs
  .have z:∀ W:World,Sem.run prog (Op.equalIn 10000 89 (τ s.V t.h) (τ s.V ⟨⟨#[]⟩,s.rb,s.rs,none⟩)) W=.ok true W:=λW=>by rw[xQ1 s.V t.h s.rb s.rs hp d.key W];simp[n]
   have ab:Lie N l s.rb s.rs r:=by
    have h:=LiveT.lie (E':=a.E) d hp;rw[n.1,n.2] at h;exact h
   subst J;obtain⟨cA,hA⟩:=a.hA;have H:=(qC5 a.hSt a.hM).symm;have ae:=qC5 d.hx a.hM;have ac:=(OffD.one d.hSt dC).cons ((OffD.one d.hx dC).cons (λk g c ty fr e=>by rw[mS g] at e;exact absurd rfl (qC5 e a.hM)));obtain⟨n1,n2,n3,n4⟩:=a.neDb;refine (xP6 x nM s.V t s D [] (λk b W w1=>k=none/\b=s.left t.nr/\Kp [] W w1) w d.hx d.over a.hSt a.po a.hM E F H d.xS ae a.hM.lt d.on K sM ?_).mono ?_
   .intro W hK L p G;refine (jH3 t.St (s.left t.nr) t.h W p z).mono ?_;rintro e w1 ⟨rfl,o⟩;exact⟨none,s.left t.nr,sM,rfl,⟨rfl,rfl,o⟩,o.mono sM,o.hp p⟩
   .rintro e f ⟨k,b,v,rfl,hv,hs2,hKw,W,w1,B,hK,L,p,G,⟨rfl,rfl,hR⟩,_,hs1,hB0,hB1,hKB⟩;have ai:=ζ d.hx;have af:=a.hM.lt;refine⟨v,none,rfl,hv,hKB.heap (hR.hp L) (by simp[d.xS];omega),hKw.mono (by intro i hi _;simp at hi |-;omega),.inl ⟨rfl,s.left t.nr,l,wr,nw,?_,(Lie.one a.N1 a.lie ab).1,iR _,by show s.N<=s.N+2;omega,rfl,rfl,rfl,rfl,rfl,λ_ _ _ _ _ _ h=>h,.inl rfl⟩⟩;refine a.turn hKw (by simp[n1,n4];exact ω a.hDb d.hx dC) (qF8 (qF8 (qF8 a.dev hK ac) hR (by intro k g;cases g)) hKB (qN9 hs1 hB1)) ⟨rfl,rfl,rfl,rfl,rfl,rfl⟩ hs2 ((G.kp hR sM).kp hKB (by simp[H];omega)) oM a.n1 a.bg0 (λk g=>a.kb k (u k g).1) (λy h g1 g2 g3=>?_);obtain⟨f1,f2⟩:=u _ g1;exact a.rd y h f1 (λzd=>(f2 zd).symm.trans (g2 zd)) g3
  .exact I (λW=>by rw[xQ1 s.V t.h s.rb s.rs hp d.key W];simp[n])
end
end Go.Proofs.YtdohpenfkdckiaaGreatDoor
namespace Go.Proofs.YtdohpenfkdckiaaGreatDoor.Gc
open Go.Proofs.Tryz
open Go.RowKit
open Go.ChangeMaps
open Gw (TK Books qP6 qQ3 Muts MutC DInv qR0 DStep)
structure CG where
 cb:Nat
 Cb:Nat
 key:ByteArray
 since:Int
structure YG where
 tb:Nat
 f:TF
 t:Tx
 r:Root
 ps:List KV
 cs:List CG
def qJ9(y:YG):List Nat:=y.cs.map CG.cb
def qS4(y:YG):List Nat:=y.cs.map CG.Cb
def qG9(y:YG):List Nat:=[y.tb,y.f.x]++y.f.cs.ownBlock.toList++qJ9 y++qS4 y
structure COk(base:Nat)(w:World)(y:YG)(c:CG):Prop where
 bc:base≤c.cb
 bC:base≤c.Cb
 hc:w.heap[c.cb]?=some (qM5 c.Cb c.key (!c.key.toList.isEmpty) c.since)
 hC:w.heap[c.Cb]?=some (qD3 y.f.x c.key c.since)
 s0:0≤c.since
 s1:c.since≤y.t.ch
 at_:c.key.toList.isEmpty=false→c.since=y.t.ch→y.t.over=false→∃ j,∃ h:j<y.ps.length,y.ps[j].k=c.key
structure SG where
 Db:Nat
 St:Nat
 nM:Nat
 s:Sto
 D:DataW Unit
structure Lv(w:World)(N:Nat)(com:Int)(E:SEnv)(l:List UInt8)(q:SG)(y:YG):Prop where
 on:y.t.on=some ⟨q.s.V,0,none⟩
 rr:RR E.toEnv w y.t.h y.r
 good:RGood y.r
 cont:y.r.cont=y.ps
 wrt:y.t.wrt=true→(∃ c:Nat,y.f.chg=c∧qL9 c y.r)∧y.r.lf≤1400
 red:y.t.wrt=false→y.t.h.p=none∧Lie N l y.t.h.b y.t.h.s y.r∧(∀ zd,q.D.atKey (χ y.t.nr) zd=qG8 y.t.h)∧(y.f.com<com∨(y.t.h.b=q.s.rb∧y.t.h.s=q.s.rs))
structure YOk(base:Nat)(T:Int)(w:World)(N:Nat)(com:Int)(E:SEnv)(l:List UInt8)(q:SG)(y:YG):Prop where
 bT:base≤y.tb
 bX:base≤y.f.x
 hT:w.heap[y.tb]?=some (tob y.f)
 hx:w.heap[y.f.x]?=some (qA1 y.t)
 st:y.t.St=q.St
 sp:SPR w y.f.v y.ps
 m0:(y.ps.length:Int)≤y.f.most
 m1:y.f.most≤T
 c0:0≤y.f.chg
 c1:y.f.chg≤T
 cm:y.f.com≤com
 wr:y.f.wr=y.t.wrt
 dn:y.f.dn=y.t.over
 ch0:0≤y.t.ch
 ch1:y.t.ch≤T
 stp:y.f.stp=y.t.ch
 crow:w.ownsRow base 203 1 y.f.cs (qJ9 y).length (qJ3 (qJ9 y))
 clen:(y.cs.length:Int)≤T
 curs:∀ c∈y.cs,COk base w y c
 cbs:(qJ9 y).Nodup
 Cbs:(qS4 y).Nodup
 live:y.t.over=false→Lv w N com E l q y
def kOf(y:YG):TK:=⟨y.t.over,y.t.wrt,y.t.nr⟩
def qH3(ys:List YG):List (TF × Nat):=ys.map fun y=>(y.f,y.ps.length)
structure SOk(base:Nat)(T:Int)(w:World)(A C n:Nat)(l:List UInt8)(wr com:Int)(r:Root)(q:SG)(ys:List YG):Prop where
 bSt:base≤q.St
 bM:base≤q.s.M
 sh:Sh w q.Db q.St A C n q.nM q.s q.D l wr r
 bg1:q.s.bg≤T
 nM:(q.nM:Int)≤T
 bk:Books q.s q.D (ys.map kOf)
 ys:∀ y∈ys,YOk base T w n com sh.E l q y
structure TG where
 B:Nat
 C:Nat
 k:KF
 l:List UInt8
 wr:Int
 N:Int
 q:Option Root
 so:Option SG
 ys:List YG
 hs:List HEnt
abbrev TG.A(g:TG):Nat:=g.k.A
abbrev TG.n(g:TG):Nat:=g.k.n
def qF4(g:TG):List Nat:=g.ys.map YG.tb
def qJ6:Option SG→List Nat
 | none=>[]
 | some q=>[q.St,q.s.M]
def qT9(g:TG):List Nat:=[g.B,g.A,g.C]++g.k.ts.ownBlock.toList++g.k.li.ownBlock.toList++g.k.wa.ownBlock.toList++qJ6 g.so++g.ys.flatMap qG9
structure DOk(base:Nat)(T:Int)(w:World)(g:TG):Prop where
 bB:base≤g.B
 bA:base≤g.A
 bC:base≤g.C
 hB:w.heap[g.B]?=some (kob g.k)
 n1:g.n<1000
 wl:g.k.wild=false
 em:g.k.emp=false
 po:g.k.po=false
 dev:Dvl g.A g.n g.C g.l g.wr w
 len:g.l.length=g.n*128
 lies:8≤g.n→g.n≤400→qS5 g.n g.l g.N g.q
 N0:0≤g.N
 N1:g.N≤T
 wr0:0≤g.wr
 wr1:g.wr≤20003*T
 may:MayQ base w g.k.may g.q
 were:∃ pw kk cw,g.k.were=.slice pw kk cw∧RowM w base (.slice pw kk cw) kk∧(kk:Int)≤T
 qlen:∀ r,g.q=some r→(r.cont.length:Int)≤T
 com0:0≤g.k.com
 com1:g.k.com≤T
structure TOk(base:Nat)(T:Int)(w:World)(g:TG):Prop where
 d:DOk base T w g
 held:Held w base g.k g.hs
 hlen:(g.hs.length:Int)≤T
 hps:∀ x∈g.hs,(x.ps.length:Int)≤T+2
 row:w.ownsRow base 132 1 g.k.ts (qF4 g).length (qJ3 (qF4 g))
 ylen:(g.ys.length:Int)≤T
 so:(g.k.x=none∧g.so=none∧g.ys=[])∨∃ q r,g.so=some q∧g.q=some r∧g.k.x=some ⟨q.Db,0,none⟩∧q.s.N=g.N∧SPR w g.k.c r.cont∧SOk base T w g.A g.C g.n g.l g.wr g.k.com r q g.ys
 sep:g.ys.Pairwise fun a b=>∀ i∈qG9 a,i ∉ qG9 b
theorem qD1{g:TG}{i:Nat}:i∈qT9 g↔(i=g.B\/i=g.A\/i=g.C)\/g.k.ts.ownBlock=some i\/g.k.li.ownBlock=some i\/g.k.wa.ownBlock=some i\/i∈qJ6 g.so\/∃ y∈g.ys,i∈qG9 y:=by
 simp only[qT9,List.mem_append,mC,lN,or_false,Option.mem_toList,or_assoc,Option.mem_def,List.mem_flatMap]
theorem qF9{y:YG}{i:Nat}:i∈qG9 y↔i=y.tb\/i=y.f.x\/y.f.cs.ownBlock=some i\/i∈qJ9 y\/i∈qS4 y:=by
 simp only[qG9,List.mem_append,mC,lN,or_false,Option.mem_toList,or_assoc,Option.mem_def]
section
variable {base N A C n:Nat} {T T' wr com:Int} {w w':World} {E:SEnv} {l:List UInt8} {q:SG} {y:YG} {L:List Nat} {g:TG} {ys:List YG} {r:Root}
theorem YOk.sz(h:YOk base T w N com E l q y):(y.ps.length:Int)<=T:=Int.le_trans h.m0 h.m1
theorem COk.kp{c:CG}(h:COk base w y c)(hK:Kp L w w')(a:c.cb ∉ L)(b:c.Cb ∉ L):COk base w' y c:=⟨h.bc,h.bC,hK.heap h.hc a,hK.heap h.hC b,h.s0,h.s1,h.at_⟩
theorem YOk.kp(h:YOk base T w N com E l q y)(hK:Kp L w w')(hT:T<=T')(a:∀ i∈qG9 y,i ∉ L)(m:Apt w L (284::qF5)):YOk base T' w' N com E l q y:=
 { h with
  hT:=hK.heap h.hT (a _ (qF9.2 (.inl rfl))),hx:=hK.heap h.hx (a _ (qF9.2 (.inr (.inl rfl)))),sp:=h.sp.keep hK (λk j c t d e b=>m k j c t d e (by simp at b;simp[b])),m1:=Int.le_trans h.m1 hT,c1:=Int.le_trans h.c1 hT,ch1:=Int.le_trans h.ch1 hT,crow:=qR0 h.crow hK (λi p=>a i (qF9.2 (.inr (.inr (.inl p))))),clen:=Int.le_trans h.clen hT
  curs:=λc f=>(h.curs c f).kp hK (a _ (qF9.2 (.inr (.inr (.inr (.inl (List.mem_map.2 ⟨c,f,rfl⟩))))))) (a _ (qF9.2 (.inr (.inr (.inr (.inr (List.mem_map.2 ⟨c,f,rfl⟩)))))))
  live:=λo=>{ h.live o with rr:=(h.live o).rr.keepT hK (λk j c t d e b=>m k j c t d e (mM _ b)) } }
theorem YOk.move{q':SG}(h:YOk base T w N com E l q y)(e:q'.St=q.St/\q'.s.V=q.s.V/\q'.s.rb=q.s.rb/\q'.s.rs=q.s.rs)(p:y.t.over=false->y.t.wrt=false->∀ zd,q'.D.atKey (χ y.t.nr) zd=q.D.atKey (χ y.t.nr) zd):YOk base T w N com E l q' y:=by
 obtain⟨j,k,m,o⟩:=e;exact { h with st:=by rw[j];exact h.st,live:=λf=>{ h.live f with on:=by rw[k];exact (h.live f).on,red:=λi=>by rw[m,o];obtain⟨a,b,c,d⟩:=(h.live f).red i;exact⟨a,b,λzd=>(p f i zd).trans (c zd),d⟩ } }
theorem Sh.kp{b St d:Nat}{s}{D}(h:Sh w b St A C n d s D l wr r)(hK:Kp L w w')(a:∀ i∈[b,St,s.M,s.V,A,C],i ∉ L):Sh w' b St A C n d s D l wr r:=by
 obtain⟨c,e⟩:=h.hA;exact { h with hDb:=hK.heap h.hDb (a _ sM),hSt:=hK.heap h.hSt (a _ sM),hM:=h.hM.kp hK (a _ sM),dev:=⟨hK.heap h.dev.hV (a _ sM),⟨c,hK.heap e (a _ sM)⟩,hK.heap h.dev.hC (a _ sM)⟩ }
theorem SOk.kp(h:SOk base T w A C n l wr com r q ys)(hK:Kp L w w')(f:T<=T')(b:∀ i∈[q.St,q.s.M,A,C],i ∉ L)(m:∀ y∈ys,∀ i∈qG9 y,i ∉ L)(d:Apt w L ([102,263,284]++qF5)):SOk base T' w' A C n l wr com r q ys:=
 ⟨h.bSt,h.bM,Sh.kp h.sh hK (by
  simp only[mC,lN,or_false] at b |-;rintro i (rfl|rfl|rfl|rfl|rfl|rfl)
  .exact λa=>d _ a _ _ _ h.sh.hDb sM
  .exact b _ sM
  .exact b _ sM
  .exact λa=>d _ a _ _ _ h.sh.dev.hV sM
  .exact b _ sM
  .exact b _ sM),Int.le_trans h.bg1 f,Int.le_trans h.nM f,h.bk,λy j=>(h.ys y j).kp hK f (m y j) (λk hk c t fr e a=>d k hk c t fr e (by
   simp only[mC,List.mem_append,lN,or_false] at a |-;rcases a with a|a<;>simp[a]))⟩
theorem DOk.turnK(h:DOk base T w g)(ts li wa)(so:Option SG)(ys:List YG)(hs:List HEnt)(hK:Kp L w w')(b:T<=T')(hB:w'.heap[g.B]?=some (kob { g.k with ts:=ts,li:=li,wa:=wa }))(p:Dvl g.A g.n g.C g.l g.wr w')(o:Apt w L [126,284]):DOk base T' w' { g with k:={ g.k with ts:=ts,li:=li,wa:=wa },so:=so,ys:=ys,hs:=hs }:=by
 have d:∀ i c t a,Ϙ w i (.cells c t a)->i∈L->t≠126/\t≠284:=λi c t a e hi=>by have:=o i hi c t a e;simpa using this
 obtain⟨pw,u,cw,f,j,m⟩:=h.were;exact { bB:=h.bB,bA:=h.bA,bC:=h.bC,n1:=h.n1,wl:=h.wl,em:=h.em,po:=h.po,len:=h.len,lies:=h.lies,N0:=h.N0,wr0:=h.wr0,com0:=h.com0,hB:=hB,dev:=p,N1:=Int.le_trans h.N1 b,wr1:=by have:=h.wr1;show g.wr<=_;omega,may:=h.may.kp hK d,were:=⟨pw,u,cw,f,j.kp hK λk c t a e s=>(d k c t a e s).1,Int.le_trans m b⟩,qlen:=λr e=>Int.le_trans (h.qlen r e) b,com1:=Int.le_trans h.com1 b }
theorem DOk.turn(h:DOk base T w g)(hK:Kp L w w')(c:T<=T')(a:w'.heap[g.B]?=some (kob g.k))(d:Dvl g.A g.n g.C g.l g.wr w')(b:Apt w L [126,284]):DOk base T' w' g:=h.turnK g.k.ts g.k.li g.k.wa g.so g.ys g.hs hK c a d b
theorem DOk.ne(h:DOk base T w g):g.A≠g.B/\g.C≠g.B:=by
 obtain⟨c,a⟩:=h.dev.hA;exact⟨ω a h.hB dC,ω h.dev.hC h.hB dC⟩
theorem TOk.keep(h:TOk base T w g)(hK:Kp L w w')(c:Muts base (qP6++qQ3) w L)(s:∀ i∈L,i ∉ qT9 g)(d:T<=T'):TOk base T' w' g:=by
 have b:∀ i,i∈qT9 g->i ∉ L:=λi a hm=>s i hm a;refine⟨h.d.turn hK d (hK.heap h.d.hB (b _ (qD1.2 sM))) (h.d.dev.kp hK (b _ (qD1.2 sM)) (b _ (qD1.2 sM))) (c.apt dC),Gw.Held.kp h.held hK (λi a=>b i (qD1.2 (by simp[a]))) (λi a=>b i (qD1.2 (by simp[a]))) (c.apt dC),Int.le_trans h.hlen d,λx hx=>by have:=h.hps x hx;omega,qR0 h.row hK (λi a=>b i (qD1.2 (by simp[a]))),Int.le_trans h.ylen d,?_,h.sep⟩;rcases h.so with o|⟨q,r,e,f,j,k,m,p⟩
 .exact .inl o
 .refine .inr ⟨q,r,e,f,j,k,m.keep hK (c.apt dC),p.kp hK d ?_ (λy t i a=>b i (qD1.2 (.inr (.inr (.inr (.inr (.inr ⟨y,t,a⟩))))))) (c.apt dC)⟩;simp only[mC,lN,or_false];rintro i (rfl|rfl|rfl|rfl)<;>exact b _ (qD1.2 (by simp[e,qJ6]))
theorem RM.obj{V M n:Nat}{D}(h:RM w V M n D):∃ a c,w.heap[M]?=some (.map a c):=by
 obtain⟨a,c,b,_⟩:=h;exact⟨a,c,b⟩
theorem TOk.muts(h:TOk base T w g):Muts base qQ3 w (qT9 g):=by
 intro k a;rcases qD1.1 a with (rfl|rfl|rfl)|a|a|a|a|⟨y,o,a⟩
 .exact⟨h.d.bB,_,h.d.hB,λc t b e=>by cases e;decide⟩
 .obtain⟨c,u⟩:=h.d.dev.hA;exact⟨h.d.bA,_,u,λc t b e=>by cases e;decide⟩
 .exact⟨h.d.bC,_,h.d.dev.hC,λc t b e=>by cases e;decide⟩
 .obtain⟨f,c,i⟩:=qH2 h.row k (by simp[a]);exact⟨f,_,i,λc t b e=>by cases e;decide⟩
 .obtain⟨f,c,i⟩:=qH2 h.held.li k (by simp[a]);exact⟨f,_,i,λc t b e=>by cases e;decide⟩
 .obtain⟨f,c,i⟩:=qH2 h.held.wa k (by simp[a]);exact⟨f,_,i,λc t b e=>by cases e;decide⟩
 .rcases h.so with⟨_,e,_⟩|⟨q,r,p,_,_,_,_,j⟩
  .rw[e] at a;cases a
  .rw[p] at a;simp only[qJ6,mC,lN,or_false] at a;rcases a with rfl|rfl
   .exact⟨j.bSt,_,j.sh.hSt,λc t b e=>by cases e;decide⟩
   .obtain⟨v,c,s⟩:=RM.obj j.sh.hM;exact⟨j.bM,_,s,λc t b e=>by cases e⟩
 .rcases h.so with⟨_,_,e⟩|⟨q,r,p,_,_,_,_,j⟩
  .rw[e] at o;cases o
  .have d:=j.ys y o;rcases qF9.1 a with rfl|rfl|a|a|a
   .exact⟨d.bT,_,d.hT,λc t b e=>by cases e;decide⟩
   .exact⟨d.bX,_,d.hx,λc t b e=>by cases e;decide⟩
   .obtain⟨f,c,i⟩:=qH2 d.crow k (by simp[a]);exact⟨f,_,i,λc t b e=>by cases e;decide⟩
   .obtain⟨c,m,rfl⟩:=List.mem_map.1 a;exact⟨(d.curs c m).bc,_,(d.curs c m).hc,λc t b e=>by cases e;decide⟩
   .obtain⟨c,m,rfl⟩:=List.mem_map.1 a;exact⟨(d.curs c m).bC,_,(d.curs c m).hC,λc t b e=>by cases e;decide⟩
end
def TG.bare(b C:Nat)(k:KF)(l:List UInt8)(wr N:Int)(q:Option Root)(hs:List HEnt):TG:=⟨b,C,k,l,wr,N,q,none,[],hs⟩
theorem TG.bare_mut{b C:Nat}{k:KF}{l}{wr N:Int}{q:Option Root}{a:List HEnt}(d:k.ts=.slice none 0 0){i:Nat}(c:i∈qT9 (TG.bare b C k l wr N q a)):(i=b\/i=k.A\/i=C)\/k.li.ownBlock=some i\/k.wa.ownBlock=some i:=by
 rcases qD1.1 c with h|h|h|h|h|⟨y,e,_⟩
 .exact .inl h
 .rw[show (TG.bare b C k l wr N q a).k.ts=_ from d] at h;cases h
 .exact .inr (.inl h)
 .exact .inr (.inr h)
 .cases h
 .cases e
theorem TOk.bare{base:Nat}{T:Int}{w}{b C:Nat}{k:KF}{l}{wr N:Int}{q:Option Root}{a:List HEnt}(c:0<=T)(h:DOk base T w (TG.bare b C k l wr N q a))(d:Held w base k a)(e:(a.length:Int)<=T)(f:∀ x∈a,(x.ps.length:Int)<=T+2)(i:k.ts=.slice none 0 0)(j:k.x=none):TOk base T w (TG.bare b C k l wr N q a):=
 ⟨h,d,e,f,by rw[show (TG.bare b C k l wr N q a).k.ts=_ from i];exact wN _ _ _ _,c,.inl ⟨j,rfl,rfl⟩,List.Pairwise.nil⟩
theorem jY8(m:Nat)(h:8<=m):qS5 m (List.replicate (m*128) 0) 0 none:=by
 have e:∀ i,i<2->qL2 (List.replicate (m*128) 0) i none:=λi hi N rb rs hv=>by
  have a:=congrArg (λx=>x[0]?) hv.2.2.2.2;have b:min 32 (min 128 (m*128-i*128))=32:=oM
  simp[qB3,toB,qJ0,qO1,b,qK8] at a
 exact⟨e 0 oM,e 1 oM,rfl⟩
def qF2:DInv where
 G:=TG
 kf:=fun g=>g.k
 B:=fun g=>g.B
 tbs:=qF4
 tur:=qT9
 ok:=TOk
 kob_:=fun h=>h.d.hB
 row:=fun h=>PRow.of h.row
 tlen:=fun h=>by have:=h.ylen;simp only[qF4,List.length_map];exact this
 inB:=fun g=>qD1.2 (by simp)
 muts:=fun h=>h.muts
 keep:=fun h hK hM hL hT=>h.keep hK hM hL hT
 fresh:=fun base T w b A C m hb hA hC hT hm h1 h2 h3=>by
  have hle:(List.replicate (m*128) (0:UInt8)).length / 128=m:=by simp
  have hd:DOk base T w (TG.bare b C ⟨A,m,.slice none 0 0,false,.slice none 0 0,false,false,none,.slice none 0 0,0,false,.slice none 0 0,.slice none 0 0,.slice none 0 0⟩ (List.replicate (m*128) 0) 0 0 none []):=⟨hb,hA,hC,h1,hm,rfl,rfl,rfl,⟨⟨0,by simp only[TG.bare,TG.A,TG.n];rw[hle];exact h2⟩,h3⟩,by simp[TG.bare],fun h8 _=>jY8 m h8,Int.le_refl _,hT,Int.le_refl _,by show (0:Int)≤20003*T;omega,⟨none,0,rfl,⟨[],by simp,World.ownsRow_nil _ _ _ _⟩⟩,⟨none,0,0,rfl,⟨[],by simp,World.ownsRow_nil _ _ _ _⟩,by simpa using hT⟩,fun r e=>(by cases e),Int.le_refl _,hT⟩;refine⟨_,TOk.bare hT hd ⟨World.ownsRow_nil _ _ _ _,World.ownsRow_nil _ _ _ _,fun i hi=>(by cases hi),fun x hx=>(by cases hx)⟩ (by simpa using hT) (fun x hx=>(by cases hx)) rfl rfl,rfl,fun i hi=>?_⟩;rcases TG.bare_mut rfl hi with h|h|h
  ·exact h
  ·cases h
  ·cases h
 copy:=fun {base T w g} h=>by
  obtain⟨c,hA⟩:=h.d.dev.hA;have hlen:=h.d.len;have hle:g.l.length / 128=g.n:=by rw[hlen];simp
  rw[hle] at hA;refine⟨g.C,g.l,c,g.wr,h.d.n1,hA,h.d.dev.hC,hlen,fun T' w' b A' C' hT hT0 hK hb hA' hC' h1 h2 h3=>?_⟩;have ha:∀ i c t fr,w.heap[i]?=some (.cells c t fr)→i∈([]:List Nat)→t≠126∧t≠284:=fun i c t fr e hi=>by cases hi
  obtain⟨pw,kk,cw,f1,f2,f3⟩:=h.d.were;have hd:DOk base T' w' (TG.bare b C' ⟨A',g.k.n,g.k.may,g.k.emp,g.k.were,g.k.wild,g.k.bit,none,.slice none 0 0,0,false,.slice none 0 0,.slice none 0 0,.slice none 0 0⟩ g.l 0 g.N g.q []):=⟨hb,hA',hC',h1,h.d.n1,h.d.wl,h.d.em,rfl,⟨⟨0,by simp only[TG.bare,TG.A,TG.n];rw[hle];exact h2⟩,h3⟩,hlen,h.d.lies,h.d.N0,Int.le_trans h.d.N1 hT,Int.le_refl _,by show (0:Int)≤20003*T';omega,h.d.may.kp hK ha,⟨pw,kk,cw,f1,f2.kp hK fun k c t fr e hk=>(ha k c t fr e hk).1,Int.le_trans f3 hT⟩,fun r e=>Int.le_trans (h.d.qlen r e) hT,Int.le_refl _,hT0⟩;refine⟨_,TOk.bare hT0 hd ⟨World.ownsRow_nil _ _ _ _,World.ownsRow_nil _ _ _ _,fun i hi=>(by cases hi),fun x hx=>(by cases hx)⟩ (by simpa using hT0) (fun x hx=>(by cases hx)) rfl rfl,rfl,fun i hi=>?_⟩;rcases TG.bare_mut rfl hi with h|h|h
  ·exact h
  ·cases h
  ·cases h
theorem zH5{a:Type}(f:YG->a){l:List YG}{i:Nat}(d:i<l.length){y:YG}(h:f y=f l[i]):(l.set i y).map f=l.map f:=by
 rw[List.map_set,h];exact List.ext_getElem sM (λj b c=>by
  rw[List.getElem_set];split
  .rename_i e;subst e;simp
  .rfl)
def yTs:List TypeId:=[197,99,203,282,80]
section
variable {base N A C n i:Nat} {T T' wr com:Int} {w w':World} {E:SEnv} {l:List UInt8} {q q':SG} {y y':YG} {L:List Nat} {g g':TG} {ys:List YG} {r:Root}
theorem YOk.yMut(h:YOk base T w N com E l q y):MutC base yTs w (qG9 y):=λk a=>by
 rcases qF9.1 a with rfl|rfl|a|a|a
 .exact⟨h.bT,_,_,_,h.hT,dC⟩
 .exact⟨h.bX,_,_,_,h.hx,dC⟩
 .obtain⟨d,c,e⟩:=qH2 h.crow k (by simp[a]);exact⟨d,_,_,_,e,dC⟩
 .obtain⟨c,b,rfl⟩:=List.mem_map.1 a;exact⟨(h.curs c b).bc,_,_,_,(h.curs c b).hc,dC⟩
 .obtain⟨c,b,rfl⟩:=List.mem_map.1 a;exact⟨(h.curs c b).bC,_,_,_,(h.curs c b).hC,dC⟩
theorem SOk.off(h:SOk base T w A C n l wr com r q ys){B:Nat}{k:KF}(e:w.heap[B]?=some (kob k)):∀ y∈ys,∀ j∈qG9 y,j ∉ [B,A,C,q.St,q.s.M]:=λy hy j hj=>by
 obtain⟨_,c,t,f,a,b⟩:=(h.ys y hy).yMut j hj;obtain⟨cA,d⟩:=h.sh.hA;simp only[mC,lN,or_false,not_or];refine⟨?_,?_,?_,?_,qC5 a h.sh.hM⟩<;>rintro rfl
 .rw[e] at a;cases a;revert b;decide
 .rw[d] at a;cases a;revert b;decide
 .rw[h.sh.dev.hC] at a;cases a;revert b;decide
 .rw[h.sh.hSt] at a;cases a;revert b;decide
theorem SOk.hold(h:SOk base T w A C n l wr com r q ys)(hK:Kp L w w')(a:T<=T')(e:Sh w' q.Db q.St A C n q.nM q.s q.D l wr r)(c:∀ y∈ys,∀ i∈qG9 y,i ∉ L)(d:Apt w L (284::qF5)):SOk base T' w' A C n l wr com r q ys:=
 ⟨h.bSt,h.bM,e,Int.le_trans h.bg1 a,Int.le_trans h.nM a,h.bk,λy b=>(h.ys y b).kp hK a (c y b) d⟩
theorem SOk.set(h:SOk base T w A C n l wr com r q ys)(s:i<ys.length)(X:ys.Pairwise λa b=>∀ i∈qG9 a,i ∉ qG9 b)(hK:Kp L w w')(x:∀ k∈L,k∈[A,C,q.St,q.s.M]\/k∈qG9 ys[i])(M:T<=T')(F:Sh w' q'.Db q'.St A C n q'.nM q'.s q'.D l wr r)
  (e:q'.St=q.St/\q'.s.V=q.s.V/\q'.s.rb=q.s.rb/\q'.s.rs=q.s.rs) (I:q'.s.M=q.s.M) (P:q'.s.bg<=T') (S:(q'.nM:Int)<=T') (H:Books q'.s q'.D ((ys.set i y').map kOf)) (J:∀ j (o:j<ys.length),j≠i->ys[j].t.over=false->ys[j].t.wrt=false->∀ zd,q'.D.atKey (χ ys[j].t.nr) zd=q.D.atKey (χ ys[j].t.nr) zd) (U:YOk base T' w' n com h.sh.E l q' y'):SOk base T' w' A C n l wr com r q' (ys.set i y'):=by
 obtain⟨cA,v⟩:=h.sh.hA;have V:=h.ys _ (gM s);have O:Apt w L (284::qF5):=λk d c t u e=>by
  rcases x k d with d|d
  .simp only[mC,lN,or_false] at d;rcases d with rfl|rfl|rfl|rfl
   .rw[v] at e;cases e;decide
   .rw[h.sh.dev.hC] at e;cases e;decide
   .rw[h.sh.hSt] at e;cases e;decide
   .exact absurd rfl (qC5 e h.sh.hM)
  .exact (V.yMut.muts.apt (Us:=284::qF5) dC) k d c t u e
 have D:=pG X;have K:F.E=h.sh.E:=by
  have Y:=e.2.1;show EL q'.s.V _ _ _ _ _ _ _ _ _=EL q.s.V _ _ _ _ _ _ _ _ _
  congr 1
 refine⟨by rw[e.1];exact h.bSt,by rw[I];exact h.bM,F,P,S,H,λz W=>?_⟩;obtain⟨j,o,rfl⟩:=gO W;simp only[List.length_set] at o;rw[List.getElem_set,K];split
 .exact U
 .rename_i B;have G:=h.ys _ (gM o);refine (G.kp hK M (λk d m=>?_) O).move e (J j o (λe=>B e.symm));rcases x k m with m|m
  .obtain⟨_,c,t,u,f,p⟩:=G.yMut k d;simp only[mC,lN,or_false] at m;rcases m with rfl|rfl|rfl|rfl
   .rw[v] at f;cases f;revert p;decide
   .rw[h.sh.dev.hC] at f;cases f;revert p;decide
   .rw[h.sh.hSt] at f;cases f;revert p;decide
   .exact absurd rfl (qC5 f h.sh.hM)
  .rcases Nat.lt_or_gt_of_ne B with R|Q
   .exact D i j s o R k m d
   .exact D j i o s Q k d m
theorem TOk.store(h:TOk base T w g)(a:g.k.x≠none):∃ q r,g.so=some q/\g.q=some r/\g.k.x=some ⟨q.Db,0,none⟩/\q.s.N=g.N/\SPR w g.k.c r.cont/\SOk base T w g.A g.C g.n g.l g.wr g.k.com r q g.ys:=by
 rcases h.so with⟨e,_⟩|h
 .exact absurd e a
 .exact h
theorem TOk.txn(h:TOk base T w g)(M:g.so=some q)(m:SOk base T w g.A g.C g.n g.l g.wr g.k.com r q g.ys)(s:i<g.ys.length)(hK:Kp L w w')(S:∀ k∈L,k∈[g.B,g.A,g.C,q.St,q.s.M]\/k∈qG9 g.ys[i])(U:T<=T')
  (eg:g'.B=g.B/\g'.A=g.A/\g'.C=g.C/\g'.hs=g.hs/\g'.so=some q'/\g'.ys=g.ys.set i y') (ek:g'.k.ts=g.k.ts/\g'.k.li=g.k.li/\g'.k.wa=g.k.wa) (et:y'.tb=g.ys[i].tb) (O:∀ k∈qG9 y',k∈qG9 g.ys[i]\/w.heap.size<=k) (R:q'.St=q.St/\q'.s.M=q.s.M)
  (hd:DOk base T' w' g') (ac:∃ r,g'.q=some r/\g'.k.x=some ⟨q'.Db,0,none⟩/\q'.s.N=g'.N/\SPR w' g'.k.c r.cont/\SOk base T' w' g'.A g'.C g'.n g'.l g'.wr g'.k.com r q' g'.ys):DStep qF2 base T' w w' g:=by
 obtain⟨z,I,J,K,Q,B⟩:=eg;obtain⟨X,Y,Z⟩:=ek;obtain⟨r',c1,c2,c3,c4,c5⟩:=ac;have ae:=m.ys _ (gM s);have ag:=m.off h.d.hB;obtain⟨cA,hA⟩:=m.sh.hA;have D:Muts base ([130,114,115,169]++yTs) w L:=λk d=>by
  rcases S k d with d|d
  .simp only[mC,lN,or_false] at d;rcases d with rfl|rfl|rfl|rfl|rfl
   .exact⟨h.d.bB,_,h.d.hB,λc t u e=>by cases e;decide⟩
   .exact⟨h.d.bA,_,hA,λc t u e=>by cases e;decide⟩
   .exact⟨h.d.bC,_,m.sh.dev.hC,λc t u e=>by cases e;decide⟩
   .exact⟨m.bSt,_,m.sh.hSt,λc t u e=>by cases e;decide⟩
   .obtain⟨es,mc,hM⟩:=RM.obj m.sh.hM;exact⟨m.bM,_,hM,λc t u e=>by cases e⟩
  .obtain⟨z,c,t,u,I,J⟩:=ae.yMut k d;exact⟨z,_,I,λc' t' af e=>by cases e;exact List.mem_append_right _ J⟩
 have P:=pG h.sep;have V:∀ j (o:j<g.ys.length),i≠j->∀ k∈qG9 g.ys[i],k ∉ qG9 g.ys[j]:=λj o v k d f=>by
  rcases Nat.lt_or_gt_of_ne v with H|ab
  .exact P i j s o H k d f
  .exact P j i o s ab k f d
 have H:∀ j (o:j<g.ys.length),∀ k∈qG9 g.ys[j],k<w.heap.size:=λj o k d=>(m.ys _ (gM o)).yMut.muts.lt d;have ad:qF4 g'=qF4 g:=by rw[qF4,B];exact zH5 YG.tb s et
 refine⟨g',L,⟨hd,?_,by rw[K];exact Int.le_trans h.hlen U,by rw[K];exact λx hx=>by have:=h.hps x hx;omega,?_,by rw[B,List.length_set];exact Int.le_trans h.ylen U,.inr ⟨q',r',Q,c1,c2,c3,c4,c5⟩,?_⟩,z,λk d=>?_,hK,λk d=>?_⟩
 .rw[K];refine Gw.Held.cast (Gw.Held.kp h.held hK (λk d=>?_) (λk d=>?_) (D.apt dC)) Y Z
  .obtain⟨_,c,p⟩:=qH2 h.held.li k (by simpa using d);exact D.not p dC
  .obtain⟨_,c,p⟩:=qH2 h.held.wa k (by simpa using d);exact D.not p dC
 .rw[ad,X];refine qR0 h.row hK (λk d=>?_);obtain⟨_,c,p⟩:=qH2 h.row k (by simp[d]);exact D.not p dC
 .rw[B,List.pairwise_iff_getElem];intro a b F G aa;simp only[List.length_set] at F G;rw[List.getElem_set,List.getElem_set];split
  .rename_i h1;subst h1;split
   .omega
   .rename_i v;intro k d f;rcases O k d with d|d
    .exact V b G v k d f
    .have:=H b G k f;omega
  .split
   .rename_i v p;subst p;intro k d f;rcases O k f with f|f
    .exact V a F (λe=>v e) k f d
    .have:=H a F k d;omega
   .exact P a b F G aa
 .rcases qD1.1 d with d|d|d|d|d|⟨y,W,d⟩
  .rw[z,I,J] at d;exact .inl (qD1.2 (.inl d))
  .rw[X] at d;exact .inl (qD1.2 (.inr (.inl d)))
  .rw[Y] at d;exact .inl (qD1.2 (.inr (.inr (.inl d))))
  .rw[Z] at d;exact .inl (qD1.2 (.inr (.inr (.inr (.inl d)))))
  .refine .inl (qD1.2 (.inr (.inr (.inr (.inr (.inl ?_))))));rw[Q] at d;rw[M];simp only[qJ6,R.1,R.2] at d |-;exact d
  .rw[B] at W;obtain⟨j,o,rfl⟩:=gO W;simp only[List.length_set] at o;rw[List.getElem_set] at d;split at d
   .rcases O k d with d|d
    .exact .inl (qD1.2 (.inr (.inr (.inr (.inr (.inr ⟨_,gM s,d⟩))))))
    .exact .inr d
   .exact .inl (qD1.2 (.inr (.inr (.inr (.inr (.inr ⟨_,gM o,d⟩))))))
 .refine qD1.2 ?_;rcases S k d with d|d
  .simp only[mC,lN,or_false] at d;rcases d with h|h|h|h|h
   .exact .inl (.inl h)
   .exact .inl (.inr (.inl h))
   .exact .inl (.inr (.inr h))
   .exact .inr (.inr (.inr (.inr (.inl (by rw[M];simp[qJ6,h])))))
   .exact .inr (.inr (.inr (.inr (.inl (by rw[M];simp[qJ6,h])))))
  .exact .inr (.inr (.inr (.inr (.inr ⟨_,gM s,d⟩))))
end
structure At(base:Nat)(T:Int)(w:World)(g:TG)(q:SG)(r:Root)(i:Nat)(y:YG):Prop where
 ok:TOk base T w g
 T0:0≤T
 T1:T≤40000
 hb:0<base
 hbs:base≤w.heap.size
 g0:w.cell? ⟨0,0,none⟩=some qE9
 e1:g.so=some q
 e2:g.q=some r
 ex:g.k.x=some ⟨q.Db,0,none⟩
 eN:q.s.N=g.N
 ec:SPR w g.k.c r.cont
 S:SOk base T w g.A g.C g.n g.l g.wr g.k.com r q g.ys
 hi:i<g.ys.length
 hy:g.ys[i]=y
def Qt(g:TG)(q:SG)(w:World):Prop:=w.heap[q.St]?=some (θ 0 q.s)∧Devl q.s.V g.A g.n g.C g.l g.wr w
section
variable {base i:Nat} {T:Int} {w w' w1:World} {q:SG} {y:YG} {g:TG} {r:Root}
theorem At.yy(h:At base T w g q r i y):YOk base T w g.n g.k.com h.S.sh.E g.l q y:=by
 have:=h.S.ys _ (gM h.hi);rw[h.hy] at this;exact this
theorem At.hA(h:At base T w g q r i y):∃ c,w.heap[g.A]?=some (qG6 g.n g.C (.slice none 0 0) c g.wr):=by
 obtain⟨c,hA⟩:=h.S.sh.hA;rw[h.ok.d.len,Nat.mul_div_cancel _ dC] at hA;exact⟨c,hA⟩
theorem At.live(h:At base T w g q r i y)(d:y.t.over=false):LiveT h.S.sh.E w y.f.x g.A g.n y.t q.s y.r:=
 have a:=h.S.sh;have b:=h.yy;have c:=b.live d;have e:=h.T1
 { hx:=b.hx,over:=d,on:=c.on,hSt:=by rw[b.st];exact a.hSt,po:=a.po,sV:=rfl,hV:=a.dev.hV,n1:=a.N1,bl0:=a.bl0,bl1:=by have:=a.bl1;have:=h.ok.d.qlen r h.e2;omega,dev:=a.dev,vS:=by show q.s.V ∉ [g.A];simpa using a.VA,rr:=c.rr,good:=c.good,sz:=by rw[c.cont];have:=b.sz;omega,ch0:=b.ch0,ch1:=by have:=b.ch1;omega }
theorem At.hStt(h:At base T w g q r i y):w.heap[y.t.St]?=some (θ 0 q.s):=by
 rw[h.yy.st];exact h.S.sh.hSt
theorem At.xS(h:At base T w g q r i y):y.f.x≠y.t.St:=ω h.yy.hx h.hStt dC
theorem At.prog(h:At base T w g q r i y):ProgS w [q.St,g.A,g.C,y.f.x,q.s.M]:=λk b=>by
 have f:=h.hb;obtain⟨cA,d⟩:=h.hA;simp only[mC,lN,or_false] at b;rcases b with rfl|rfl|rfl|rfl|rfl
 .exact⟨by have:=h.S.bSt;omega,λc t a e=>by rw[h.S.sh.hSt] at e;cases e;decide⟩
 .exact⟨by have:=h.ok.d.bA;omega,λc t a e=>by rw[d] at e;cases e;decide⟩
 .exact⟨by have:=h.ok.d.bC;omega,λc t a e=>by rw[h.S.sh.dev.hC] at e;cases e;decide⟩
 .exact⟨by have:=h.yy.bX;omega,λc t a e=>by rw[h.yy.hx] at e;cases e;decide⟩
 .exact⟨by have:=h.S.bM;omega,λc t a e=>absurd rfl (qC5 e h.S.sh.hM)⟩
theorem At.progs(h:At base T w g q r i y){S}(a:∀ k∈S,k∈[q.St,g.A,g.C,y.f.x,q.s.M]):ProgS w S:=λk hk=>h.prog k (a k hk)
theorem At.look(h:At base T w g q r i y){c:Int}(a:w.heap[g.A]?=some (qG6 g.n g.C (.slice none 0 0) c g.wr)):LkIn w g.B y.tb g.A g.n g.C (.slice none 0 0) c g.wr g.k y.f y.ps:=
 ⟨h.ok.d.hB,h.ok.d.po,rfl,a,h.yy.hT,h.yy.sp,by have:=h.yy.sz;have:=h.T1;omega,h.g0⟩
theorem At.same(h:At base T w g q r i y)(hK:Kp [] w w'):At base T w' g q r i y:=
 ⟨h.ok.keep hK (Muts.nil _ _ _) sM (iR _),h.T0,h.T1,h.hb,lT h.hbs hK.size,zE6 h.g0 hK h.hb h.hbs sM,h.e1,h.e2,h.ex,h.eN,h.ec.keep hK (Apt.nil _ _),h.S.kp hK (iR _) sM sM (Apt.nil _ _),h.hi,h.hy⟩
theorem At.disk(h:At base T w g q r i y){L}(hK:Kp L w w')(c:∀ k∈L,k∈[g.A,g.C,q.St,q.s.M]\/k∈qG9 y)(d:Devl q.s.V g.A g.n g.C g.l g.wr w'):DOk base (T+2) w' g:=by
 have b:=h.ok.muts.mono (λt f=>f) λk a=>by
  rcases c k a with a|a
  .simp only[mC,lN,or_false] at a;exact qD1.2 (by rw[h.e1];simp only[qJ6,mC,lN,or_false];rcases a with e | e | e | e<;>simp[e])
  .exact qD1.2 (.inr (.inr (.inr (.inr (.inr ⟨_,gM h.hi,by rw[h.hy];exact a⟩)))))
 refine h.ok.d.turn hK oM (hK.heap h.ok.d.hB λb=>?_) ⟨d.hA,d.hC⟩ (b.apt dC);rcases c _ b with a|a
 .obtain⟨cA,j⟩:=h.hA;simp only[mC,lN,or_false] at a;rcases a with e|e|e|e
  .exact h.ok.d.ne.1 e.symm
  .exact h.ok.d.ne.2 e.symm
  .exact ω h.ok.d.hB h.S.sh.hSt dC e
  .exact qC5 h.ok.d.hB h.S.sh.hM e
 .exact h.S.off h.ok.d.hB y (by have:=gM h.hi;rw[h.hy] at this;exact this) _ a sM
theorem At.step(h:At base T w g q r i y){L}{q':SG}{y':YG}(hK:Kp L w w')(b:∀ k∈L,k∈[g.A,g.C,q.St,q.s.M]\/k∈qG9 y)(D:y'.tb=y.tb)(d:∀ k∈qG9 y',k∈qG9 y\/w.heap.size<=k)(m:Sh w' q'.Db q'.St g.A g.C g.n q'.nM q'.s q'.D g.l g.wr r)
  (e:q'.St=q.St/\q'.s.V=q.s.V/\q'.s.rb=q.s.rb/\q'.s.rs=q.s.rs) (u:q'.s.M=q.s.M/\q'.Db=q.Db/\q'.s.N=q.s.N/\q'.s.bg=q.s.bg/\q'.nM=q.nM) (s:Books q'.s q'.D ((g.ys.set i y').map kOf)) (F:∀ j (O:j<g.ys.length),j≠i->g.ys[j].t.over=false->g.ys[j].t.wrt=false->∀ zd,q'.D.atKey (χ g.ys[j].t.nr) zd=q.D.atKey (χ g.ys[j].t.nr) zd) (I:YOk base (T+2) w' g.n g.k.com h.S.sh.E g.l q' y'):DStep qF2 base (T+2) w w' g:=by
 obtain⟨f,v,x,z,B⟩:=u;have M:=h.S.bg1;have P:=h.S.nM;have G:Devl q.s.V g.A g.n g.C g.l g.wr w':=by rw[<-e.2.1];exact m.dev
 refine h.ok.txn (g':={ g with so:=some q',ys:=g.ys.set i y' }) h.e1 h.S h.hi hK (λk a=>?_) oM ⟨rfl,rfl,rfl,rfl,rfl,rfl⟩ ⟨rfl,rfl,rfl⟩ (by rw[h.hy];exact D) (by rw[h.hy];exact d) ⟨e.1,f⟩ ?_ ⟨r,h.e2,by rw[v];exact h.ex,by rw[x];exact h.eN,?_,h.S.set h.hi h.ok.sep hK (by rw[h.hy];exact b) oM m e f (by rw[z];omega) (by rw[B];omega) s F I⟩
 .rw[h.hy];rcases b k a with a|a
  .simp only[mC,lN,or_false] at a;left;rcases a with e|e|e|e<;>simp[e]
  .exact .inr a
 .exact { h.disk hK b G with }
 .refine h.ec.keep hK λk a c t K e d=>?_;have H:=h.ok.muts;obtain⟨_,o,p,J⟩:=H k (by
   rcases b k a with a|a
   .simp only[mC,lN,or_false] at a;exact qD1.2 (by rw[h.e1];simp only[qJ6,mC,lN,or_false];rcases a with e | e | e | e<;>simp[e])
   .exact qD1.2 (.inr (.inr (.inr (.inr (.inr ⟨_,gM h.hi,by rw[h.hy];exact a⟩))))))
  rw[e] at p;cases p;have:=J _ _ _ rfl;rw[mS d] at this
  revert this;decide
theorem At.quiet(h:At base T w g q r i y)(d:Qt g q w1)(hK:Kp [q.St,g.A] w w1)(b:Kp [] w1 w'):DStep qF2 base (T+2) w w' g:=by
 have c:=hK.tr b;have m:=qF8 d.2 b (by intro k a;cases a);have f:=h.yy;have p:=h.S.sh.quiet f.hx (c.mono (by simp +contextual)) m (b.hp d.1);have o:y∈g.ys:=by have:=gM h.hi;rw[h.hy] at this;exact this
 obtain⟨cA,j⟩:=h.hA;refine h.step (q':=q) (y':=y) c (λk a=>.inl (by simp at a |-;rcases a with e | e<;>simp[e])) rfl (λk a=>.inl a) p ⟨rfl,rfl,rfl,rfl⟩ ⟨rfl,rfl,rfl,rfl,rfl⟩ (by rw[<-h.hy];simpa using h.S.bk) (λ_ _ _ _ _ _=>rfl) (f.kp c oM (λk a hm=>?_) ((Apt.one h.S.sh.hSt dC).cons (Apt.one j dC)));exact h.S.off h.ok.d.hB y o k a (by simp at hm |-;rcases hm with e | e<;>simp[e])
theorem At.bad(h:At base T w g q r i y)(a:BadT h.S.sh.E w w' y.t q.s):Qt g q w'/\Kp [q.St,g.A] w w':=by
 have b:=a.hSt;have c:=a.kp;rw[h.yy.st] at b c;exact⟨⟨b,a.dev⟩,c⟩
theorem At.over(h:At base T w g q r i y)(b:w'.heap[y.t.St]?=some (θ 0 q.s))(a:Kp [y.t.St] w w'):Qt g q w'/\Kp [q.St,g.A] w w':=by
 rw[h.yy.st] at b a;exact⟨⟨b,qF8 h.S.sh.dev a (OffD.one h.S.sh.hSt dC)⟩,a.mono (by simp +contextual)⟩
end
def qV0:List TypeId:=[203,282,80]
section
variable {base N A C n i:Nat} {T wr com:Int} {w w':World} {E:SEnv} {l:List UInt8} {q:SG} {y y':YG} {L:List Nat} {g:TG} {r:Root}
theorem YOk.crowK(h:YOk base T w N com E l q y)(hK:Kp L w w')(b:Apt w L qV0):w'.ownsRow base 203 1 y.f.cs (qJ9 y).length (qJ3 (qJ9 y)):=
 qR0 h.crow hK (λk d e=>by
  obtain⟨_,c,a⟩:=qH2 h.crow k (by simp[show y.f.cs.ownBlock=some k from d]);exact b k e _ _ _ a dC)
theorem YOk.cursK(h:YOk base T w N com E l q y)(hK:Kp L w w')(d:Apt w L qV0)(f:y'.f.x=y.f.x)(k:y.t.ch<=y'.t.ch)(j:y'.t.over=true\/y.t.ch<y'.t.ch):∀ c∈y.cs,COk base w' y' c:=λc hm=>by
 have a:=h.curs c hm;have m:=a.s1;refine⟨a.bc,a.bC,hK.heap a.hc (λb=>d _ b _ _ _ a.hc dC),?_,a.s0,oM,λ_ e1 e2=>?_⟩
 .rw[f];exact hK.heap a.hC (λb=>d _ b _ _ _ a.hC dC)
 .rcases j with e|e
  .rw[e] at e2;cases e2
  .omega
theorem Sh.one{e St f k:Nat}{s}{D}(h:Sh w e St A C n f s D l wr r)(hK:Kp [k] w w'){c}{t}{fr}(a:w.heap[k]?=some (.cells c t fr))(b:t ∉ [102,169,263,114,115]):Sh w' e St A C n f s D l wr r:=by
 obtain⟨cA,j⟩:=h.hA;simp only[mC,lN,or_false,not_or] at b;refine Sh.kp h hK λi d m=>?_;rw[mS m] at d;simp only[mC,lN,or_false] at d;rcases d with rfl|rfl|rfl|rfl|rfl|rfl
 .exact ω a h.hDb b.1 rfl
 .exact ω a h.hSt b.2.1 rfl
 .exact qC5 a h.hM rfl
 .exact ω a h.dev.hV b.2.2.1 rfl
 .exact ω a j b.2.2.2.1 rfl
 .exact ω a h.dev.hC b.2.2.2.2 rfl
theorem At.chg(h:At base T w g q r i y){c:Int}(d:w.heap[g.A]?=some (qG6 g.n g.C (.slice none 0 0) c g.wr))(tbs)(b:List (TF × Nat)):ChIn w g.B y.tb g.A g.n g.C (.slice none 0 0) c g.wr g.k y.f tbs b y.ps:=
 have e:=h.T1;have a:=h.yy
 ⟨h.ok.d.hB,h.ok.d.po,rfl,d,a.hT,a.sp,by have:=a.sz;omega,h.g0,by have:=a.m0;omega,by have:=a.m1;omega,a.c0,by have:=a.c1;omega,by rw[a.stp];exact a.ch0,by rw[a.stp];have:=a.ch1;omega⟩
theorem At.tfs(h:At base T w g q r i y):TFs w g.k (qF4 g) (qH3 g.ys):=
 ⟨PRow.of h.ok.row,by simp[qF4,qH3],λj d k=>by
  have f:j<g.ys.length:=by simpa [qF4] using d
  have a:=h.S.ys _ (gM f);obtain⟨b,c,e⟩:=a.sp.form;exact⟨by simpa [qF4,qH3] using a.hT,b,c,by simpa [qH3] using e⟩⟩
theorem At.ne(h:At base T w g q r i y):y.tb≠q.St/\y.tb≠y.f.x/\y.tb≠g.A/\y.f.x≠q.St/\y.f.x≠g.A/\y.tb≠q.s.M/\y.f.x≠q.s.M:=by
 obtain⟨c,b⟩:=h.hA;have a:=h.yy;exact⟨ω a.hT h.S.sh.hSt dC,ω a.hT a.hx dC,ω a.hT b dC,ω a.hx h.S.sh.hSt dC,ω a.hx b dC,qC5 a.hT h.S.sh.hM,qC5 a.hx h.S.sh.hM⟩
theorem At.apt(h:At base T w g q r i y){Ts:List TypeId}(a:∀ t∈[169,99,197,114],t ∉ Ts):Apt w [q.St,y.f.x,g.A,q.s.M,y.tb] Ts:=λk hk c t fr e=>by
 obtain⟨cA,d⟩:=h.hA;have b:=h.yy;simp only[mC,lN,or_false] at hk;rcases hk with rfl|rfl|rfl|rfl|rfl
 .rw[h.S.sh.hSt] at e;cases e;exact a _ sM
 .rw[b.hx] at e;cases e;exact a _ sM
 .rw[d] at e;cases e;exact a _ sM
 .exact absurd rfl (qC5 e h.S.sh.hM)
 .rw[b.hT] at e;cases e;exact a _ sM
theorem At.own(h:At base T w g q r i y):∀ k∈[q.St,y.f.x,g.A,q.s.M,y.tb],k∈[g.A,g.C,q.St,q.s.M]\/k∈qG9 y:=λk hk=>by
 simp only[mC,lN,or_false] at hk;rcases hk with e|e|e|e|e
 .exact .inl (by simp[e])
 .exact .inr (qF9.2 (.inr (.inl e)))
 .exact .inl (by simp[e])
 .exact .inl (by simp[e])
 .exact .inr (qF9.2 (.inl e))
theorem At.changed{r'}{qs}(h:At base T w g q r i y)(F:y.t.over=false)(f:y.t.wrt=true)(B:RGood r')(s:r'.cont=qs)(O:qs.length<=y.ps.length+1)(z:∀ c,qL9 c y.r->qL9 (c+1) r')(D:r'.lf<=1400)
  (x:zJ2 y.f y.tb (λw1=>∃ h',FineT h.S.sh.E w w1 y.f.x y.t q.s r' h') [q.St,y.f.x,g.A] qs w w'):DStep qF2 base (T+2) w w' g:=by
 obtain⟨w1,v',⟨h',hF⟩,hK1,hK2,hT',hsp⟩:=x;have a:=h.yy;have o:=a.live F;obtain⟨⟨c,u,v⟩,_⟩:=o.wrt f;obtain⟨I,n2,n3,n4,n5,n6,Q⟩:=h.ne;have d:Kp [q.St,y.f.x,g.A,q.s.M,y.tb] w w':=(hK1.mono (λk b _=>by simp at b |-;rcases b with h | h | h<;>simp[h])).trans hK2 (λk b _=>by simp at b |-;simp[b]);have m:=hK1.heap a.hT (by simp[I,n2,n3]);have H:=hK2.heap hF.hx (by simpa using n2.symm);have p:Ϙ w1 q.St (θ 0 q.s):=by have:=hF.hSt;rw[a.st] at this;exact this
 have G:=Sh.one (h.S.sh.quiet a.hx hK1 hF.dev p) hK2 m dC;have P:((qs.length:Nat):Int)<=T+1:=by have:=a.sz;omega
 have m0:=a.m0;have m1:=a.m1;have c0:=a.c0;have c1:=a.c1;have J:=a.ch0;have K:=a.ch1;have j:Apt w _ qV0:=h.apt dC;refine h.step (q':=q) (y':=⟨y.tb,y.f.step v' qs.length,{ y.t with h:=h',ch:=y.t.ch+1 },r',qs,y.cs⟩) d h.own rfl (λk b=>.inl b) G ⟨rfl,rfl,rfl,rfl⟩ ⟨rfl,rfl,rfl,rfl,rfl⟩ (by rw[zH5 kOf h.hi (by rw[h.hy];rfl)];exact h.S.bk) (λ_ _ _ _ _ _=>rfl) ?_;refine { bT:=a.bT,bX:=a.bX,hT:=hT',hx:=H,st:=a.st,sp:=hsp,m0:=?_,m1:=?_,c0:=by show 0<=y.f.chg+1;omega,c1:=by show y.f.chg+1<=T+2;omega,cm:=a.cm,wr:=a.wr,dn:=a.dn,ch0:=by show 0<=y.t.ch+1;omega,ch1:=by show y.t.ch+1<=T+2;omega,stp:=by show y.f.stp+1=y.t.ch+1;rw[a.stp],crow:=a.crowK d j,clen:=by have:=a.clen;show ((y.cs.length:Nat):Int)<=T+2;omega,curs:=a.cursK d j rfl (by show y.t.ch<=y.t.ch+1;omega) (.inr (by show y.t.ch<y.t.ch+1;omega)),cbs:=a.cbs,Cbs:=a.Cbs,live:=λ_=>⟨o.on,?_,B,s,λ_=>⟨⟨c+1,by show y.f.chg+1=_;rw[u];rfl,z c v⟩,D⟩,λe=>by rw[show y.t.wrt=false from e] at f;cases f⟩ }
 .show ((qs.length:Nat):Int)<=(if y.f.most<(qs.length:Nat) then ((qs.length:Nat):Int) else y.f.most);split<;>omega
 .show (if y.f.most<(qs.length:Nat) then ((qs.length:Nat):Int) else y.f.most)<=T+2;split<;>omega
 .exact hF.rr.keepT hK2 (λk b c t M e=>by simp at b;subst b;rw[m] at e;cases e;decide)
end
theorem kR4{y:YG}{key val}{a:Bool}(f:y.t.over=false)(j:y.f.wr=y.t.wrt)(e:y.f.dn=y.t.over)(h:qH7 y.f.wr y.f.dn key val≠0):qW6 y.t ⟨key,val⟩ a=some (qH7 y.f.wr y.f.dn key val):=by
 rw[j,e,f] at h |-;simp only[qH7,qW6,Bool.false_eq_true,if_false] at h |-;split
 .rfl
 .split
  .rfl
  .split
   .rfl
   .rename_i b c d;rw[if_neg b,if_neg c,if_neg d] at h;exact absurd rfl h
theorem xR1{y:YG}{key val}(d:y.t.over=false)(e:y.f.wr=y.t.wrt)(c:y.f.dn=y.t.over)(h:qH7 y.f.wr y.f.dn key val=0):y.t.wrt=true/\qH9 key=true/\val.size<=12:=by
 rw[e,c,d] at h;simp only[qH7,Bool.false_eq_true,if_false] at h;split at h
 .simp at h
 .split at h
  .simp at h
  .split at h
   .simp at h
   .rename_i a b f;exact⟨by simpa using a,by simpa using b,oM⟩
theorem jJ4{y:YG}{key}(e:y.t.over=false)(f:y.f.wr=y.t.wrt)(d:y.f.dn=y.t.over)(h:qH7 y.f.wr y.f.dn key ⟨#[]⟩≠0):qY4 y.t key=some (qH7 y.f.wr y.f.dn key ⟨#[]⟩):=by
 rw[f,d,e] at h |-;have a:¬12<(⟨#[]⟩:ByteArray).size:=dC
 simp only[qH7,qY4,Bool.false_eq_true,if_false,if_neg a] at h |-;split
 .rfl
 .split
  .rfl
  .rename_i b c;rw[if_neg b,if_neg c] at h;exact absurd rfl h
def CSt(base:Nat)(T:Int)(w:World)(g:TG)(F:Nat)(vs:Array Value):Prop:=Calls prog F vs w fun e w'=>e=.returned (.bool true)∧DStep qF2 base (T+2) w w' g
section
variable {base i:Nat} {T:Int} {w:World} {q:SG} {y:YG} {g:TG} {r:Root}
theorem kJ1(h:At base T w g q r i y)(key val):CSt base T w g 132 #[.pointer (some ⟨g.B,0,none⟩),.pointer (some ⟨y.tb,0,none⟩),.string key,.string val,.bool false]:=by
 have f:=h.yy;obtain⟨cA,F⟩:=h.hA;have O:ProgS w [q.St,g.A]:=h.progs (by simp +contextual);have P:∀ j,qH7 y.f.wr y.f.dn key val=j->j≠0->(Ω 34 #[ϖ y.f.x,.string key,.string val] w λe w'=>∃ v,e=ϱ v/\ErrV w' v (some j)/\Qt g q w'/\Kp [q.St,g.A] w w')->CSt base T w g 132 #[ϖ g.B,ϖ y.tb,.string key,.string val,.bool false]:=λj hj hj0 H=>
  (jC0 g.B y.tb g.A g.n g.C (.slice none 0 0) cA g.wr g.k y.f [] [] y.ps key val j (some j) rfl [q.St,g.A] (Qt g q) w (h.chg F _ _) O hj hj0 H).mono λe w' ⟨a,w1,b,c,d⟩=>⟨a,h.quiet b c d⟩
 cases ho:y.t.over with
 | true=>
  refine P 5 (by rw[f.dn,ho];rfl) dC ((kJ2 y.f.x y.t q.s ⟨key,val⟩ w f.hx ho h.hStt h.S.sh.po h.xS).mono ?_);rintro e w' ⟨v,a,b,c,d⟩;obtain⟨m,o⟩:=h.over c d;exact⟨v,a,b,m,o⟩
 | false=>
  have G:=h.live ho;by_cases t:qH7 y.f.wr y.f.dn key val=0
  .obtain⟨u,D,W⟩:=xR1 ho f.wr f.dn t;have I:qC6 ⟨key,val⟩:=⟨((qV6 key).1 D).1,((qV6 key).1 D).2,W⟩;have k:=f.live ho;obtain⟨B,M⟩:=zR8 k.good I;have Y:=zN4 ⟨key,val⟩ y.ps;rw[k.cont] at M;have S:=zH3 k.rr;by_cases hr:((y.r.put ⟨key,val⟩).news:Int)<=(g.n:Int)-2-q.s.bl
   .refine (jC1 g.B y.tb g.A g.n g.C (.slice none 0 0) cA g.wr g.k y.f [] [] y.ps key val none rfl [q.St,y.f.x,g.A] (λw1=>∃ p,FineT h.S.sh.E w w1 y.f.x y.t q.s (y.r.put ⟨key,val⟩) p/\qL3 g.n g.l (y.r.put ⟨key,val⟩)) w (h.chg F _ _) (h.progs (by simp +contextual)) t ((kJ0 h.S.sh.E y.f.x g.A g.n y.t q.s y.r ⟨key,val⟩ w G u I hr).mono ?_)).mono λe w' ⟨a,w1,v',⟨p,s,hO⟩,b⟩=>⟨a,?_⟩
    .rintro e w' ⟨rfl,p,s⟩;have Q:=s.kp;rw[f.st] at Q;exact⟨_,rfl,rfl,⟨p,s,zH3 s.rr⟩,Q⟩
    .have ac:=xH7 hO B;have X:=h.S.sh.N4;have R:(y.r.put ⟨key,val⟩).lf<=1400:=by have:=h.S.sh.bl0;omega
     exact h.changed ho u B M Y (λc H=>jL9 k.good (zQ7 S) I H (zF7 k.good (k.wrt u).2) (zQ9 S) (zF7 B R)) R ⟨w1,v',⟨p,s⟩,b⟩
   .have hT:=h.T1;have X:=h.S.sh.N4;have af:=f.sz;have ad:=h.ok.d.qlen r h.e2;obtain⟨U,V,Z⟩:=h.ec.form;refine (jC2 g.B y.tb g.A g.n g.C (.slice none 0 0) cA g.wr g.k y.f (qF4 g) (qH3 g.ys) y.ps key val (some 3) rfl [q.St,g.A] (Qt g q) w (h.chg F _ _) O t ((xM2 h.S.sh.E y.f.x g.A g.n y.t q.s y.r ⟨key,val⟩ 3 w G ?_).mono ?_) h.tfs ?_ ?_ U r.cont.length V Z oM (by show g.n<=100000;omega) oM ?_).mono λe w' ⟨a,w1,b,c,d⟩=>⟨a,h.quiet b c d⟩
    .have hv:¬12<val.size:=oM
     simp only[qW6,u,D,hv,if_false,Bool.true_eq_false];rw[if_pos sO]
    .rintro e w' ⟨v,rfl,a,b⟩;obtain⟨m,o⟩:=h.bad b;exact⟨v,rfl,a,m,o⟩
    .have:=h.ok.ylen;simp[qF4];omega
    .intro x J;obtain⟨z,K,rfl⟩:=List.mem_map.1 J;have:=(h.S.ys z K).sz;simp only;omega
    .have ae:=(zH8 g.k.com (qH3 g.ys) (λx J=>by
      obtain⟨z,K,rfl⟩:=List.mem_map.1 J;have:=(h.S.ys z K).sz;simp only;omega)).1
     rw[qR8];have aa:=qW8 B;rw[M] at aa;have ab:=h.S.sh.bl1;have:¬(3*(max (max y.f.most ((ins ⟨key,val⟩ y.ps).length:Nat)) ((r.cont.length:Nat):Int))+12+qG5 g.k.com (qH3 g.ys)<=(g.k.n:Int)):=by
      show ¬(_<=(g.n:Int));omega
     rw[decide_eq_false this];rfl
  .refine P _ rfl t ((xM2 h.S.sh.E y.f.x g.A g.n y.t q.s y.r ⟨key,val⟩ _ w G (kR4 ho f.wr f.dn t)).mono ?_);rintro e w' ⟨v,rfl,a,b⟩;obtain⟨m,o⟩:=h.bad b;exact⟨v,rfl,a,m,o⟩
theorem jJ1(h:At base T w g q r i y)(key val):CSt base T w g 132 #[.pointer (some ⟨g.B,0,none⟩),.pointer (some ⟨y.tb,0,none⟩),.string key,.string val,.bool true]:=by
 have f:=h.yy;obtain⟨cA,D⟩:=h.hA;have M:ProgS w [q.St,g.A]:=h.progs (by simp +contextual);have H:∀ j,qH7 y.f.wr y.f.dn key ⟨#[]⟩=j->j≠0->(Ω 28 #[ϖ y.f.x,.string key] w λe w'=>∃ v,e=ϱ v/\ErrV w' v (some j)/\Qt g q w'/\Kp [q.St,g.A] w w')->CSt base T w g 132 #[ϖ g.B,ϖ y.tb,.string key,.string val,.bool true]:=λj hj hj0 z=>
  (jB8 g.B y.tb g.A g.n g.C (.slice none 0 0) cA g.wr g.k y.f [] [] y.ps key val j (some j) rfl [q.St,g.A] (Qt g q) w (h.chg D _ _) M hj hj0 z).mono λe w' ⟨a,w1,b,c,d⟩=>⟨a,h.quiet b c d⟩
 cases ho:y.t.over with
 | true=>
  refine H 5 (by rw[f.dn,ho];rfl) dC ((jJ2 y.f.x y.t q.s key w f.hx ho h.hStt h.S.sh.po h.xS).mono ?_);rintro e w' ⟨v,a,b,c,d⟩;obtain⟨t,u⟩:=h.over c d;exact⟨v,a,b,t,u⟩
 | false=>
  have G:=h.live ho;by_cases s:qH7 y.f.wr y.f.dn key ⟨#[]⟩=0
  .obtain⟨o,K,R⟩:=xR1 ho f.wr f.dn s;have m:=f.live ho;obtain⟨Q,J⟩:=xA2 (k:=key) m.good;have P:(del key y.ps).length<=y.ps.length+1:=Nat.le_succ_of_le (List.length_filter_le _ _);rw[m.cont] at J;have p:=zH3 m.rr;have B:=(m.wrt o).2;refine (jB9 g.B y.tb g.A g.n g.C (.slice none 0 0) cA g.wr g.k y.f [] [] y.ps key val none rfl [q.St,y.f.x,g.A] (λw1=>∃ x,FineT h.S.sh.E w w1 y.f.x y.t q.s (y.r.del key) x) w (h.chg D _ _) (h.progs (by simp +contextual)) s ((jI8 h.S.sh.E y.f.x g.A g.n y.t q.s y.r key w G o K).mono ?_)).mono λe w' ⟨a,b⟩=>⟨a,?_⟩
   .rintro e w' ⟨rfl,x,F⟩;have I:=F.kp;rw[f.st] at I;exact⟨_,rfl,rfl,⟨x,F⟩,I⟩
   .obtain⟨⟨c0,_,O⟩,_⟩:=m.wrt o;exact h.changed ho o Q J P (λc z=>(xB1 m.good (zQ7 p) z B (zQ9 p)).1) (lT (xB1 m.good (zQ7 p) O B (zQ9 p)).2 B) b
  .refine H _ rfl s ((jI7 h.S.sh.E y.f.x g.A g.n y.t q.s y.r key _ w G (jJ4 ho f.wr f.dn s)).mono ?_);rintro e w' ⟨v,rfl,a,b⟩;obtain⟨t,u⟩:=h.bad b;exact⟨v,rfl,a,t,u⟩
end
theorem zA7{c:Int}(a:0<=c)(b:c<=2000000000):nx c=c+1:=by simp only[nx,wrap64];omega
theorem xJ5{c:Int}(a:0<=c)(b:c<=1000000000):∀ k:Nat,k<=500000000->nk c k=c+k
 | 0,_=>by simp[nk]
 | k+1,h=>by
  rw[nk,xJ5 a b k oM,zA7 oM oM];omega
section
variable {base i:Nat} {T:Int} {w w':World} {q q':SG} {y:YG} {g:TG} {r:Root}
theorem qZ0(h:At base T w g q r i y)(key):CSt base T w g 133 #[.pointer (some ⟨g.B,0,none⟩),.pointer (some ⟨y.tb,0,none⟩),.string key]:=by
 have k:=h.yy;obtain⟨cA,l⟩:=h.hA;have m:ProgS w [q.St,g.A]:=h.progs (by simp +contextual);have n:∀ w',qS6 (Qt g q) [q.St,g.A] w w'->DStep qF2 base (T+2) w w' g:=λw' ⟨w1,b,c,d⟩=>h.quiet b c d
 cases ho:y.t.over with
 | true=>
  refine (xD4 g.B y.tb g.A g.n g.C (.slice none 0 0) cA g.wr g.k y.f y.ps key (qN2 y.ps key) (qH9 key) (qG1 y.ps key).isSome 5 (some 5) rfl [q.St,g.A] (Qt g q) w (h.look l) m rfl (.inl ⟨by rw[k.dn,ho],rfl⟩) rfl ((kP2 y.f.x y.t q.s key w k.hx ho h.hStt h.S.sh.po h.xS).mono ?_)).mono λe w' ⟨a,b⟩=>⟨a,n w' b⟩;rintro e w' ⟨v,a,b,c,d⟩;obtain⟨f,j⟩:=h.over c d;exact⟨v,a,b,f,j⟩
 | false=>
  have o:=h.live ho;have p:=(k.live ho).cont
  cases hk:qH9 key with
  | true=>
   refine (jQ8 g.B y.tb g.A g.n g.C (.slice none 0 0) cA g.wr g.k y.f y.ps key (qN2 y.ps key) (qG1 y.ps key).isSome none rfl [q.St,g.A] (Qt g q) w (h.look l) m hk (by rw[k.dn,ho]) rfl ((kP0 h.S.sh.E y.f.x g.A g.n y.t q.s y.r key w o hk).mono ?_)).mono λe w' ⟨a,b⟩=>⟨a,n w' b⟩;rintro e w' ⟨rfl,b⟩;obtain⟨f,j⟩:=h.bad b;rw[p];exact⟨_,rfl,rfl,f,j⟩
  | false=>
   refine (xD4 g.B y.tb g.A g.n g.C (.slice none 0 0) cA g.wr g.k y.f y.ps key (qN2 y.ps key) false (qG1 y.ps key).isSome 1 (some 1) rfl [q.St,g.A] (Qt g q) w (h.look l) m hk (.inr ⟨by rw[k.dn,ho],rfl,rfl⟩) rfl ((kP1 h.S.sh.E y.f.x g.A g.n y.t q.s y.r key w o hk).mono ?_)).mono λe w' ⟨a,b⟩=>⟨a,n w' b⟩;rintro e w' ⟨v,rfl,a,b⟩;obtain⟨f,j⟩:=h.bad b;exact⟨v,rfl,a,f,j⟩
theorem At.num(h:At base T w g q r i y):(g.ys.map kOf)[i]?=some (kOf y)/\1<=y.t.nr/\y.t.nr<=1000000000:=by
 have a:(g.ys.map kOf)[i]?=some (kOf y):=by simp[h.hi,h.hy]
 obtain⟨b,c⟩:=h.S.bk.nrs i (kOf y) a;have d:y.t.nr<=q.s.bg:=c;have:=h.S.bg1;have:=h.T1;exact⟨a,b,oM⟩
theorem At.others(h:At base T w g q r i y)(j:Nat)(a:j<g.ys.length)(c:j≠i):χ g.ys[j].t.nr≠χ y.t.nr:=λe=>by
 have b:(g.ys.map kOf)[j]?=some (kOf g.ys[j]):=by simp[a]
 exact c (h.S.bk.dist j i _ _ b h.num.1 (Gw.zF2 e))
theorem At.overY(h:At base T w g q r i y){L}{q':SG}{N:Nat}{j:Int}{E}{l}(hK:Kp L w w')(m:Apt w L (284::qV0))(s:g.k.com<=j)(hT:w'.heap[y.tb]?=some (tob { y.f with dn:=true }))(hx:w'.heap[y.f.x]?=some (qA1 y.t.ended))(o:q'.St=q.St):YOk base (T+2) w' N j E l q' ⟨y.tb,{ y.f with dn:=true },y.t.ended,y.r,y.ps,y.cs⟩:=
 have a:=h.yy;have n:Apt w L qV0:=λk f c t d e b=>m k f c t d e (mM _ b)
 { bT:=a.bT,bX:=a.bX,hT:=hT,hx:=hx,st:=by rw[o];exact a.st,sp:=a.sp.keep hK (λk f c t d e b=>m k f c t d e (by simp at b;simp[b])),m0:=a.m0,m1:=by have:=a.m1;show y.f.most<=T+2;omega,c0:=a.c0,c1:=by have:=a.c1;show y.f.chg<=T+2;omega,cm:=Int.le_trans a.cm s,wr:=a.wr,dn:=rfl,ch0:=a.ch0,ch1:=by have:=a.ch1;show y.t.ch<=T+2;omega,stp:=a.stp,crow:=a.crowK hK n,clen:=by have:=a.clen;show ((y.cs.length:Nat):Int)<=T+2;omega,curs:=a.cursK hK n rfl (iR _) (.inl rfl),cbs:=a.cbs,Cbs:=a.Cbs,live:=λp=>by cases p }
theorem At.left(h:At base T w g q r i y)(m:y.t.over=false)(e:zU6 y.f y.tb (λw1=>w1.heap[y.f.x]?=some (qA1 y.t.ended)/\Sh w1 q.Db q.St g.A g.C g.n q.nM (q.s.left y.t.nr) (q.D.del (χ y.t.nr)) g.l g.wr r) [q.St,y.f.x,q.s.M] w w'):DStep qF2 base (T+2) w w' g:=by
 obtain⟨w1,⟨r1,r2⟩,hK1,hK2,hT'⟩:=e;have o:=h.yy;obtain⟨p,n2,n3,n4,n5,n6,t⟩:=h.ne;have b:Kp [q.St,y.f.x,g.A,q.s.M,y.tb] w w':=(hK1.mono (λk a _=>by simp at a |-;rcases a with h | h | h<;>simp[h])).trans hK2 (λk a _=>by simp at a |-;simp[a]);have c:=hK1.heap o.hT (by simp[p,n2,n6]);have n:=Sh.one r2 hK2 c dC;have d:=h.S.bk.left (World.ownsMap.tidy h.S.sh.hM qM4) h.num.1 m;refine h.step (q':={ q with s:=q.s.left y.t.nr,D:=q.D.del (χ y.t.nr) }) (y':=⟨y.tb,{ y.f with dn:=true },y.t.ended,y.r,y.ps,y.cs⟩) b h.own rfl (λk a=>.inl a) n ⟨rfl,rfl,rfl,rfl⟩ ⟨rfl,rfl,rfl,rfl,rfl⟩ (by rw[List.map_set];exact d) (λj f l _ _ zd=>Maps.atKey_del_other (h.others j f l) zd) (h.overY b (h.apt dC) (iR _) hT' (hK2.heap r1 (by simpa using n2.symm)) rfl)
theorem qV2(h:At base T w g q r i y)(j:Bool)(o:j=true->y.t.over=false->y.t.wrt=false):CSt base T w g 135 #[.pointer (some ⟨g.B,0,none⟩),.pointer (some ⟨y.tb,0,none⟩),.bool j]:=by
 have f:=h.yy;obtain⟨cA,l⟩:=h.hA;obtain⟨B,n2,n3,n4,n5,n6,C⟩:=h.ne;obtain⟨z,A,p⟩:=h.num;have x:=qC5 l h.S.sh.hM;have m:=ω l h.S.sh.hSt dC
 cases ho:y.t.over with
 | true=>
  refine (xA6 j g.B y.tb g.A g.n g.C (.slice none 0 0) cA g.wr g.k y.f y.ps (some 5) [q.St] (Qt g q) w (h.look l) (h.progs (by simp +contextual)) (by simpa using m) (.inl ⟨by rw[f.dn,ho],rfl⟩) ?_).mono λe w' ⟨a,b⟩=>⟨a,?_⟩
  .have k:∀ e w',(∃ v,e=Ending.returned v/\ErrV w' v (some 5)/\Ϙ w' y.t.St (θ 0 q.s)/\Kp [y.t.St] w w')->∃ v,e=Ending.returned v/\ErrV w' v (some 5)/\Qt g q w'/\Kp [q.St] w w':=λe w' ⟨v,a,b,c,d⟩=>⟨v,a,b,(h.over c d).1,by rw[<-f.st];exact d⟩
   cases j with
   | true=>exact (kO3 y.f.x y.t q.s w f.hx ho h.hStt h.S.sh.po h.xS).mono k
   | false=>exact (xS8 y.f.x y.t q.s w f.hx ho h.hStt h.S.sh.po h.xS).mono k
  .rcases b with⟨_,w1,s,t,u⟩|⟨b,_⟩
   .exact h.quiet s (t.mono (by simp +contextual)) u
   .rw[f.dn,ho] at b;cases b
 | false=>
  have n:=h.live ho;refine (xA6 j g.B y.tb g.A g.n g.C (.slice none 0 0) cA g.wr g.k y.f y.ps none [q.St,y.f.x,q.s.M] (λw1=>Ϙ w1 y.f.x (qA1 y.t.ended)/\Sh w1 q.Db q.St g.A g.C g.n q.nM (q.s.left y.t.nr) (q.D.del (χ y.t.nr)) g.l g.wr r) w (h.look l) (h.progs (by simp +contextual)) (by simp[m,n5.symm,x]) (.inr ⟨by rw[f.dn,ho],rfl,?_⟩) ?_).mono λe w' ⟨a,b⟩=>⟨a,?_⟩
  .cases j with
   | true=>exact .inr (by rw[f.wr];exact o rfl ho)
   | false=>exact .inl rfl
  .have k:∀ e w',(e=Ending.returned Value.nilIface/\Ϙ w' y.f.x (qA1 y.t.ended)/\Sh w' q.Db q.St g.A g.C g.n q.nM (q.s.left y.t.nr) (q.D.del (χ y.t.nr)) g.l g.wr r/\Kp [q.St,y.f.x,q.s.M] w w')->∃ v,e=Ending.returned v/\ErrV w' v none/\(Ϙ w' y.f.x (qA1 y.t.ended)/\Sh w' q.Db q.St g.A g.C g.n q.nM (q.s.left y.t.nr) (q.D.del (χ y.t.nr)) g.l g.wr r)/\Kp [q.St,y.f.x,q.s.M] w w':=λe w' ⟨a,b,c,d⟩=>⟨_,a,rfl,⟨b,c⟩,d⟩
   cases j with
   | true=>exact (h.S.sh.commitR n f.st oM p (o rfl ho)).mono k
   | false=>exact (h.S.sh.abort n f.st oM p).mono k
  .rcases b with⟨b,_⟩|⟨_,b⟩
   .rw[f.dn,ho] at b;cases b
   .exact h.left ho b
end
section
variable {base:Nat} {T:Int} {w w':World} {q q':SG} {y:YG} {g g':TG} {r:Root}
theorem TOk.anew(h:TOk base T w g)(G:0<=T)(hK:Kp [g.B,g.A,g.C] w w')(e:g'.B=g.B/\g'.A=g.A/\g'.C=g.C/\g'.hs=g.hs/\g'.ys=[])(C:g'.k.li=g.k.li/\g'.k.wa=g.k.wa/\g'.k.ts=.slice none 0 0)(F:∀ k∈qJ6 g'.so,w.heap.size<=k)(E:DOk base (T+2) w' g')
  (m:(g'.k.x=none/\g'.so=none)\/∃ q r,g'.so=some q/\g'.q=some r/\g'.k.x=some ⟨q.Db,0,none⟩/\q.s.N=g'.N/\SPR w' g'.k.c r.cont/\SOk base (T+2) w' g'.A g'.C g'.n g'.l g'.wr g'.k.com r q []):DStep qF2 base (T+2) w w' g:=by
 obtain⟨n,A,B,i,f⟩:=e;obtain⟨u,v,z⟩:=C;obtain⟨cA,D⟩:=h.d.dev.hA;have l:Muts base [130,114,115] w [g.B,g.A,g.C]:=λk d=>by
  simp only[mC,lN,or_false] at d;rcases d with rfl|rfl|rfl
  .exact⟨h.d.bB,_,h.d.hB,λc t o e=>by cases e;decide⟩
  .exact⟨h.d.bA,_,D,λc t o e=>by cases e;decide⟩
  .exact⟨h.d.bC,_,h.d.dev.hC,λc t o e=>by cases e;decide⟩
 refine⟨g',[g.B,g.A,g.C],⟨E,?_,by have:=h.hlen;rw[i];omega,λx p=>by rw[i] at p;have:=h.hps x p;omega,?_,by rw[f];show ((0:Nat):Int)<=T+2;omega,?_,by rw[f];exact List.Pairwise.nil⟩,n,λk d=>?_,hK,λk d=>qD1.2 (.inl (by simpa using d))⟩
 .rw[i];refine Gw.Held.cast (Gw.Held.kp h.held hK (λk d=>?_) (λk d=>?_) (l.apt dC)) u v
  .obtain⟨_,c,j⟩:=qH2 h.held.li k (by simp[d]);exact l.not j dC
  .obtain⟨_,c,j⟩:=qH2 h.held.wa k (by simp[d]);exact l.not j dC
 .rw[qF4,f,z];exact wN _ _ _ _
 .rw[f];rcases m with⟨a,b⟩|m
  .exact .inl ⟨a,b,rfl⟩
  .exact .inr m
 .rcases qD1.1 d with d|d|d|d|d|⟨y,s,d⟩
  .rw[n,A,B] at d;exact .inl (qD1.2 (.inl d))
  .rw[z] at d;cases d
  .rw[u] at d;exact .inl (qD1.2 (.inr (.inr (.inl d))))
  .rw[v] at d;exact .inl (qD1.2 (.inr (.inr (.inr (.inl d)))))
  .exact .inr (F k d)
  .rw[f] at s;cases s
theorem DOk.shut(h:DOk base T w g)(hK:Kp [g.B,g.A,g.C] w w')(l:w'.heap[g.B]?=some (kob g.k.shut))(m:Dvl g.A g.n g.C g.l g.wr w'):DOk base (T+2) w' (TG.bare g.B g.C g.k.shut g.l g.wr g.N g.q g.hs):=by
 obtain⟨cA,j⟩:=h.dev.hA;have b:∀ i c t a,w.heap[i]?=some (.cells c t a)->i∈[g.B,g.A,g.C]->t≠126/\t≠284:=λi c t a e hi=>by
  simp only[mC,lN,or_false] at hi;rcases hi with rfl|rfl|rfl
  .rw[h.hB] at e;cases e;decide
  .rw[j] at e;cases e;decide
  .rw[h.dev.hC] at e;cases e;decide
 obtain⟨pw,o,cw,d,f,p⟩:=h.were;have s:=h.N1;have v:=h.wr1;have u:=h.com1;exact⟨h.bB,h.bA,h.bC,l,h.n1,h.wl,h.em,rfl,m,h.len,h.lies,h.N0,by show g.N<=T+2;omega,h.wr0,by show g.wr<=20003*(T+2);omega,h.may.kp hK b,⟨pw,o,cw,d,f.kp hK λk c t a e n=>(b k c t a e n).1,oM⟩,λr e=>by have:=h.qlen r e;omega,h.com0,by show g.k.com<=T+2;omega⟩
theorem jO4(h:TOk base T w g)(t:0<=T)(V:T<=40000)(X:0<base)(Y:base<=w.heap.size)(F:w.cell? ⟨0,0,none⟩=some qE9):CSt base T w g 80 #[.pointer (some ⟨g.B,0,none⟩)]:=by
 have a:=h.d;obtain⟨cA,D⟩:=a.dev.hA;obtain⟨pw,x,cw,z,A,Q⟩:=a.were;have O:=a.bB;have N:=a.bA;have P:=a.bC;have U:=a.N1;have L:=a.wr0;have ab:=a.wr1;obtain⟨i,m,f,I,G,H⟩:∃ i m f,g.k.may=.slice i m f/\RowM w base (.slice i m f) m/\m<=100000:=by
  have k:=a.may
  cases hqq:g.q with
  | none=>
   rw[hqq] at k;obtain⟨i,f,e,J⟩:=k;exact⟨i,0,f,e,J,oM⟩
  | some r=>
   rw[hqq] at k;obtain⟨R,M,e,B,C⟩:=k;exact⟨_,1,1,e,⟨[M],λu K=>by rw[mS K];obtain⟨p,c,e⟩:=C.form;exact⟨p,_,c,e⟩,B⟩,oM⟩
 refine (jP1 g.B g.A g.n g.C (.slice none 0 0) cA g.wr g.k g.l (λl w1=>(l=none/\∃ b,Dvl g.A g.n g.C b (g.wr+2) w1/\b.length=g.l.length/\qS5 g.n b (g.N+2) (some .none))\/(l=some 10/\Dvl g.A g.n g.C g.l g.wr w1)) w a.hB rfl rfl D a.dev.hC F oM base m f x cw i pw I z G A H oM (λW hK=>?_)).mono ?_
 .refine (jP0 (a.dev.kp hK (by simpa using a.ne.1) (by simpa using a.ne.2)) (Nat.le_of_eq a.len.symm) a.lies a.N0 oM).mono ?_;rintro e w1 ⟨v,l,rfl,hv,hK1,⟨rfl,hf,b,d,n,o⟩|⟨rfl,hf,d⟩⟩
  .rw[zA7 L oM,zA7 oM oM,show g.wr+1+1=g.wr+2 by omega] at d;exact⟨v,none,rfl,hv,.inl ⟨rfl,b,d,n,o⟩,hK1,.inl ⟨rfl,hf⟩⟩
  .exact⟨v,some 10,rfl,hv,.inr ⟨rfl,d⟩,hK1,.inr ⟨rfl,hf⟩⟩
 .rintro e w' ⟨rfl,l,w1,hR,hK1,⟨rfl,hK2,hB'⟩|⟨rfl,hK2,gm,gw,cw',hB',hmay,hwere⟩⟩
  .rcases hR with⟨s,_⟩|⟨_,E⟩
   .cases s
   have j:=hK1.tr hK2;exact⟨rfl,h.anew (g':=TG.bare g.B g.C g.k.shut g.l g.wr g.N g.q g.hs) t j ⟨rfl,rfl,rfl,rfl,rfl⟩ ⟨rfl,rfl,rfl⟩ (by simp[TG.bare,qJ6]) (a.shut j hB' (E.kp hK2 sM sM)) (.inl ⟨rfl,rfl⟩)⟩
  .rcases hR with⟨_,b,d,n,o⟩|⟨s,_⟩
   rotate_left
   .cases s
   have j:=hK1.trans hK2 (by simp +contextual);have aa:=hK1.size;have Z:=a.com1;refine⟨rfl,h.anew (g':=TG.bare g.B g.C { g.k.shut.only gm gw x cw' with wild:=false,bit:=false } b (g.wr+2) (g.N+2) (some .none) g.hs) t j ⟨rfl,rfl,rfl,rfl,rfl⟩ ⟨rfl,rfl,rfl⟩ (by simp[TG.bare,qJ6]) ?_ (.inl ⟨rfl,rfl⟩)⟩;have S:=a.N0;exact⟨a.bB,a.bA,a.bC,hB',a.n1,rfl,rfl,rfl,d.kp hK2 (by simpa using a.ne.1) (by simpa using a.ne.2),n.trans a.len,λ_ _=>o,by show 0<=g.N+2;omega,by show g.N+2<=T+2;omega,by show 0<=g.wr+2;omega,by show g.wr+2<=20003*(T+2);omega,⟨gm,_,rfl,qK4 hmay oM,SPR.nil _⟩,⟨_,_,_,rfl,hwere.le oM,oM⟩,λr e=>by cases e;show ((0:Nat):Int)<=T+2;omega,a.com0,by show g.k.com<=T+2;omega⟩
theorem kF3(h:TOk base T w g)(b:0<=T)(A:T<=40000)(B:0<base)(C:base<=w.heap.size)(m:w.cell? ⟨0,0,none⟩=some qE9):CSt base T w g 81 #[.pointer (some ⟨g.B,0,none⟩)]:=by
 have a:=h.d;obtain⟨pw,d,cw,f,j,u⟩:=a.were;have s:=a.bB;have p:=a.bA;have t:=a.bC;refine (kF2 g.B g.A g.n g.C g.k g.l g.wr g.N g.q w a.hB rfl rfl a.wl a.em a.dev (Nat.le_of_eq a.len.symm) a.lies a.N0 m oM base d cw pw f a.may j oM).mono ?_;rintro e w' ⟨rfl,⟨hB',hdv,hK⟩|⟨r,V,M,St,db,rb,rs,w2,hq,l1,l2,l3,l4,hK1,hK2,s',D',v,gm,gw,cw',hsh,hz,hno,hs',hv,hB',hmay,hwere⟩⟩
 .exact⟨rfl,h.anew (g':=TG.bare g.B g.C g.k.shut g.l g.wr g.N g.q g.hs) b hK ⟨rfl,rfl,rfl,rfl,rfl⟩ ⟨rfl,rfl,rfl⟩ (by simp[TG.bare,qJ6]) (a.shut hK hB' hdv) (.inl ⟨rfl,rfl⟩)⟩
 .have l:=hK1.trans hK2 (by intro i n D;simp at n |-;omega);have F:=hK1.size;have z:=a.N1;have G:=a.wr1;have E:=a.qlen r hq;subst hs';refine⟨rfl,h.anew (g':=⟨g.B,g.C,{ g.k.shut.only gm gw d cw' with c:=v,com:=0,x:=some ⟨db,0,none⟩ },g.l,g.wr,g.N,some r,some ⟨db,St,1,_,D'⟩,[],g.hs⟩) b l ⟨rfl,rfl,rfl,rfl,rfl⟩ ⟨rfl,rfl,rfl⟩ (by simp only[qJ6,mC,lN,or_false];rintro k (rfl | rfl);exact l3;exact l2) ?_ (.inr ⟨_,r,rfl,rfl,rfl,rfl,hv,by show base<=St;omega,by show base<=M;omega,hsh,by show (0:Int)+1<=T+2;omega,by show ((1:Nat):Int)<=T+2;omega,Books.none hz hno rfl,λy o=>by cases o⟩)⟩;exact⟨a.bB,a.bA,a.bC,hB',a.n1,a.wl,rfl,rfl,⟨hsh.dev.hA,hsh.dev.hC⟩,a.len,by have:=a.lies;rw[hq] at this;exact this,a.N0,by show g.N<=T+2;omega,a.wr0,by show g.wr<=20003*(T+2);omega,⟨gm,v,rfl,qK4 hmay oM,hv⟩,⟨_,_,_,rfl,hwere.le oM,oM⟩,λH e=>by cases e;omega,iR _,by show (0:Int)<=T+2;omega⟩
theorem look_ok(h:TOk base T w g)(c:0<=T)(b:T<=50000):Calls prog 84 #[.pointer (some ⟨g.B,0,none⟩)] w λe w'=>e=.returned (.bool true)/\Kp [] w w':=
 jZ1 g.B base g.k g.hs w h.d.hB h.held (by have:=h.hlen;omega) (λx a=>by have:=h.hps x a;omega)
end
theorem zG4:(⟨#[]⟩:ByteArray).toList.isEmpty=true:=by
 rw[ByteArray.toList_eq];rfl
theorem xO5{a:Type}(f:CG->a){l:List CG}{i:Nat}(k:i<l.length){c:CG}(h:f c=f l[i]):(l.set i c).map f=l.map f:=by
 rw[List.map_set,h];exact List.ext_getElem sM (λj b d=>by
  rw[List.getElem_set];split
  .rename_i e;subst e;simp
  .rfl)
theorem kE3{o:Option KV}{ps:List KV}(b:∀ p∈ps,qC6 p)(a:∀ p,o=some p->p∈ps):o.isSome=!(pkv o).k.toList.isEmpty:=by
 cases o with
 | none=>simp only[pkv,Option.isSome_none,zG4];rfl
 | some p=>simp only[pkv,Option.isSome_some,xE3 (b p (a p rfl)).1];rfl
section
variable {base i:Nat} {T:Int} {w w':World} {q:SG} {y:YG} {g:TG} {r:Root}
theorem YOk.cursors(h:At base T w g q r i y){L}(hK:Kp L w w')(j:Apt w L ([284,99]++qF5)){v}{cs:List CG}(hT:w'.heap[y.tb]?=some (tob { y.f with cs:=v }))(crow:w'.ownsRow base 203 1 v (cs.map CG.cb).length (qJ3 (cs.map CG.cb)))(clen:(cs.length:Int)<=T+2)(curs:∀ c∈cs,COk base w' { y with f:={ y.f with cs:=v },cs:=cs } c)(cbs:(cs.map CG.cb).Nodup)(Cbs:(cs.map CG.Cb).Nodup):YOk base (T+2) w' g.n g.k.com h.S.sh.E g.l q { y with f:={ y.f with cs:=v },cs:=cs }:=
 have a:=h.yy
 { bT:=a.bT,bX:=a.bX,hT:=hT,hx:=hK.heap a.hx (λb=>j _ b _ _ _ a.hx sM),st:=a.st,sp:=a.sp.keep hK (λk hk c t fr e b=>j k hk c t fr e (by simp at b;simp[b])),m0:=a.m0,m1:=by have:=a.m1;show y.f.most<=T+2;omega,c0:=a.c0,c1:=by have:=a.c1;show y.f.chg<=T+2;omega,cm:=a.cm,wr:=a.wr,dn:=a.dn,ch0:=a.ch0,ch1:=by have:=a.ch1;show y.t.ch<=T+2;omega,stp:=a.stp,crow:=crow,clen:=clen,curs:=curs,cbs:=cbs,Cbs:=Cbs,live:=λd=>{ on:=(a.live d).on,rr:=(a.live d).rr.keepT hK (λk hk c t fr e b=>j k hk c t fr e (by simp[b])),good:=(a.live d).good,cont:=(a.live d).cont,wrt:=(a.live d).wrt,red:=(a.live d).red } }
theorem At.pointed(h:At base T w g q r i y)
  (H:zV0 y.f y.tb base (qJ9 y) (λn w1=>w.heap.size<=n/\w1.heap[n]?=some (qD3 y.f.x ⟨#[]⟩ 0)/\Qt g q w1) [q.St,g.A] w w'):DStep qF2 base (T+2) w w' g:=by
 obtain⟨w1,n,cb,v',L,⟨hCb,hC1,hS1⟩,hK1,hcb,hc',hT',hrow,hK2,hL,hv⟩:=H;have j:=h.yy;have O:=hK1.size;have M:=h.hbs;obtain⟨cA,B⟩:=h.hA;have s:MutC base [169,114,197,203] w (q.St::g.A::L):=λk d=>by
  rcases List.mem_cons.1 d with rfl|d
  .exact⟨h.S.bSt,_,_,_,h.S.sh.hSt,dC⟩
  rcases List.mem_cons.1 d with rfl|d
  .exact⟨h.ok.d.bA,_,_,_,B,dC⟩
  .rcases hL k d with rfl|d
   .exact⟨j.bT,_,_,_,j.hT,dC⟩
   .obtain⟨F,c,u⟩:=qH2 j.crow k (by simp[d]);exact⟨F,_,_,_,u,dC⟩
 have I:∀ k∈L,k<w.heap.size:=λk d=>s.muts.lt (mM _ (mM _ d));have v:Kp (q.St::g.A::L) w w':=(hK1.mono (λk d _=>by simp at d |-;rcases d with h | h<;>simp[h])).trans hK2 (λk d _=>mM _ (mM _ d));have p:∀ {k:Nat} {c:Array Value} {t:TypeId} {A:Nat × Nat},Ϙ w k (.cells c t A)->t≠197->t≠203->k ∉ L:=λ{k _ _ _} d t1 t2 m=>by
  rcases hL _ m with e|e
  .exact ω d j.hT t1 e
  .obtain⟨_,c,u⟩:=qH2 j.crow k (by simp[e]);exact ω d u t2 rfl
 have K:=h.S.sh.quiet j.hx (hK1.mono (by simp +contextual)) hS1.2 hS1.1;have J:=Sh.kp K hK2 (by
  have o:=h.S.sh;simp only[mC,lN,or_false];rintro k (rfl|rfl|rfl|rfl|rfl|rfl)
  .exact p o.hDb dC dC
  .exact p o.hSt dC dC
  .intro m;obtain⟨_,c,t,A,E,_⟩:=s _ (mM _ (mM _ m));exact qC5 E o.hM rfl
  .exact p o.dev.hV dC dC
  .exact p B dC dC
  .exact p o.dev.hC dC dC)
 have G:=hK2.heap hC1 (λm=>by have:=I _ m;omega);have N:=j.clen;refine h.step (q':=q) (y':={ y with f:={ y.f with cs:=v' },cs:=y.cs++[⟨cb,n,⟨#[]⟩,0⟩] }) v (λk d=>?_) rfl (λk d=>?_) J ⟨rfl,rfl,rfl,rfl⟩ ⟨rfl,rfl,rfl,rfl,rfl⟩ (by rw[zH5 kOf h.hi (by rw[h.hy];rfl)];exact h.S.bk) (λ_ _ _ _ _ _=>rfl) (YOk.cursors h v (s.muts.apt dC) hT' ?_ ?_ (λc l=>?_) ?_ ?_)
 .simp only[mC] at d;rcases d with e|e|d
  .exact .inl (by simp[e])
  .exact .inl (by simp[e])
  .rcases hL k d with e|e
   .exact .inr (qF9.2 (.inl e))
   .exact .inr (qF9.2 (.inr (.inr (.inl e))))
 .rcases qF9.1 d with e|e|e|e|e
  .exact .inl (qF9.2 (.inl e))
  .exact .inl (qF9.2 (.inr (.inl e)))
  .rcases hv k e with e|e
   .exact .inl (qF9.2 (.inr (.inr (.inl e))))
   .exact .inr oM
  .simp only[qJ9,List.map_append,List.mem_append] at e;rcases e with e|e
   .exact .inl (qF9.2 (.inr (.inr (.inr (.inl e)))))
   .simp at e;exact .inr oM
  .simp only[qS4,List.map_append,List.mem_append] at e;rcases e with e|e
   .exact .inl (qF9.2 (.inr (.inr (.inr (.inr e)))))
   .simp at e;exact .inr oM
 .rw[List.map_append,lA];exact hrow
 .rw[lA];simp only[lC,List.length_nil];omega
 .rcases mA l with l|l
  .have C:Apt w (q.St::g.A::L) [282,80]:=s.muts.apt dC;have d:=(j.curs c l).kp v (λm=>C _ m _ _ _ (j.curs c l).hc dC) (λm=>C _ m _ _ _ (j.curs c l).hC dC);exact⟨d.bc,d.bC,d.hc,d.hC,d.s0,d.s1,d.at_⟩
  .rw[mS l];refine⟨by show base<=cb;omega,by show base<=n;omega,?_,G,iR _,j.ch0,λD=>?_⟩
   .show Ϙ w' cb (qM5 n ⟨#[]⟩ (!(⟨#[]⟩:ByteArray).toList.isEmpty) 0);rw[zG4];exact hc'
   .simp only[zG4] at D;cases D
 .rw[List.map_append,List.nodup_append];refine⟨j.cbs,sM,λa x b z e=>?_⟩;obtain⟨c,l,rfl⟩:=List.mem_map.1 x;have:=ζ (j.curs c l).hc;simp at z;omega
 .rw[List.map_append,List.nodup_append];refine⟨j.Cbs,sM,λa x b z e=>?_⟩;obtain⟨c,l,rfl⟩:=List.mem_map.1 x;have:=ζ (j.curs c l).hC;simp at z;omega
theorem kI6(h:At base T w g q r i y):CSt base T w g 136 #[.pointer (some ⟨g.B,0,none⟩),.pointer (some ⟨y.tb,0,none⟩)]:=by
 have f:=h.yy;have o:=h.T1;obtain⟨cA,m⟩:=h.hA;have n:ProgS w [q.St,g.A]:=h.progs (by simp +contextual)
 cases ho:y.t.over with
 | true=>
  refine (kI2 g.B y.tb g.A g.n g.C (.slice none 0 0) cA g.wr g.k y.f y.ps [q.St,g.A] (Qt g q) w (h.look m) n (by rw[f.dn,ho]) ((kO6 y.f.x y.t q.s w f.hx ho h.hStt h.S.sh.po h.xS).mono ?_)).mono λe w' ⟨a,w1,b,c,d⟩=>⟨a,h.quiet b c d⟩;rintro e w' ⟨v,a,b,c,d⟩;obtain⟨k,l⟩:=h.over c d;exact⟨v,a,b,k,l⟩
 | false=>
  refine (kI3 g.B y.tb g.A g.n g.C (.slice none 0 0) cA g.wr g.k y.f y.ps base (qJ9 y) [q.St,g.A] (λj w1=>w.heap.size<=j/\Ϙ w1 j (qD3 y.f.x ⟨#[]⟩ 0)/\Qt g q w1) w (h.look m) n (by rw[f.dn,ho]) f.crow (by have:=f.clen;simp[qJ9];omega) h.hbs ((kO5 h.S.sh.E y.f.x g.A g.n y.t q.s y.r w (h.live ho)).mono ?_)).mono λe w' ⟨a,b⟩=>⟨a,h.pointed b⟩;rintro e w' ⟨j,rfl,a,b,c⟩;obtain⟨k,l⟩:=h.bad c;exact⟨j,rfl,⟨a,b,k⟩,l⟩
theorem At.moved(h:At base T w g q r i y)(ho:y.t.over=false)(j:Nat)(m:j<y.cs.length)(o:Option KV)(L:∀ p,o=some p->p∈y.ps)
  (Y:zU8 y.cs[j].cb y.cs[j].Cb (pkv o).k o.isSome y.f.stp (λw1=>Qt g q w1/\w1.heap[y.cs[j].Cb]?=some (qD3 y.f.x (pkv o).k y.t.ch)) [q.St,g.A,y.cs[j].Cb] w w'):DStep qF2 base (T+2) w w' g:=by
 obtain⟨W,w1,N,hK0,⟨hS1,hC1⟩,hK1,hN,hc',hK2⟩:=Y;have b:=h.yy;have J:=b.live ho;obtain⟨ac,K⟩:=zH1 J.good;rw[J.cont] at ac K;obtain⟨cA,A⟩:=h.hA;have l:=b.curs _ (gM m);have V:=ω l.hC l.hc dC;have U:y.cs[j].Cb≠N:=λe=>by have:=ζ l.hC;omega
 have E:MutC base [169,114,282,80] w [q.St,g.A,y.cs[j].Cb,y.cs[j].cb]:=λk a=>by
  simp only[mC,lN,or_false] at a;rcases a with rfl|rfl|rfl|rfl
  .exact⟨h.S.bSt,_,_,_,h.S.sh.hSt,dC⟩
  .exact⟨h.ok.d.bA,_,_,_,A,dC⟩
  .exact⟨l.bC,_,_,_,l.hC,dC⟩
  .exact⟨l.bc,_,_,_,l.hc,dC⟩
 have n:Kp [q.St,g.A,y.cs[j].Cb,y.cs[j].cb] w w':=((hK0.mono sM).trans hK1 (λk a _=>by simp at a |-;rcases a with e | e | e<;>simp[e])).trans hK2 (λk a hl=>by
  simp at a;rcases a with e|e
  .omega
  .simp[e])
 have S:=hK2.heap hC1 (by simp;exact⟨U,V⟩);have ab:Sh w' q.Db q.St g.A g.C g.n q.nM q.s q.D g.l g.wr r:=by
  have d:=h.S.sh;have B:∀ {k:Nat} {o:Obj},Ϙ w k o->k≠N:=λa e=>by have:=ζ a;omega
  have C:∀ {k:Nat} {c:Array Value} {t:TypeId} {z:Nat × Nat},Ϙ w k (.cells c t z)->t≠282->k ∉ [N,y.cs[j].cb]:=λa t1=>by simp only[mC,lN,or_false,not_or];exact⟨B a,ω a l.hc t1⟩
  obtain⟨es,mc,hM⟩:=RM.obj d.hM;have aa:∀ {k:Nat} {c:Array Value} {t:TypeId} {z:Nat × Nat},Ϙ w k (.cells c t z)->t ∉ [169,114,282,80]->k ∉ [q.St,g.A,y.cs[j].Cb,y.cs[j].cb]:=λa ht=>E.muts.not a ht;refine d.turn n (aa d.hDb dC) ?_ ⟨rfl,rfl,rfl,rfl,rfl,rfl⟩ (hK2.heap hS1.1 (C d.hSt dC)) (d.hM.kp n λv=>?_) d.m4 d.n1 d.bg0 d.kb d.rd
  .obtain⟨P,R⟩:=hS1.2.hA;exact⟨hK2.heap hS1.2.hV (C d.dev.hV dC),⟨P,hK2.heap R (C A dC)⟩,hK2.heap hS1.2.hC (C d.dev.hC dC)⟩
  .obtain⟨_,c,t,z,O,_⟩:=E _ v;exact qC5 O d.hM rfl
 have F:∀ Ts:List TypeId,(∀ t∈Ts,t ∉ [169,114,282,80])->Apt w [q.St,g.A,y.cs[j].Cb,y.cs[j].cb] Ts:=λTs hT=>E.muts.apt hT;have D:(y.cs.set j ⟨y.cs[j].cb,y.cs[j].Cb,(pkv o).k,y.t.ch⟩).map CG.cb=qJ9 y:=xO5 CG.cb m rfl;have H:(y.cs.set j ⟨y.cs[j].cb,y.cs[j].Cb,(pkv o).k,y.t.ch⟩).map CG.Cb=qS4 y:=xO5 CG.Cb m rfl;have X:∀ k (a:k<y.cs.length),j≠k->y.cs[k].cb≠y.cs[j].cb/\y.cs[k].Cb≠y.cs[j].Cb:=λk a G=>by
  have x:=pG b.cbs;have n2:=pG b.Cbs;simp only[qJ9,qS4,List.length_map,List.getElem_map] at x n2;rcases Nat.lt_or_gt_of_ne G with B|I
  .exact⟨λe=>x j k m a B e.symm,λe=>n2 j k m a B e.symm⟩
  .exact⟨x k j a m I,n2 k j a m I⟩
 refine h.step (q':=q) (y':={ y with f:={ y.f with cs:=y.f.cs },cs:=y.cs.set j ⟨y.cs[j].cb,y.cs[j].Cb,(pkv o).k,y.t.ch⟩ }) n (λk a=>?_) rfl (λk a=>?_) ab ⟨rfl,rfl,rfl,rfl⟩ ⟨rfl,rfl,rfl,rfl,rfl⟩ (by rw[zH5 kOf h.hi (by rw[h.hy];rfl)];exact h.S.bk) (λ_ _ _ _ _ _=>rfl) (YOk.cursors h n (F _ dC) (n.heap b.hT (λv=>F [197] dC _ v _ _ _ b.hT dC)) ?_ ?_ (λc hc=>?_) ?_ ?_)
 .simp only[mC,lN,or_false] at a;rcases a with e|e|e|e
  .exact .inl (by simp[e])
  .exact .inl (by simp[e])
  .exact .inr (qF9.2 (.inr (.inr (.inr (.inr (List.mem_map.2 ⟨_,gM m,e.symm⟩))))))
  .exact .inr (qF9.2 (.inr (.inr (.inr (.inl (List.mem_map.2 ⟨_,gM m,e.symm⟩))))))
 .rcases qF9.1 a with e|e|e|e|e
  .exact .inl (qF9.2 (.inl e))
  .exact .inl (qF9.2 (.inr (.inl e)))
  .exact .inl (qF9.2 (.inr (.inr (.inl e))))
  .rw[qJ9,D] at e;exact .inl (qF9.2 (.inr (.inr (.inr (.inl e)))))
  .rw[qS4,H] at e;exact .inl (qF9.2 (.inr (.inr (.inr (.inr e)))))
 .rw[D];refine qR0 b.crow n (λk a v=>?_);obtain⟨_,c,Q⟩:=qH2 b.crow k (by simp[a]);exact F [203] dC _ v _ _ _ Q dC
 .have ad:=b.clen;rw[List.length_set];omega
 .obtain⟨k,a,rfl⟩:=gO hc;simp only[List.length_set] at a;rw[List.getElem_set];split
  .refine⟨l.bc,l.bC,?_,S,b.ch0,iR _,λM _ _=>?_⟩
   .show w'.heap[y.cs[j].cb]?=some (qM5 y.cs[j].Cb (pkv o).k (!(pkv o).k.toList.isEmpty) y.t.ch);rw[<-kE3 K L,<-b.stp];exact hc'
   .cases o with
    | none=>
     simp only[pkv,zG4] at M;cases M
    | some p=>
     obtain⟨k',Z,e⟩:=gO (L p rfl);exact⟨k',Z,by rw[e];rfl⟩
  .rename_i G;have s:=b.curs _ (gM a);obtain⟨x,n2⟩:=X k a G;have u:=s.kp n (by
    simp only[mC,lN,or_false,not_or];exact⟨ω s.hc h.S.sh.hSt dC,ω s.hc A dC,ω s.hc l.hC dC,x⟩) (by
    simp only[mC,lN,or_false,not_or];exact⟨ω s.hC h.S.sh.hSt dC,ω s.hC A dC,n2,ω s.hC l.hc dC⟩)
   exact⟨u.bc,u.bC,u.hc,u.hC,u.s0,u.s1,u.at_⟩
 .rw[D];exact b.cbs
 .rw[H];exact b.Cbs
theorem At.stay(h:At base T w g q r i y)(p:zU9 (Qt g q) [q.St,g.A] w w'):DStep qF2 base (T+2) w w' g:=by
 obtain⟨W,w1,N,l,c,m,s,a⟩:=p;obtain⟨cA,f⟩:=h.hA;have n:=((l.mono sM).trans m (λk b _=>b)).trans a (λk b hl=>by simp at b;omega);have d:∀ {k:Nat} {o:Obj},Ϙ w k o->k ∉ [N]:=λb hm=>by have:=ζ b;simp at hm;omega
 obtain⟨e,j⟩:=c.2.hA;exact h.quiet (w1:=w') ⟨a.heap c.1 (d h.S.sh.hSt),a.heap c.2.hV (d h.S.sh.dev.hV),⟨e,a.heap j (d f)⟩,a.heap c.2.hC (d h.S.sh.dev.hC)⟩ n kF
end
theorem jR9{l}{a:Int}{p}(h:qM3 l a=some p):p∈l:=by
 unfold qM3 at h;split at h
 .cases h
 .exact mO h
section
variable {base i:Nat} {T:Int} {w w':World} {q:SG} {y:YG} {g:TG} {r:Root}
theorem At.progC(h:At base T w g q r i y){c:CG}(d:c∈y.cs):ProgS w [q.St,g.A,c.Cb]:=λk b=>by
 have j:=h.hb;have a:=h.yy.curs c d;simp only[mC,lN,or_false] at b;rcases b with rfl|rfl|rfl
 .exact h.prog _ sM
 .exact h.prog _ sM
 .exact⟨by have:=a.bC;omega,λc t f e=>by rw[a.hC] at e;cases e;decide⟩
end
section
variable {base i:Nat} {T:Int} {w:World} {q:SG} {y:YG} {g:TG} {r:Root}
theorem At.cur(h:At base T w g q r i y){W w'}{b:Nat}{k}(a:CurT h.S.sh.E W w' b y.f.x y.t q.s k):(Qt g q w'/\w'.heap[b]?=some (qD3 y.f.x k y.t.ch))/\Kp [q.St,g.A,b] W w':=by
 have c:=a.hSt;have d:=a.kp;rw[h.yy.st] at c d;exact⟨⟨⟨c,a.dev⟩,a.hC⟩,d.mono (λk f _=>by simp only[mC,lN,or_false] at f |-;rcases f with e | e | e;exact .inl e;exact .inr (.inr e);exact .inr (.inl (by simpa [Sh.E,EL] using e)))⟩
theorem kC1{l}(d:Sorted l){key sk}{a:Nat}(e:Hw a)(c:3<=a->∃ j,∃ h:j<l.length,l[j].k=key):mvO l key sk a=qM3 l (qW1 l key sk a):=by
 rcases e with rfl|rfl|rfl|rfl|rfl
 .exact jN2 l
 .exact jX0 l
 .exact kM4 l sk
 .obtain⟨j,b,rfl⟩:=c dC;exact kC9 d b
 .obtain⟨j,b,rfl⟩:=c dC;exact kI5 d b
theorem kC3(h:At base T w g q r i y)(j:Nat)(G:j<y.cs.length)(n:Nat)(X:n<5)(key):CSt base T w g 137 #[.pointer (some ⟨g.B,0,none⟩),.pointer (some ⟨y.tb,0,none⟩),.pointer (some ⟨y.cs[j].cb,0,none⟩),.int .i64 (n:Nat),.string key]:=by
 have u:Hw n:=by unfold Hw;omega
 have t:=h.yy;obtain⟨cA,F⟩:=h.hA;have C:ProgS w [q.St,g.A]:=h.progs (by simp +contextual);have x:=t.curs _ (gM G);have M:∀ k∈[q.St,g.A],k<w.heap.size:=λk f=>by
  simp only[mC,lN,or_false] at f;rcases f with rfl|rfl
  .exact ζ h.S.sh.hSt
  .exact ζ F
 have H:∀ k∈[q.St,g.A,y.cs[j].Cb],k<w.heap.size:=λk f=>by
  simp only[mC,lN,or_false] at f;rcases f with rfl|rfl|rfl
  .exact ζ h.S.sh.hSt
  .exact ζ F
  .exact ζ x.hC
 have A:qR3 n (n:Nat):=by
  rcases u with rfl|rfl|rfl|rfl|rfl
  .exact kA6
  .exact kA7
  .exact kA8
  .exact kA9
  .exact kB0
 have K:=h.look F;have A:=λJ o S R (C:ProgS w S) H=>A g.B y.tb y.cs[j].cb y.cs[j].Cb g.A g.n g.C (.slice none 0 0) cA g.wr g.k y.f y.ps y.cs[j].key (!y.cs[j].key.toList.isEmpty) y.cs[j].since key J o S R w _ K C H x.hc rfl (kB6 u (lT K.sz dC))
 cases ho:y.t.over with
 | true=>
  refine (A (some 5) none [q.St,g.A] (Qt g q) C M (.inl ⟨rfl,by rw[t.dn,ho],rfl⟩) (λW l=>?_)).mono λe B ⟨a,.same b⟩=>⟨a,h.stay b⟩;have z:=h.same l;refine (xZ5 u z.yy.hx ho z.hStt z.S.sh.po z.xS (l.hp x.hC)).mono ?_;rintro e B ⟨v,a,b,c,d⟩;obtain⟨D,E⟩:=z.over c d;exact⟨v,a,b,D,E⟩
 | false=>
  have I:=t.live ho;obtain⟨O,N⟩:=zH1 I.good;rw[I.cont] at O N;by_cases m:3<=n/\(y.cs[j].key.toList.isEmpty=true\/y.cs[j].since≠y.t.ch)
  .refine (A (some 11) none [q.St,g.A] (Qt g q) C M (.inr (.inl ⟨rfl,by rw[t.dn,ho],m.1,by rw[t.stp];rcases m.2 with m | m;exact .inl (by rw[m];rfl);exact .inr m,rfl⟩)) (λW l=>?_)).mono λe B ⟨a,.same b⟩=>⟨a,h.stay b⟩;refine (xZ6 u m.1 ((h.same l).live ho) (l.hp x.hC) m.2).mono ?_;rintro e B ⟨v,a,b,c⟩;obtain⟨D,E⟩:=(h.same l).bad c;exact⟨v,a,b,D,E⟩
  .have f:3<=n->y.cs[j].key.toList.isEmpty=false/\y.cs[j].since=y.t.ch:=λs=>by simpa [s,not_or] using m
   have hid:=kC1 (sk:=key) O u (key:=y.cs[j].key) (λs=>by
    obtain⟨V,U,Q⟩:=x.at_ (f s).1 (f s).2 ho;exact⟨V,U,Q⟩)
   refine (A none (mvO y.ps y.cs[j].key key n) [q.St,g.A,y.cs[j].Cb] (λw1=>Qt g q w1/\w1.heap[y.cs[j].Cb]?=some (qD3 y.f.x (pkv (mvO y.ps y.cs[j].key key n)).k y.t.ch)) (h.progC (gM G)) H (.inr (.inr ⟨rfl,by rw[t.dn,ho],λs=>⟨by rw[(f s).1];rfl,by rw[(f s).2,t.stp]⟩,N,hid⟩)) (λW l=>?_)).mono λe B ⟨a,.done b⟩=>⟨a,h.moved ho j G _ (λp hp=>jR9 (hid.symm.trans hp)) b⟩;have L:=xZ4 (sk:=key) u ((h.same l).live ho) (l.hp x.hC) f;rw[I.cont] at L;refine L.mono ?_;rintro e B ⟨rfl,P⟩;obtain⟨a,b⟩:=h.cur P;exact⟨_,rfl,rfl,a,b⟩
end
section
variable {base i:Nat} {T:Int} {w w':World} {q:SG} {y:YG} {g:TG} {r:Root}
theorem At.scanned(h:At base T w g q r i y){n:Nat}(hn:n<=y.ps.length)(d:zV2 g.k g.B base n g.hs [q.St,g.A] (Qt g q) w w'):DStep qF2 base (T+2) w w' g:=by
 obtain⟨w1,w5,l,K,X,A,M,O,P,C,D,L,S,U,ad,ae,hK,J,Z,ab,G,V,I⟩:=d;have N:=h.yy;have af:=N.sz;have d:=h.ok.d;obtain⟨cA,H⟩:=h.hA;have E:∀ k,g.k.li.ownBlock=some k->base<=k/\∃ c,Ϙ w k (.cells c 29):=λk a=>qH2 h.ok.held.li k (by simp[a]);have F:∀ k,g.k.wa.ownBlock=some k->base<=k/\∃ c,Ϙ w k (.cells c 29):=λk a=>qH2 h.ok.held.wa k (by simp[a]);have m:Muts base [169,114,130,29] w L:=λk a=>by
  rcases J k a with a|rfl|a|a
  .simp at a;rcases a with rfl|rfl
   .exact⟨h.S.bSt,_,h.S.sh.hSt,λc t f e=>by cases e;decide⟩
   .exact⟨d.bA,_,H,λc t f e=>by cases e;decide⟩
  .exact⟨d.bB,_,d.hB,λc t f e=>by cases e;decide⟩
  .obtain⟨v,c,b⟩:=E k a;exact⟨v,_,b,λc t f e=>by cases e;decide⟩
  .obtain⟨v,c,b⟩:=F k a;exact⟨v,_,b,λc t f e=>by cases e;decide⟩
 have W:=X.tr A;have aa:=h.S.sh.quiet N.hx (W.mono (by simp +contextual)) (qF8 K.2 A (by intro k a;cases a)) (A.hp K.1);have p:∀ {k:Nat} {c:Array Value} {t:TypeId} {f:Nat × Nat},Ϙ w k (.cells c t f)->t≠130->t≠29->k ∉ G:=λa t1 t2 o=>by
  rcases I _ o with e|e|e|e
  .have:=M _ e;have:=ζ a;omega
  .exact ω a d.hB t1 e
  .obtain⟨_,c,b⟩:=E _ e;exact ω a b t2 rfl
  .obtain⟨_,c,b⟩:=F _ e;exact ω a b t2 rfl
 have Y:q.s.M ∉ G:=λo=>by
  have s:=h.S.sh.hM;rcases I _ o with e|e|e|e
  .have:=M _ e;have:=s.lt;omega
  .exact qC5 d.hB s e.symm
  .obtain⟨_,c,b⟩:=E _ e;exact qC5 b s rfl
  .obtain⟨_,c,b⟩:=F _ e;exact qC5 b s rfl
 have B:=Sh.kp aa V (by
  have u:=h.S.sh;simp only[mC,lN,or_false];rintro k (rfl|rfl|rfl|rfl|rfl|rfl)
  .exact p u.hDb dC dC
  .exact p u.hSt dC dC
  .exact Y
  .exact p u.dev.hV dC dC
  .exact p H dC dC
  .exact p u.dev.hC dC dC)
 have ac:=h.ok.hlen;refine⟨{ g with k:={ g.k with li:=O,wa:=P },hs:=g.hs++[C,D] },L,⟨d.turnK g.k.ts O P g.so g.ys (g.hs++[C,D]) hK oM S ⟨B.dev.hA,B.dev.hC⟩ (m.apt dC),U,by show (((g.hs++[C,D]).length:Nat):Int)<=T+2;simp;omega,λx j=>?_,?_,by have:=h.ok.ylen;show ((g.ys.length:Nat):Int)<=T+2;omega,.inr ⟨q,r,h.e1,h.e2,h.ex,h.eN,h.ec.keep hK (m.apt dC),h.S.hold hK oM B (λz hz k a o=>?_) (m.apt dC)⟩,h.ok.sep⟩,rfl,λk a=>?_,hK,λk a=>?_⟩
 .rcases mA j with j|j
  .have:=h.ok.hps x j;omega
  .simp only[mC,lN,or_false] at j;rcases j with rfl|rfl<;>omega
 .refine qR0 h.ok.row hK (λk a=>?_);obtain⟨_,c,b⟩:=qH2 h.ok.row k (by simp[a]);exact m.not b dC
 .obtain⟨_,c,t,f,Q,R⟩:=(h.S.ys z hz).yMut k a;exact (m.apt (Us:=yTs) dC) k o _ _ _ Q R
 .rcases qD1.1 a with a|a|a|a|a|a
  .exact .inl (qD1.2 (.inl a))
  .exact .inl (qD1.2 (.inr (.inl a)))
  .rcases Z k a with a|a
   .exact .inl (qD1.2 (.inr (.inr (.inl a))))
   .exact .inr a
  .rcases ab k a with a|a
   .exact .inl (qD1.2 (.inr (.inr (.inr (.inl a)))))
   .exact .inr a
  .exact .inl (qD1.2 (.inr (.inr (.inr (.inr (.inl a))))))
  .exact .inl (qD1.2 (.inr (.inr (.inr (.inr (.inr a))))))
 .refine qD1.2 ?_;rcases J k a with a|rfl|a|a
  .simp at a;rcases a with rfl|rfl
   .exact .inr (.inr (.inr (.inr (.inl (by rw[h.e1];simp[qJ6])))))
   .exact .inl (.inr (.inl rfl))
  .exact .inl (.inl rfl)
  .exact .inr (.inr (.inl a))
  .exact .inr (.inr (.inr (.inl a)))
theorem kL6(h:At base T w g q r i y)(lo hi)(f:Int)(o:Gw.I64 f):CSt base T w g 134 #[.pointer (some ⟨g.B,0,none⟩),.pointer (some ⟨y.tb,0,none⟩),.string lo,.string hi,.int .i64 f]:=by
 have j:=h.yy;have p:=h.T1;obtain⟨cA,m⟩:=h.hA;have n:ProgS w [q.St,g.A]:=h.progs (by simp +contextual)
 cases ho:y.t.over with
 | true=>
  refine (kL8 g.B y.tb g.A g.n g.C (.slice none 0 0) cA g.wr g.k y.f y.ps lo hi f (some 5) rfl [q.St,g.A] (Qt g q) w (h.look m) n (by rw[j.dn,ho]) ((kL7 y.f.x y.t q.s lo hi f w j.hx ho h.hStt h.S.sh.po h.xS).mono ?_)).mono λe w' ⟨a,w1,b,c,d⟩=>⟨a,h.quiet b c d⟩;rintro e w' ⟨v,a,b,c,d⟩;obtain⟨k,l⟩:=h.over c d;exact⟨_,v,a,b,k,l,rfl⟩
 | false=>
  refine (kL9 g.B y.tb g.A g.n g.C (.slice none 0 0) cA g.wr g.k y.f y.ps base g.hs lo hi f none rfl [q.St,g.A] (Qt g q) w (h.look m) n (by rw[j.dn,ho]) h.ok.held (by have:=h.ok.hlen;omega) h.hbs ((xO2 h.S.sh.E y.f.x g.A g.n y.t q.s y.r lo hi f w (h.live ho) o.1 o.2).mono ?_)).mono λe w' ⟨a,b⟩=>⟨a,h.scanned (xO1 _ _ _ _) b⟩;rintro e w' ⟨v,rfl,a,b⟩;obtain⟨k,l⟩:=h.bad b;rw[(j.live ho).cont] at a;exact⟨v,_,rfl,rfl,k,l,a⟩
end
def qS2(com:Int):List YG→List (Int × Nat)
 | []=>[]
 | y::ys=>if y.f.dn=false∧y.f.com<com then (y.t.h.b,(y.ps.length+1) / 2)::qS2 com ys else qS2 com ys
theorem xP0(b:Int):∀ a:List YG,((meas Prod.snd (qS2 b a):Nat):Int)<=qG5 b (qH3 a)
 | []=>iR _
 | y::a=>by
  have c:=xP0 b a;simp only[qH3,List.map_cons,qG5] at c |-;rw[qS2];split
  .rw[qC1];simp only;omega
  .omega
theorem zT1{d:Int}{y:YG}(a:y.f.dn=false)(b:y.f.com<d):∀ {c:List YG},y∈c->(y.t.h.b,(y.ps.length+1) / 2)∈qS2 d c
 | z::c,h=>by
  rw[qS2];rcases List.mem_cons.1 h with rfl|h
  .rw[if_pos ⟨a,b⟩];exact List.mem_cons_self
  .split
   .exact mM _ (zT1 a b h)
   .exact zT1 a b h
section
variable {base i:Nat} {T:Int} {w w' w1:World} {q q':SG} {y:YG} {g:TG} {r:Root}
theorem At.reader(h:At base T w g q r i y){m:Int}(l:Maps.has q.D (χ m)=true):∃ j,∃ b:j<g.ys.length,g.ys[j].t.over=false/\g.ys[j].t.wrt=false/\g.ys[j].t.nr=m:=by
 obtain⟨j,k,a,c,d,f⟩:=(h.S.bk.keys m).1 l;have b:j<g.ys.length:=by have:=Gw.zW1 a;simpa using this
 have e:k=kOf g.ys[j]:=by simp[b] at a;exact a.symm
 subst e;exact⟨j,b,c,d,f⟩
theorem At.covers(h:At base T w g q r i y){D}(v:∀ k,Maps.has D k=true->Maps.has q.D k=true/\∀ zd,D.atKey k zd=q.D.atKey k zd):zC0 g.n D g.l ((q.s.rb,(r.cont.length+1) / 2)::qS2 g.k.com g.ys):=λm hh r0 g1 g2 g3 g4 g5=>by
 obtain⟨t,u⟩:=v _ g1;obtain⟨j,c,b,l,rfl⟩:=h.reader t;have f:=h.S.ys _ (gM c);have d:=f.live b;obtain⟨n,o,p,a⟩:=d.red l;have x:=zT5 ((g2 (.lit (.int .i64 0))).symm.trans ((u _).trans (p _))) g3 n;subst x;have e:=qW7 g5;rcases a with a|⟨a,s⟩
 .rw[(Lie.one h.S.sh.N1 g4 o).1,d.cont] at e;exact⟨_,mM _ (zT1 (by rw[f.dn];exact b) a (gM c)),rfl,by simp only;omega⟩
 .rw[a,s] at g4;rw[(Lie.one h.S.sh.N1 g4 h.S.sh.lie).1] at e;exact⟨_,List.mem_cons_self,a.symm,by simp only;omega⟩
theorem At.noroom(h:At base T w g q r i y)(a:RGood y.r)(e:y.r.cont=y.ps)(b:g.n<2+y.r.news+qC9 y.r+qC9 r+meas Prod.snd ((q.s.rb,(r.cont.length+1) / 2)::qS2 g.k.com g.ys)):qR8 g.k r.cont.length y.f.most 0 (qG5 g.k.com (qH3 g.ys))=false:=by
 have c:=qW7 a;have f:=qW7 h.S.sh.good;have d:=qW8 a;have j:=xP0 g.k.com g.ys;have k:=h.yy.m0;rw[e] at c d;rw[qC1] at b;simp only at b;rw[qR8];have:¬(3*(max (max y.f.most 0) ((r.cont.length:Nat):Int))+12+qG5 g.k.com (qH3 g.ys)<=(g.k.n:Int)):=by
  show ¬(_<=(g.n:Int));omega
 rw[decide_eq_false this];rfl
theorem YOk.then{n:Nat}{b a:Int}{E E'}{l l'}(h:YOk base T w n b E l q y)(c:q'.St=q.St)(d:b<=a)(e:y.t.over=false->Lv w n a E' l' q' y):YOk base T w n a E' l' q' y:=
 { h with st:=by rw[c];exact h.st,cm:=Int.le_trans h.cm d,live:=e }
def CmR(g:TG)(q:SG)(y:YG)(r:Root)(ko:Option Int)(w1:World):Prop:=w1.heap[y.f.x]?=some (qA1 y.t.ended)∧
 ((ko=none∧∃ s' l' wr' nt,Sh w1 q.Db q.St g.A g.C g.n q.nM s' (q.D.del (χ y.t.nr)) l' wr' nt∧nt.cont=y.r.cont∧q.s.N≤s'.N∧s'.N≤q.s.N+2∧s'.bg=q.s.bg∧s'.wr=(q.s.left y.t.nr).wr∧s'.V=q.s.V∧s'.M=q.s.M∧l'.length=g.l.length∧zC2 g.n (q.D.del (χ y.t.nr)) g.l l'∧g.wr≤wr'∧wr'≤g.wr+20003)∨
  (ko=some 3∧Sh w1 q.Db q.St g.A g.C g.n q.nM (q.s.left y.t.nr) (q.D.del (χ y.t.nr)) g.l g.wr r))
theorem Books.as{s s'}{D}{ks:List TK}(h:Books s D ks)(a:s'.wr=s.wr)(b:s'.bg=s.bg):Books s' D ks:=
 { h with wrs:=by rw[a];exact h.wrs,wr1:=by rw[a];exact h.wr1,nrs:=by rw[b];exact h.nrs }
theorem At.committed(h:At base T w g q r i y)(K:y.t.over=false)(hw:y.t.wrt=true)(hR:CmR g q y r none w1)(B:Kp [q.St,y.f.x,q.s.M,g.A,g.C] w w1)(G:Kp [y.tb,g.B] w1 w')(ab:w'.heap[y.tb]?=some (tob { y.f with dn:=true })){pw:Option Addr}{v cw A F E:Nat}(ar:(v:Int)<=T)
  (aa:w'.heap[g.B]?=some (kob { g.k with may:=.slice (some ⟨A,0,none⟩) 1 1,emp:=false,were:=.slice (some ⟨F,0,none⟩) (v+1) E,c:=y.f.v,com:=g.k.com+1 })) (ag:w'.ownsRow w1.heap.size 126 1 (.slice (some ⟨A,0,none⟩) 1 1) 1 [y.f.v]) (aj:RowM w' w1.heap.size (.slice (some ⟨F,0,none⟩) (v+1) E) (v+1)):DStep qF2 base (T+2) w w' g:=by
 obtain⟨ak,⟨_,s',l',wr',nt,hsh,a1,a2,a3,a4,a5,a6,a7,a8,a9,a10,a11⟩|⟨h3,_⟩⟩:=hR
 rotate_left
 .cases h3
 have f:=h.yy;have U:=f.live K;have a:=h.ok.d;obtain⟨n1,n2,n3,n4,n5,n6,n7⟩:=h.ne;obtain⟨cA,hA⟩:=h.hA;have p:=B.heap f.hT (by simp[n1,n2,n3,n6];exact ω f.hT h.S.sh.dev.hC dC);have o:=B.heap a.hB (by
  simp only[mC,lN,or_false,not_or];exact⟨ω a.hB h.S.sh.hSt dC,ω a.hB f.hx dC,qC5 a.hB h.S.sh.hM,a.ne.1.symm,a.ne.2.symm⟩)
 have C:Kp [g.B,g.A,g.C,q.St,q.s.M,y.f.x,y.tb] w w':=(B.mono (λk b _=>by simp at b |-;rcases b with h | h | h | h | h<;>simp[h])).trans G (λk b _=>by simp at b |-;rcases b with h | h<;>simp[h]);have R:∀ k∈[g.B,g.A,g.C,q.St,q.s.M,y.f.x,y.tb],k∈[g.B,g.A,g.C,q.St,q.s.M]\/k∈qG9 y:=λk b=>by
  simp only[mC,lN,or_false] at b;rcases b with e|e|e|e|e|e|e
  .exact .inl (by simp[e])
  .exact .inl (by simp[e])
  .exact .inl (by simp[e])
  .exact .inl (by simp[e])
  .exact .inl (by simp[e])
  .exact .inr (qF9.2 (.inr (.inl e)))
  .exact .inr (qF9.2 (.inl e))
 have av:y∈g.ys:=by have:=gM h.hi;rw[h.hy] at this;exact this
 have I:Muts base [130,114,115,169,99,197] w [g.B,g.A,g.C,q.St,q.s.M,y.f.x,y.tb]:=λk b=>by
  simp only[mC,lN,or_false] at b;rcases b with rfl|rfl|rfl|rfl|rfl|rfl|rfl
  .exact⟨a.bB,_,a.hB,λc t n e=>by cases e;decide⟩
  .exact⟨a.bA,_,hA,λc t n e=>by cases e;decide⟩
  .exact⟨a.bC,_,h.S.sh.dev.hC,λc t n e=>by cases e;decide⟩
  .exact⟨h.S.bSt,_,h.S.sh.hSt,λc t n e=>by cases e;decide⟩
  .obtain⟨es,mc,hM⟩:=RM.obj h.S.sh.hM;exact⟨h.S.bM,_,hM,λc t n e=>by cases e⟩
  .exact⟨f.bX,_,f.hx,λc t n e=>by cases e;decide⟩
  .exact⟨f.bT,_,f.hT,λc t n e=>by cases e;decide⟩
 have u:Sh w' q.Db q.St g.A g.C g.n q.nM s' (q.D.del (χ y.t.nr)) l' wr' nt:=by
  obtain⟨c1,O⟩:=hsh.hA;refine Sh.kp hsh G λj d l=>?_;simp only[mC,lN,or_false] at d l;rcases l with rfl|rfl
  .rcases d with e|e|e|e|e|e
   .exact ω p hsh.hDb dC e
   .exact ω p hsh.hSt dC e
   .exact qC5 p hsh.hM e
   .exact ω p hsh.dev.hV dC e
   .exact ω p O dC e
   .exact ω p hsh.dev.hC dC e
  .rcases d with e|e|e|e|e|e
   .exact ω o hsh.hDb dC e
   .exact ω o hsh.hSt dC e
   .exact qC5 o hsh.hM e
   .exact ω o hsh.dev.hV dC e
   .exact ω o O dC e
   .exact ω o hsh.dev.hC dC e
 have ai:=f.sz;have aw:=B.size;have ao:=h.hbs;have X:SPR w' y.f.v nt.cont:=by rw[a1,U.cont];exact f.sp.keep C (I.apt dC)
 have au:((nt.cont.length:Nat):Int)<=T:=by rw[a1,U.cont];exact ai
 have hN:=h.eN;have an:=a.N1;have ax:=a.wr0;have ay:=a.wr1;have ap:=a.com0;have aq:=a.com1;have am:=a.N0;have ac:=h.S.bk.left (World.ownsMap.tidy h.S.sh.hM qM4) h.num.1 K;refine h.ok.txn (g':=⟨g.B,g.C,{ g.k with may:=.slice (some ⟨A,0,none⟩) 1 1,emp:=false,were:=.slice (some ⟨F,0,none⟩) (v+1) E,c:=y.f.v,com:=g.k.com+1 },l',wr',s'.N,some nt,some { q with s:=s',D:=q.D.del (χ y.t.nr) },g.ys.set i ⟨y.tb,{ y.f with dn:=true },y.t.ended,y.r,y.ps,y.cs⟩,g.hs⟩) h.e1 h.S h.hi C (by rw[h.hy];exact R) oM ⟨rfl,rfl,rfl,rfl,rfl,rfl⟩ ⟨rfl,rfl,rfl⟩ (by rw[h.hy]) (λk b=>by rw[h.hy];exact .inl b) ⟨rfl,a7⟩ ?_ ⟨nt,rfl,h.ex,rfl,X,h.S.bSt,by show base<=s'.M;rw[a7];exact h.S.bM,u,by show s'.bg<=T+2;rw[a4];have:=h.S.bg1;omega,by have:=h.S.nM;show ((q.nM:Nat):Int)<=T+2;omega,by rw[List.map_set];exact Books.as ac a5 a4,λz hz=>?_⟩
 .exact { bB:=a.bB,bA:=a.bA,bC:=a.bC,hB:=aa,n1:=a.n1,wl:=a.wl,em:=rfl,po:=a.po,dev:=⟨u.dev.hA,u.dev.hC⟩,len:=a8.trans a.len,lies:=λ_ _=>⟨_,_,u.heads,u.lie,u.good⟩,N0:=by show 0<=s'.N;omega,N1:=by show s'.N<=T+2;omega,wr0:=by show 0<=wr';omega,wr1:=by show wr'<=20003*(T+2);omega,may:=⟨A,y.f.v,rfl,qK4 ag oM,X⟩,were:=⟨_,_,_,rfl,aj.le oM,oM⟩,qlen:=λr' e=>by cases e;omega,com0:=by show 0<=g.k.com+1;omega,com1:=by show g.k.com+1<=T+2;omega }
 .obtain⟨j,d,rfl⟩:=gO hz;simp only[List.length_set] at d;rw[List.getElem_set];split
  .exact h.overY C (I.apt dC) (by show g.k.com<=g.k.com+1;omega) ab (G.heap ak (by simp[n2.symm];exact ω f.hx a.hB dC)) rfl
  .rename_i J;have N:=h.S.ys _ (gM d);have W:=pG h.ok.sep;have ah:=h.S.off a.hB _ (gM d);have al:=N.kp C (show T<=T+2 by omega) (λk b l=>by
    rcases R k l with l|l
    .exact ah k b l
    .rw[<-h.hy] at l;rcases Nat.lt_or_gt_of_ne J with af|ad
     .exact W i j h.hi d af k l b
     .exact W j i d h.hi ad k b l) (I.apt dC)
   refine al.then (q:=q) rfl (by show g.k.com<=g.k.com+1;omega) λL=>?_;have m:=N.live L;have H:(g.ys.map kOf)[j]?=some (kOf g.ys[j]):=by simp[d]
   have M:g.ys[j].t.wrt=false:=by
    cases hb:g.ys[j].t.wrt with
    | false=>rfl
    | true=>
     have e1:=h.S.bk.wrs j _ H L hb;have e2:=h.S.bk.wrs i _ h.num.1 K hw;exact absurd (h.S.bk.dist j i _ _ H h.num.1 (e1.trans e2.symm)) (λe=>J e.symm)
   obtain⟨x,Y,Z,b4⟩:=m.red M;have V:=h.others j d (λe=>J e.symm);have ae:Maps.has (q.D.del (χ y.t.nr)) (χ g.ys[j].t.nr)=true:=by
    rw[Maps.has_del_other V];exact (h.S.bk.keys _).2 ⟨j,_,H,L,M,rfl⟩
   have Q:g.ys[j].t.h=⟨⟨#[]⟩,g.ys[j].t.h.b,g.ys[j].t.h.s,none⟩:=by
    have b:=xN0 m.rr m.good;cases hx:g.ys[j].t.h;rw[hx] at b x;simp only at b x;rw[b,x]
   have P:=λzd=>(Maps.atKey_del_other V zd).trans (Z zd);have S:=a9 _ _ _ _ ae (by rw[<-Q];exact P) Y;exact { on:=by show g.ys[j].t.on=some ⟨s'.V,0,none⟩;rw[a6];exact m.on,rr:=by rw[Q];exact S.rr m.good w',good:=m.good,cont:=m.cont,wrt:=λe=>(by rw[M] at e;cases e),red:=λ_=>⟨x,S,P,.inl (by have:=N.cm;show _<g.k.com+1;omega)⟩ }
theorem jG8(h:At base T w g q r i y)(o:y.t.over=false)(A:y.t.wrt=true):CSt base T w g 135 #[.pointer (some ⟨g.B,0,none⟩),.pointer (some ⟨y.tb,0,none⟩),.bool true]:=by
 have d:=h.yy;have n:=d.live o;have b:=h.ok.d;obtain⟨cA,hA⟩:=h.hA;obtain⟨m1,m2,m3⟩:=h.num;have hT:=h.T1;have aj:=h.S.sh.N4;have al:=b.qlen r h.e2;have Q:=b.wr0;have an:=b.wr1;obtain⟨cb,cc,af⟩:=h.ec.form;obtain⟨pw,kk,cw,f1,f2,f3⟩:=b.were;obtain⟨aa,ai,f4,f5,f6⟩:=(show MayQ base w g.k.may (some r) by have:=b.may;rw[h.e2] at this;exact this);have am:=d.sz;have ah:=qW8 n.good;rw[n.cont] at ah;have ad:∀ k,Maps.has (q.D.del (χ y.t.nr)) k=true->Maps.has q.D k=true/\∀ zd,(q.D.del (χ y.t.nr)).atKey k zd=q.D.atKey k zd:=λk a=>by
  by_cases e:k=χ y.t.nr
  .rw[e,Maps.has_del_same] at a;cases a
  .rw[Maps.has_del_other e] at a;exact⟨a,λzd=>Maps.atKey_del_other e zd⟩
 refine (jK5 g.B y.tb g.A g.n g.C (.slice none 0 0) cA g.wr g.k y.f (qF4 g) (qH3 g.ys) y.ps [q.St,y.f.x,q.s.M,g.A,g.C] (CmR g q y r) w (h.chg hA _ _) (h.progs (by simp +contextual)) (by rw[d.dn,o]) (by rw[d.wr,A]) b.wl Q oM b.com0 (by have:=b.com1;omega) h.tfs (by have:=h.ok.ylen;simp[qF4];omega) (λx hx=>by
  obtain⟨z,hz,rfl⟩:=List.mem_map.1 hx;have:=(h.S.ys z hz).sz;simp only;omega) cb r.cont.length cc af oM (by show g.n<=100000;omega) base 1 1 kk cw (some ⟨aa,0,none⟩) pw f4 f1 ⟨[ai],λu hu=>by rw[mS hu];obtain⟨p,c,e⟩:=f6.form;exact⟨p,_,c,e⟩,f5⟩ f2 oM oM ?_).mono ?_
 .refine (h.S.sh.commits (h.live o) d.st A oM m3 (by have:=b.N1;rw[h.eN];omega)).mono ?_;rintro e w1 ⟨v,ko,rfl,P,C,l,hc⟩;have N:∀ {E:List UInt8} {f:Int} {I:Sto} {H:Root},E.length=g.l.length->Sh w1 q.Db q.St g.A g.C g.n q.nM I (q.D.del (χ y.t.nr)) E f H->∃ c,Ϙ w1 g.A (qG6 g.n g.C (.slice none 0 0) c f):=λhl hs=>by
   obtain⟨c,K⟩:=hs.hA;rw[hl,b.len,Nat.mul_div_cancel _ dC] at K;exact⟨c,K⟩
  rcases hc with⟨rfl,I,E,f,H,m,F,S,U,V,W,X,Y,J,Z,R⟩|⟨rfl,m,F⟩
  .obtain⟨c,G⟩:=N J m;obtain⟨⟨k0,ae,O⟩,_⟩:=n.wrt A;have B:g.wr<=f/\f<=g.wr+20003/\f-g.wr<=12*y.f.chg+2:=by
    rcases R with rfl|⟨rfl,ak⟩
    .have:=d.c0;omega
    .unfold qL9 at O;rw[if_neg oM] at O;rw[zA7 Q oM,xJ5 oM oM _ oM,zA7 oM oM,ae];omega
   exact⟨v,none,c,f,rfl,P,⟨C,.inl ⟨rfl,I,E,f,H,m,F,S,U,V,W,X,Y,J,Z,B.1,B.2.1⟩⟩,l,G,B.1,B.2.2,.inl rfl⟩
  .obtain⟨c,G⟩:=N rfl m;exact⟨v,some 3,c,g.wr,rfl,P,⟨C,.inr ⟨rfl,m⟩⟩,l,G,iR _,by have:=d.c0;omega,.inr ⟨rfl,h.noroom n.good n.cont (F _ (h.covers ad))⟩⟩
 .rintro e w' ⟨rfl,ko,w1,hR,l,hT',⟨rfl,hK2⟩|⟨rfl,hK2,gm,gw,cw',hB',hmay,hwere⟩⟩
  .obtain⟨C,⟨h3,_⟩|⟨_,hsh⟩⟩:=hR
   .cases h3
   refine⟨rfl,?_⟩;obtain⟨n1,n2,n3,n4,n5,n6,n7⟩:=h.ne;have M:Kp [q.St,y.f.x,q.s.M,g.A,g.C,y.tb] w w':=(l.mono (λk a _=>by simp at a |-;rcases a with h | h | h | h | h<;>simp[h])).trans hK2 (λk a _=>by simp at a |-;simp[a]);have ab:=l.heap d.hT (by simp[n1,n2,n3,n6];exact ω d.hT h.S.sh.dev.hC dC);have ac:=h.S.bk.left (World.ownsMap.tidy h.S.sh.hM qM4) h.num.1 o;refine h.step (q':={ q with s:=q.s.left y.t.nr,D:=q.D.del (χ y.t.nr) }) (y':=⟨y.tb,{ y.f with dn:=true },y.t.ended,y.r,y.ps,y.cs⟩) M (λk a=>?_) rfl (λk a=>.inl a) (Sh.one hsh hK2 ab dC) ⟨rfl,rfl,rfl,rfl⟩ ⟨rfl,rfl,rfl,rfl,rfl⟩ (by rw[List.map_set];exact ac) (λj hj ag _ _ zd=>Maps.atKey_del_other (h.others j hj ag) zd) (h.overY M (λk a c t fr e=>?_) (iR _) hT' (hK2.heap C (by simpa using n2.symm)) rfl)
   .simp only[mC,lN,or_false] at a;rcases a with e|e|e|e|e|e
    .exact .inl (by simp[e])
    .exact .inr (qF9.2 (.inr (.inl e)))
    .exact .inl (by simp[e])
    .exact .inl (by simp[e])
    .exact .inl (by simp[e])
    .exact .inr (qF9.2 (.inl e))
   .by_cases L:k=g.C
    .rw[L,h.S.sh.dev.hC] at e;cases e;decide
    .exact h.apt (Ts:=284::qV0) dC k (by simp at a |-;rcases a with e | e | e | e | e | e<;>simp[e];exact absurd e L) c t fr e
  .exact⟨rfl,h.committed o A hR l hK2 hT' (pw:=pw) (cw:=cw) f3 hB' hmay hwere⟩
end
theorem Kp.less{S}{k:Nat}{o}{w w'}(h:Kp (k::S) w w')(a:w.heap[k]?=some o)(b:w'.heap[k]?=some o):Kp S w w':=
 ⟨h.os,h.tape,h.output,h.size,λi c d=>by
  by_cases e:i=k
  .rw[e,a,b]
  .exact h.block i c (by simp[e,d])⟩
theorem xI0{N:Nat}{l}{rb rs:Int}{r}(h:Lie N l rb rs r):r.news=0:=by
 cases r with
 | none=>rfl
 | «at» n L=>obtain⟨b,_,e,_⟩:=h;exact xJ4 e
section
variable {base:Nat} {T com:Int} {w w':World} {q q':SG} {g:TG} {r:Root} {N:Nat} {E:SEnv} {l:List UInt8}
theorem zK9(wr:Bool):∀ a:List YG,(∀ y∈a,YOk base T w N com E l q y)->qE1 wr (qH3 a)=Gw.cnt wr (a.map kOf)
 | [],_=>rfl
 | y::a,h=>by
  have d:=zK9 wr a (λz j=>h z (mM _ j));have c:=h y sM;rw[Gw.cnt] at d |-;simp only[qH3,List.map_cons,qE1,List.countP_cons];rw[show a.map (λy=>(y.f,y.ps.length))=qH3 a from rfl,d];have e:=c.dn;have f:=c.wr;rw[e,f];by_cases b:y.t.over=false/\y.t.wrt=wr
  .rw[if_pos b,if_pos (show (!(kOf y).over && (kOf y).wrt == wr)=true by simp[kOf,b.1,b.2])];omega
  .rw[if_neg b,if_neg (show ¬(!(kOf y).over && (kOf y).wrt == wr)=true from λi=>b (by simpa [kOf] using i))];omega
def BgR(g:TG)(q q':SG)(r:Root)(wrt:Bool)(w:World)(xo:Option Addr)(w1:World):Prop:=∃ x t,xo=some ⟨x,0,none⟩∧w.heap.size≤x∧t.St=q.St∧t.nr=q.s.bg+1∧t.wrt=wrt∧t.ch=0∧t.h=⟨⟨#[]⟩,q.s.rb,q.s.rs,none⟩∧∃ hS':Sh w1 q'.Db q'.St g.A g.C g.n q'.nM q'.s q'.D g.l g.wr r,LiveT hS'.E w1 x g.A g.n t q'.s r
theorem TOk.born{s:Bool}(h:TOk base T w g)(ao:base<=w.heap.size)(al:0<=T)(D:g.so=some q)(J:g.q=some r)(ex:g.k.x=some ⟨q.Db,0,none⟩)(Y:q.s.N=g.N)(Z:SPR w g.k.c r.cont)(f:SOk base T w g.A g.C g.n g.l g.wr g.k.com r q g.ys)
  (e:q'.St=q.St/\q'.s.V=q.s.V/\q'.s.rb=q.s.rb/\q'.s.rs=q.s.rs) (X:q'.s.M=q.s.M/\q'.Db=q.Db/\q'.s.N=q.s.N/\q'.s.bg=q.s.bg+1/\q'.nM<=q.nM+1) (ad:Books q'.s q'.D (g.ys.map kOf++[⟨false,s,q.s.bg+1⟩])) (hD:∀ m,m<=q.s.bg->∀ zd,q'.D.atKey (χ m) zd=q.D.atKey (χ m) zd) (O:s=false->∀ zd,q'.D.atKey (χ (q.s.bg+1)) zd=qG8 ⟨⟨#[]⟩,q.s.rb,q.s.rs,none⟩)
  (hd:zU3 g.k g.B base r.cont.length s (qF4 g) (BgR g q q' r s w) [q.St,q.s.M] w w'):DStep qF2 base (T+2) w w' g:=by
 obtain⟨w1,x,tb,v',L,⟨x2,t,hxe,hx1,ht1,ht2,ht3,ht4,ht5,hS1,hL1⟩,hK1,htb,hT',hB',hrow',hK2,hL,hown⟩:=hd;cases hxe;obtain⟨I,S,U,a4,a5⟩:=X;obtain⟨cA,hA⟩:=f.sh.hA;have au:=hK1.size;have ak:=hS1.hSt;have H:∀ k,g.k.ts.ownBlock=some k->base<=k/\∃ c,Ϙ w k (.cells c 132):=λk d=>qH2 h.row k (by simp[d]);have G:∀ {k:Nat} {c:Array Value} {t:TypeId} {o:Nat × Nat},Ϙ w k (.cells c t o)->t≠169->Ϙ w1 k (.cells c t o):=λd ht=>hK1.heap d (by
  simp only[mC,lN,or_false,not_or];exact⟨ω d f.sh.hSt ht,qC5 d f.sh.hM⟩)
 have M:=G h.d.hB dC;have u:∀ {k:Nat} {c:Array Value} {t:TypeId} {o:Nat × Nat},Ϙ w1 k (.cells c t o)->t≠130->t≠132->k ∉ L:=λd n1 n2 B=>by
  rcases hL _ B with rfl|e
  .exact ω d M n1 rfl
  .obtain⟨_,c,n⟩:=H _ e;exact ω d (G n dC) n2 rfl
 have ab:q'.s.M ∉ L:=λB=>by
  rcases hL _ B with e|e
  .exact qC5 M hS1.hM e.symm
  .obtain⟨_,c,n⟩:=H _ e;exact qC5 (G n dC) hS1.hM rfl
 have A:Kp (q.St::q.s.M::L) w w':=(hK1.mono (λk d _=>by simp at d |-;rcases d with h | h<;>simp[h])).trans hK2 (λk d _=>by simp[d]);have p:Muts base [169,130,132] w (q.St::q.s.M::L):=λk d=>by
  simp only[mC] at d;rcases d with rfl|rfl|d
  .exact⟨f.bSt,_,f.sh.hSt,λc t o e=>by cases e;decide⟩
  .obtain⟨es,mc,hM⟩:=RM.obj f.sh.hM;exact⟨f.bM,_,hM,λc t o e=>by cases e⟩
  .rcases hL k d with rfl|d
   .exact⟨h.d.bB,_,h.d.hB,λc t o e=>by cases e;decide⟩
   .obtain⟨F,c,n⟩:=H k d;exact⟨F,_,n,λc t o e=>by cases e;decide⟩
 obtain⟨ai,aa⟩:=hS1.hA;have v:Sh w' q'.Db q'.St g.A g.C g.n q'.nM q'.s q'.D g.l g.wr r:=Sh.kp hS1 hK2 (by
  simp only[mC,lN,or_false];rintro k (rfl|rfl|rfl|rfl|rfl|rfl)
  .exact u hS1.hDb dC dC
  .exact u hS1.hSt dC dC
  .exact ab
  .exact u hS1.dev.hV dC dC
  .exact u aa dC dC
  .exact u hS1.dev.hC dC dC)
 have ag:=hK2.heap hL1.hx (u hL1.hx dC dC);have am:=f.sh.bg0;have an:=f.bg1;have aq:=f.nM;have ap:=h.hlen;have av:=h.ylen;have ar:=h.d.qlen r J;have aj:=f.sh.N4;have K:SPR w' g.k.c r.cont:=Z.keep A (p.apt dC);have af:=xH7 f.sh.lie.old f.sh.good;rw[xI0 f.sh.lie] at af;have hE:v.E=f.sh.E:=by
  have F:=e.2.1;show EL q'.s.V _ _ _ _ _ _ _ _ _=EL q.s.V _ _ _ _ _ _ _ _ _
  congr 1
 obtain⟨y,C⟩:∃ y:YG,y=⟨tb,TF.born g.k x r.cont.length s,t,r,r.cont,[]⟩:=⟨_,rfl⟩;have Q:∀ k,k∈qG9 y->w.heap.size<=k:=λk d=>by
  rw[C] at d;rcases qF9.1 d with e|e|d|d|d
  .rw[e];show w.heap.size<=tb;omega
  .rw[e];exact hx1
  .cases d
  .cases d
  .cases d
 have ah:YOk base (T+2) w' g.n g.k.com v.E g.l q' y:=by
  subst C;refine { bT:=by show base<=tb;omega,bX:=by show base<=x;omega,hT:=hT',hx:=ag,st:=by rw[e.1];exact ht1,sp:=K,m0:=iR _,m1:=by show ((r.cont.length:Nat):Int)<=T+2;omega,c0:=iR _,c1:=by show (0:Int)<=T+2;omega,cm:=iR _,wr:=ht3.symm,dn:=hL1.over.symm,ch0:=by rw[ht4];exact iR _,ch1:=by rw[ht4];omega,stp:=ht4.symm,crow:=wN _ _ _ _,clen:=by show ((0:Nat):Int)<=T+2;omega,curs:=λc hc=>(by cases hc),cbs:=List.nodup_nil,Cbs:=List.nodup_nil,live:=λ_=>⟨hL1.on,?_,f.sh.good,rfl,λ_=>⟨⟨0,rfl,?_⟩,by show r.lf<=1400;omega⟩,λhw=>⟨by rw[ht5],by rw[ht5];exact f.sh.lie,λzd=>?_,.inr (by rw[ht5,e.2.2.1,e.2.2.2];exact⟨rfl,rfl⟩)⟩⟩ }
  .show RR v.E.toEnv w' t.h r;rw[ht5];exact f.sh.lie.rr f.sh.good w'
  .unfold qL9;rw[xI0 f.sh.lie];exact zL _
  .rw[show s=false from ht3.symm.trans hw] at O;show q'.D.atKey (χ t.nr) zd=qG8 t.h;rw[ht2,ht5];exact O rfl zd
 have ae:kOf y=⟨false,s,q.s.bg+1⟩:=by rw[C];simp only[kOf];rw[hL1.over,ht3,ht2]
 refine⟨{ g with k:={ g.k with ts:=v' },so:=some q',ys:=g.ys++[y] },q.St::q.s.M::L,⟨h.d.turnK v' g.k.li g.k.wa (some q') (g.ys++[y]) g.hs A oM hB' ⟨v.dev.hA,v.dev.hC⟩ (p.apt dC),Gw.Held.cast (Gw.Held.kp h.held A (λk d=>?_) (λk d=>?_) (p.apt dC)) rfl rfl,by show ((g.hs.length:Nat):Int)<=T+2;omega,λz i=>by have:=h.hps z i;omega,?_,by show (((g.ys++[y]).length:Nat):Int)<=T+2;simp;omega,.inr ⟨q',r,rfl,J,by show g.k.x=_;rw[S];exact ex,by rw[U];exact Y,K,by rw[e.1];exact f.bSt,by rw[I];exact f.bM,v,oM,oM,by rw[List.map_append,List.map_cons,ae];exact ad,λz i=>?_⟩,?_⟩,rfl,λk d=>?_,A,λk d=>?_⟩
 .obtain⟨_,c,n⟩:=qH2 h.held.li k (by simp[d]);exact p.not n dC
 .obtain⟨_,c,n⟩:=qH2 h.held.wa k (by simp[d]);exact p.not n dC
 .have e:qF4 { g with k:={ g.k with ts:=v' },so:=some q',ys:=g.ys++[y] }=qF4 g++[tb]:=by simp[qF4,C]
  rw[e,lA];exact hrow'
 .rcases mA i with i|i
  .have R:=f.ys z i;rw[hE];refine (R.kp A (show T<=T+2 by omega) (λk d B=>?_) (p.apt dC)).move e λ_ _=>hD _ ?_
   .obtain⟨_,c,t,o,V,W⟩:=R.yMut k d;exact (p.apt (Us:=yTs) dC) k B _ _ _ V W
   .obtain⟨j,hj,rfl⟩:=gO i;exact (f.bk.nrs j (kOf g.ys[j]) (by simp[hj])).2
  .rw[mS i];exact ah
 .show (g.ys++[y]).Pairwise _;rw[List.pairwise_append];refine⟨h.sep,sM,λa ha b ac k d P=>?_⟩;rw[mS ac] at P;have F:=(f.ys a ha).yMut.muts.lt d;have n:=Q k P;omega
 .rcases qD1.1 d with d|d|d|d|d|⟨z,i,d⟩
  .exact .inl (qD1.2 (.inl d))
  .rcases hown k d with d|d
   .exact .inl (qD1.2 (.inr (.inl d)))
   .exact .inr oM
  .exact .inl (qD1.2 (.inr (.inr (.inl d))))
  .exact .inl (qD1.2 (.inr (.inr (.inr (.inl d)))))
  .refine .inl (qD1.2 (.inr (.inr (.inr (.inr (.inl ?_))))));rw[D];simp only[qJ6,e.1,I] at d |-;exact d
  .rcases mA i with i|i
   .exact .inl (qD1.2 (.inr (.inr (.inr (.inr (.inr ⟨z,i,d⟩))))))
   .rw[mS i] at d;exact .inr (Q k d)
 .refine qD1.2 ?_;simp only[mC] at d;rcases d with rfl|rfl|d
  .exact .inr (.inr (.inr (.inr (.inl (by rw[D];simp[qJ6])))))
  .exact .inr (.inr (.inr (.inr (.inl (by rw[D];simp[qJ6])))))
  .rcases hL k d with rfl|d
   .exact .inl (.inl rfl)
   .exact .inr (.inl d)
theorem xW7(h:TOk base T w g)(W:0<=T)(hT:T<=40000)(hb:0<base)(O:base<=w.heap.size)(hg:w.cell? ⟨0,0,none⟩=some qE9)(hx:g.k.x≠none)(ae:Bool):CSt base T w g 82 #[.pointer (some ⟨g.B,0,none⟩),.bool ae]:=by
 obtain⟨q,r,P,Q,L,R,K,f⟩:=h.store hx;obtain⟨cA,U⟩:=f.sh.hA;rw[h.d.len,Nat.mul_div_cancel _ dC] at U;have ak:=h.ylen;have X:=f.sh.bg0;have ah:=f.bg1;have aj:=f.nM;have af:TFs w g.k (qF4 g) (qH3 g.ys):=⟨PRow.of h.row,by simp[qF4,qH3],λj h1 h2=>by
  have hj:j<g.ys.length:=by simpa [qF4] using h1
  have ad:=f.ys _ (gM hj);obtain⟨b,c,e⟩:=ad.sp.form;exact⟨by simpa [qF4,qH3] using ad.hT,b,c,by simpa [qH3] using e⟩⟩
 obtain⟨z,A,ag⟩:=K.form;have B:BgIn w g.B g.A g.n g.C (.slice none 0 0) cA g.wr g.k q.Db base (qF4 g) (qH3 g.ys) z r.cont.length A:=⟨h.d.hB,h.d.po,rfl,U,L,ag,af,h.row,O,by simp[qF4];omega,hg⟩;have M:ProgS w [q.St,q.s.M]:=λk i=>by
  simp only[mC,lN,or_false] at i;rcases i with rfl|rfl
  .exact⟨by have:=f.bSt;omega,λc t fr e=>by rw[f.sh.hSt] at e;cases e;decide⟩
  .exact⟨by have:=f.bM;omega,λc t fr e=>absurd rfl (qC5 e f.sh.hM)⟩
 have V:ProgS w [q.St]:=λk i=>M k (by simp at i;simp[i]);have aa:=zK9 true g.ys f.ys;have Y:=zK9 false g.ys f.ys;have ab:=f.bk.size;have ai:=f.bk.four;have Z:∀ w1 w',Ϙ w1 q.St (θ 0 q.s)->Kp [q.St] w w1->Kp [] w1 w'->DStep qF2 base (T+2) w w' g:=λw1 w' b c d=>
  ⟨g,[],h.keep ((Kp.less c f.sh.hSt b).tr d) (Muts.nil _ _ _) sM oM,rfl,λk i=>.inl i,(Kp.less c f.sh.hSt b).tr d,sM⟩
 cases ae with
 | true=>
  by_cases n:q.s.wr=0
  .refine (zW6 g.B g.A g.n g.C (.slice none 0 0) cA g.wr g.k q.Db base (qF4 g) (qH3 g.ys) z r.cont.length A true none rfl [q.St,q.s.M] (BgR g q { q with s:=q.s.wrote } r true w) w B M (λy w1 ⟨x,_,e,_⟩=>⟨x,e⟩) (.inl ⟨rfl,by rw[aa];exact f.bk.busyW.1 n⟩) ((f.sh.beginW n oM).mono ?_)).mono λe w' ⟨a,b⟩=>⟨a,h.born (q':={ q with s:=q.s.wrote }) O W P Q L R K f ⟨rfl,rfl,rfl,rfl⟩ ⟨rfl,rfl,rfl,rfl,Nat.le_succ _⟩ (f.bk.born_write n X) (λ_ _ _=>rfl) (λe=>by cases e) b⟩;rintro e w' ⟨x,t,rfl,o,p,u,C,F,G,H,I,J⟩;exact⟨_,_,rfl,rfl,⟨x,t,rfl,o,p,u,C,F,G,I,J⟩,H.mono (λk i _=>by simp at i;simp[i])⟩
  .refine (zW5 g.B g.A g.n g.C (.slice none 0 0) cA g.wr g.k q.Db base (qF4 g) (qH3 g.ys) z r.cont.length A true (some 4) rfl [q.St] (λy w1=>y=none/\Ϙ w1 q.St (θ 0 q.s)) w B V (λy w1 h=>h.1) (.inl ⟨rfl,by rw[aa];exact Nat.pos_of_ne_zero (λe=>n (f.bk.busyW.2 e))⟩) ((xX1 q.Db q.St q.s w f.sh.hDb f.sh.hSt f.sh.po f.sh.neDb.1 n).mono ?_)).mono λe w' ⟨a,w1,b,c,d⟩=>⟨a,Z w1 w' b.2 c d⟩;rintro e w' ⟨v,rfl,o,p,u⟩;exact⟨none,v,rfl,o,⟨rfl,p⟩,u⟩
 | false=>
  have ac:=World.ownsMap.tidy f.sh.hM qM4;by_cases n:Maps.size q.D<4
  .refine (zW6 g.B g.A g.n g.C (.slice none 0 0) cA g.wr g.k q.Db base (qF4 g) (qH3 g.ys) z r.cont.length A false none rfl [q.St,q.s.M] (BgR g q { q with s:=q.s.read,nM:=q.nM+1,D:=q.D.put (χ (q.s.bg+1)) (qG8 ⟨⟨#[]⟩,q.s.rb,q.s.rs,none⟩) } r false w) w B M (λy w1 ⟨x,_,e,_⟩=>⟨x,e⟩) (.inr ⟨rfl,by rw[Y,<-ab];exact n⟩) ((f.sh.beginR n oM oM).mono ?_)).mono λe w' ⟨a,b⟩=>⟨a,h.born (q':={ q with s:=q.s.read,nM:=q.nM+1,D:=q.D.put (χ (q.s.bg+1)) (qG8 ⟨⟨#[]⟩,q.s.rb,q.s.rs,none⟩) }) O W P Q L R K f ⟨rfl,rfl,rfl,rfl⟩ ⟨rfl,rfl,rfl,rfl,lR⟩ (f.bk.born_read ac X n) (λm hm zd=>Maps.atKey_put_other (λe=>by have:=Gw.zF2 e;omega) _ zd) (λ_ zd=>Maps.atKey_put_same ac.isMap (Gw.xE1 _) _ zd) b⟩;rintro e w' ⟨x,t,D',rfl,o,p,u,C,F,G,H,rfl,I,J⟩;exact⟨_,_,rfl,rfl,⟨x,t,rfl,o,p,u,C,F,G,I,J⟩,H⟩
  .have S:Maps.size q.D=4:=oM
   refine (zW5 g.B g.A g.n g.C (.slice none 0 0) cA g.wr g.k q.Db base (qF4 g) (qH3 g.ys) z r.cont.length A false (some 4) rfl [q.St] (λy w1=>y=none/\Ϙ w1 q.St (θ 0 q.s)) w B V (λy w1 h=>h.1) (.inr ⟨rfl,by rw[Y,<-ab];exact S⟩) ((xX0 q.Db q.St q.nM q.s q.D w f.sh.hDb f.sh.hSt f.sh.hM f.sh.po f.sh.neDb.1 (qC5 f.sh.hSt f.sh.hM).symm S).mono ?_)).mono λe w' ⟨a,w1,b,c,d⟩=>⟨a,Z w1 w' b.2 c d⟩;rintro e w' ⟨v,rfl,o,p,u⟩;exact⟨none,v,rfl,o,⟨rfl,p⟩,u⟩
end
theorem jG6{base i:Nat}{T:Int}{w}{q:SG}{y:YG}{g:TG}{r}(h:At base T w g q r i y):CSt base T w g 135 #[.pointer (some ⟨g.B,0,none⟩),.pointer (some ⟨y.tb,0,none⟩),.bool true]:=by
 by_cases a:y.t.over=false/\y.t.wrt=true
 .exact jG8 h a.1 a.2
 .exact qV2 h true λ_ b=>by simpa [b] using a
def qT0:List Int:=[5,10,11,12,13,14,15,16,17,18,19,20]
theorem kE2(base:Nat)(T:Int)(w)(g:TG)(q:SG)(r)(i:Nat)(y:YG)(h:At base T w g q r i y)(o:SOp)(hk:o.k=13\/o.k=14\/o.k=15\/o.k=16\/o.k=17\/o.k=18\/o.k=19\/o.k=20)(hf:Gw.SFits o):
  Calls prog 83 #[.pointer (some ⟨g.B,0,none⟩),.pointer (some ⟨y.tb,0,none⟩),.agg #[.int .i64 o.k,.int .i64 o.x,.int .i64 o.y,.int .i64 o.a,.int .i64 o.b,.string o.s,.string o.t]] w λe w'=>e=.returned (.bool true)/\DStep qF2 base (T+2) w w' g:=by
 obtain⟨k,s,t,f,n,os,j⟩:=o;have M:=zh hf;have u:Hid (At base T (w.alloc (.cells #[ϊ k,ϊ s,ϊ t,ϊ f,ϊ n,.string os,.string j] 66)) g q r i y):=h.same (kF.alloc _);simp only at hk;clear hf;rcases hk with rfl|rfl|rfl|rfl|rfl|rfl|rfl|rfl
 .go_enter func83,ntmps83;go_wp2_with fail;refine (show Calls _ _ _ _ _ from kJ1 u os j).mono ?_;rintro e p ⟨rfl,a⟩;have l:Hid (DStep qF2 base (T+2) w p g):=DStep.from (kF.alloc _) a h.ok.muts;clear a;go_wp2;go_ret;exact⟨rfl,l⟩
 .go_enter func83,ntmps83;go_wp2_with fail;refine (show Calls _ _ _ _ _ from jJ1 u os j).mono ?_;rintro e p ⟨rfl,a⟩;have l:Hid (DStep qF2 base (T+2) w p g):=DStep.from (kF.alloc _) a h.ok.muts;clear a;go_wp2;go_ret;exact⟨rfl,l⟩
 .go_enter func83,ntmps83;go_wp2_with fail;refine (show Calls _ _ _ _ _ from qZ0 u os).mono ?_;rintro e p ⟨rfl,a⟩;have l:Hid (DStep qF2 base (T+2) w p g):=DStep.from (kF.alloc _) a h.ok.muts;clear a;go_wp2;go_ret;exact⟨rfl,l⟩
 .have A:=M.out.a;simp only at A;go_enter func83,ntmps83;go_wp2_with fail;refine (show Calls _ _ _ _ _ from kL6 u os j f A).mono ?_;rintro e p ⟨rfl,a⟩;have l:Hid (DStep qF2 base (T+2) w p g):=DStep.from (kF.alloc _) a h.ok.muts;clear a;go_wp2;go_ret;exact⟨rfl,l⟩
 .go_enter func83,ntmps83;go_wp2_with fail;refine (show Calls _ _ _ _ _ from jG6 u).mono ?_;rintro e p ⟨rfl,a⟩;have l:Hid (DStep qF2 base (T+2) w p g):=DStep.from (kF.alloc _) a h.ok.muts;clear a;go_wp2;go_ret;exact⟨rfl,l⟩
 .go_enter func83,ntmps83;go_wp2_with fail;refine (show Calls _ _ _ _ _ from qV2 u false (λe=>by cases e)).mono ?_;rintro e p ⟨rfl,a⟩;have l:Hid (DStep qF2 base (T+2) w p g):=DStep.from (kF.alloc _) a h.ok.muts;clear a;go_wp2;go_ret;exact⟨rfl,l⟩
 .go_enter func83,ntmps83;go_wp2_with fail;refine (show Calls _ _ _ _ _ from kI6 u).mono ?_;rintro e p ⟨rfl,a⟩;have l:Hid (DStep qF2 base (T+2) w p g):=DStep.from (kF.alloc _) a h.ok.muts;clear a;go_wp2;go_ret;exact⟨rfl,l⟩
 .have R:=zh h;have F:Hid ((w.alloc (.cells #[ϊ 20,ϊ s,ϊ t,ϊ f,ϊ n,.string os,.string j] 66)).heap[w.heap.size]?=some (.cells #[ϊ 20,ϊ s,ϊ t,ϊ f,ϊ n,.string os,.string j] 66)):=υ _ _;have B:Hid (Kp [] w (w.alloc (.cells #[ϊ 20,ϊ s,ϊ t,ϊ f,ϊ n,.string os,.string j] 66))):=kF.alloc _;have C:=h.yy.hT;have al:=ζ C;have E:=ξ C 8;simp only[tob,zG,zH,zI] at E;obtain⟨pt,G,D,Q⟩:=PRow.of h.yy.crow;have am:=h.yy.clen;have ak:=h.T1;have ad:(qJ9 y).length=y.cs.length:=by simp[qJ9]
  rw[ad] at D;rw[D] at E;by_cases hz:y.cs.length=0
  .have HQ:Hid (DStep qF2 base (T+2) w (w.alloc (.cells #[ϊ 20,ϊ s,ϊ t,ϊ f,ϊ n,.string os,.string j] 66)) g):=h.quiet (w1:=w) ⟨h.S.sh.hSt,h.S.sh.dev⟩ kF B.out;rw[hz] at E;clear Q D C h;go_enter func83,ntmps83;go_wp2;go_ret;exact⟨rfl,HQ⟩
  obtain⟨x,H,rfl,N,Z⟩:=Q oM;have ai:¬((y.cs.length:Int)=0):=oM
  obtain⟨m,J⟩:=eY y.cs.length;rw[J] at E ai hz;have ae:=ζ N;have ab:Hid (y.f.cs=.slice (some ⟨x,0,none⟩) m G):=by rw[<-J];exact D
  have aa:Hid (∀ i (h:i<m),H[i]?=some (ϖ ((y.cs[i]'oM).cb))):=λi h=>by
   have:=Z i oM;simp only[qJ9,List.getElem_map] at this;exact this
  have U:Hid ((w.alloc (.cells #[ϊ 20,ϊ s,ϊ t,ϊ f,ϊ n,.string os,.string j] 66)).heap[x]?=some (.cells H 203)):=B.out.hp N;have X:Hid ((w.alloc (.cells #[ϊ 20,ϊ s,ϊ t,ϊ f,ϊ n,.string os,.string j] 66)).heap[y.tb]?=some (tob y.f)):=B.out.hp C;have P:=M.out.a;have A:=M.out.b;have an:m<=100000:=oM
  simp only at P A;clear Q D C h Z N;go_enter func83,ntmps83;go_wp2_with fail;have O:∀ V:World,Ϙ V y.tb (tob y.f)->V.cell? ⟨y.tb,8,none⟩=some (.slice (some ⟨x,0,none⟩) m G):=λV hV=>by
   have c:=ξ hV 8;simp only[tob,zG,zH,zI] at c;rw[c,ab.out]
  obtain⟨W,I⟩:=eX (w.alloc (.cells #[ϊ 20,ϊ s,ϊ t,ϊ f,ϊ n,.string os,.string j] 66));rw[<-I] at F B U X u;rw[<-I];have aj:Hid (W.heap.size=w.heap.size+1):=by show W.heap.size=_;rw[I];simp
  clear I;have d:Ϙ W.drew y.tb (tob y.f)/\Ϙ W.drew w.heap.size (.cells #[ϊ 20,ϊ s,ϊ t,ϊ f,ϊ n,.string os,.string j] 66)/\Ϙ W.drew x (.cells H 203):=⟨X,F,U⟩;refine wp_region_held_drew (S:=λW=>Ϙ W y.tb (tob y.f)/\Ϙ W w.heap.size (.cells #[ϊ 20,ϊ s,ϊ t,ϊ f,ϊ n,.string os,.string j] 66)/\Ϙ W x (.cells H 203)) kR d (λ_=>?_);refine zP 0 y.tb 0 d ?_;refine zP 1 y.tb 0 d ?_;refine zP 2 y.tb 8 d ?_;refine zV 3 (.slice (some ⟨x,0,none⟩) m G) rfl (λW b=>by have c:=O _ b.1;clear b;go_simp) d ?_;refine zP 4 w.heap.size 3 d ?_;refine zV 5 (ϊ f) rfl (λW b=>by have c:=ξ b.2.1 3;simp at c;clear b;go_simp) d ?_;refine zP 6 y.tb 0 d ?_;refine zP 7 y.tb 0 d ?_;refine zP 8 y.tb 8 d ?_;refine zV 9 (.slice (some ⟨x,0,none⟩) m G) rfl (λW b=>by have c:=O _ b.1;clear b;go_simp) d ?_;refine zU 10 (ϊ m) d ?_;refine zq 11 λK hK=>?_;go_simp;refine (qW4 f m _ P.1 P.2 oM oM).mono ?_;rintro e p ⟨z,rfl,ag,rfl⟩;refine zk hK d ?_
  refine zU 12 (.pointer (some ⟨x,z,none⟩)) d ?_;refine zV 13 (ϖ ((y.cs[z]'oM).cb)) rfl (λW b=>by have c:=ξ b.2.2 z;rw[aa.out z ag] at c;clear b;go_simp) d ?_;refine zU 14 (ϖ ((y.cs[z]'oM).cb)) d ?_;refine zd ?_;clear d O E ae;go_wp2_with fail;have v:Ϙ W.drew.drew w.heap.size (.cells #[ϊ 20,ϊ s,ϊ t,ϊ f,ϊ n,.string os,.string j] 66):=F.out;refine wp_region_held_drew (S:=λW=>Ϙ W w.heap.size (.cells #[ϊ 20,ϊ s,ϊ t,ϊ f,ϊ n,.string os,.string j] 66)) kR v (λ_=>?_);refine zP 0 g.B 0 v ?_;refine zP 1 y.tb 0 v ?_;refine zU 2 (ϖ ((y.cs[z]'oM).cb)) v ?_;refine zP 3 w.heap.size 4 v ?_;refine zV 4 (ϊ n) rfl (λW b=>by have c:=ξ b 4;simp at c;clear b;go_simp) v ?_;refine zP 6 w.heap.size 5 v ?_;refine zV 7 (.string os) rfl (λW b=>by have c:=ξ b 5;simp at c;clear b;go_simp) v ?_;refine zq 5 λK hK=>?_;go_simp;refine (qW4 n 5 _ A.1 A.2 oM oM).mono ?_;rintro e p ⟨ah,rfl,af,rfl⟩;refine zk hK v ?_
  refine zq 8 λK hK=>?_;go_simp;refine (show Calls _ _ _ _ _ from kC3 (u.same ((Kp.refl [] _).drew.drew)) z oM ah af os).mono ?_;rintro e w3 ⟨rfl,a⟩;have l:Hid (DStep qF2 base (T+2) w w3 g):=DStep.from B.drew.drew a R.ok.muts;have Y:Ϙ w3 w.heap.size (.cells #[ϊ 20,ϊ s,ϊ t,ϊ f,ϊ n,.string os,.string j] 66):=by
   obtain⟨g',L,_,_,_,ac,hL⟩:=a;refine ac.heap F (λJ=>?_);have:=R.out.ok.muts.lt (hL _ J);omega
  refine hK.out _ _ Y (λ_=>?_);clear hK K a
  try simp only[zZ]
  refine zU 9 (.bool true) Y ?_;refine zd ?_;go_wp2;go_ret;exact⟨rfl,l⟩
theorem jE3:Gw.DOps qF2 qT0 where
 fmt:=λbase T w g h b a c d f=>jO4 h b a c d f
 opn:=λbase T w g h b a c d f=>kF3 h b a c d f
 beg:=λbase T w g h b a c d f i z=>xW7 h b a c d f i z
 txn:=λbase T w g h b a c d f i j u o A x t=>by
  obtain⟨q,r,k,l,p,m,n,s⟩:=TOk.store h i;have v:j<g.ys.length:=by simpa [qF2,qF4] using u
  have y:o.k=13\/o.k=14\/o.k=15\/o.k=16\/o.k=17\/o.k=18\/o.k=19\/o.k=20:=by
   simp only[qT0,mC,lN,or_false] at x;omega
  have:=kE2 base T w g q r j g.ys[j] ⟨h,b,a,c,d,f,k,l,p,m,n,s,v,rfl⟩ o y t;have e:(qF2.tbs g)[j]=g.ys[j].tb:=by simp[qF2,qF4]
  rw[e];exact this
 looks:=λbase T w g h b a=>look_ok h b a
theorem jF2:Gw.zJ6 qF2 qT0:=Gw.kN9 qF2 qT0 dC jE3
theorem jH7(p)(n cap:Nat)(f:Nat->SOp)(w)(g:Script w p n f)(h:∀ i,i<n->Gw.SFits (f i))(c:0<w.heap.size)(j:w.cell? ⟨0,0,none⟩=some qE9):
  Calls prog 6 #[.slice p n cap] w λe k=>e=.returned (.bool true)/\Kp [] w k:=by
 have b:Kp [] w (w.alloc (.cells (qT0.map (.int .i64)).toArray 3)):=kF.alloc _;go_enter func6,ntmps6;go_wp2_with fail;refine (Gw.kI0 qT0 12 dC rfl (λp n cap f w=>Gw.kR0 qF2 qT0 jF2 p n cap f w) p n cap f _ (g.keep b) h sM ((b.cell (a:=⟨0,0,none⟩) c sM).trans j) w.heap.size (υ _ _)).mono ?_;rintro e w1 ⟨rfl,d⟩;go_wp2;go_ret;exact⟨rfl,b.tr d⟩
end Go.Proofs.YtdohpenfkdckiaaGreatDoor.Gc
namespace Go.Proofs.YtdohpenfkdckiaaGreatDoor.Gw
open Go.Proofs.Tryz
open Go Go.ChangeShapes Go.WideShapes Go.RowKit Go.Deep
theorem jH6(os:Os)(M:os.Started)(H:Type)(enc:TypeId × Value->H):
  ReturnsInHanded {} checked os 6 .any (λw args=>(Rows.commitsSpec.pre enc prog f6 [] false w args/\laidMetH prog Rows.commitsRow.laid w)/\sizedMet enc prog f6 (OpenSpec.ofChange Rows.commitsSpec) false w args)
   (Rows.commitsSpec.post enc prog f6 false true false false):=by
 refine returnsInHanded_of_change_and (C:=checked) (X:=λw _=>laidMetH prog Rows.commitsRow.laid w) (λ_ _ _ hh h=>h.of_heap hh) kK2 M kR func6 (jH9 os H enc) ?_;intro W base args z Q O s n _ _ D _;have r:∀ (j:Nat) t v,f6.params[j]?=some t->args[j]?=some v->Value.okWide prog W .any base t v:=s;have c:=n;obtain⟨p,q,m,F,rfl,_,_⟩:=n;have l:DataW.TrodAll enc prog W 0 (λ_=>true) true f6.params.toList args.toList z p:=m;rw[params6] at l r;obtain⟨N,i,rfl,rfl,k⟩:=trodAll_one l;obtain⟨rfl,rfl⟩:=trodVars_none F;have A:=k;obtain⟨fuel,J⟩:=k;clear m s;simp only[aN] at c;have L:∀ x∈p,x.block<W.heap.size:=λx hx=>by simpa using c.lt x hx
 obtain⟨g,u,cap,rfl⟩:=okWide_slice underlying22 (r 0 22 N rfl rfl);have d:=jH5 D;have B:0<W.heap.size:=by
  unfold World.cell? at d
  cases a:W.heap[0]? with
  | none=>simp[a] at d
  | some o=>exact ζ a
 obtain⟨S,R,P,f,G,E,K⟩:=kF0 (c0:=.slice g u cap) (by simpa [Value.cells] using J);cases G;have b:Rows.commitsSpec.fn H ([i]++[])={ results:=[.lit (.bool true)],args:=[i] }:=by simp[Rows.commitsSpec]
 refine (Gc.jH7 g u cap f W E K B d).mono λe y ⟨I,hK⟩=>?_;subst I;have a:Below W.heap.size W y:=hK.below lR sM;refine⟨_,rfl,_,_,_,[],p,[],c,?_,?_,?_,a.frame _,λh=>by cases h⟩
 .rw[b];exact trodAll_mk1 (shut_bool underlying4 true)
 .rw[b];exact trodAll_mk1 (Below.trod xE9 kR (of_decide_eq_true kR) A a L)
 .rw[b];rfl
end Go.Proofs.YtdohpenfkdckiaaGreatDoor.Gw
