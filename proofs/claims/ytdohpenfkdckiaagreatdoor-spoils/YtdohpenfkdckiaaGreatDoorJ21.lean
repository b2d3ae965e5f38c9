import Derived.Test.YtdohpenfkdckiaaGreatDoorJ18
import Derived.Test.YtdohpenfkdckiaaGreatDoorJ19
import Derived.Test.YtdohpenfkdckiaaGreatDoorJ20
import Derived.Maps.AppendAt
set_option linter.all false
set_option maxRecDepth 100000
set_option maxHeartbeats 20000000
namespace Go.Proofs.YtdohpenfkdckiaaGreatDoor
open Go.Proofs.Tryz
open Go.RowKit
structure LkIn(w:World)(B tb A n C:Nat)(cache:Value)(calls writes:Int)(k:KF)(f:TF)(ps:List KV):Prop where
 hB:w.heap[B]?=some (kob k)
 po:k.po=false
 kA:k.A=A
 hA:∃ κ,w.heap[A]?=some (qA6 κ n C cache calls writes)
 hT:w.heap[tb]?=some (tob f)
 sp:SPR w f.v ps
 sz:ps.length≤70000
 g0:w.cell? ⟨0,0,none⟩=some qF5
def qV3(R:World→Prop)(S:List Nat)(w w':World):Prop:=∃ w1,R w1∧Kp S w w1∧Kp [] w1 w'
theorem jM9(B tb A n C:Nat)(cache)(calls writes:Int)(k:KF)(f:TF)(ps)(key gv)(gb:Bool)(ko:Option Int)(hko:ko=none)(S)(R:World->Prop)(w)(hI:LkIn w B tb A n C cache calls writes k f ps)(hP:ProgS w S)(hkb:qH4 key=true)(hdn:f.dn=false)(hgr:qZ4 ps key=.tuple #[.string gv,.bool gb])(hcall:Calls prog 197 #[.pointer (some ⟨f.x,0,none⟩),.string key] w λe w'=>∃ v,e=.returned (.tuple #[.string gv,.bool gb,v])/\ErrV w' v ko/\R w'/\Kp S w w'):
  Calls prog 133 #[.pointer (some ⟨B,0,none⟩),.pointer (some ⟨tb,0,none⟩),.string key] w λe w'=>e=.returned (.bool true)/\qV3 R S w w':=by
 have hBs:=ζ hI.hB;have hTs:=ζ hI.hT;have hAs:=ζ hI.hA.choose_spec;have HI:=zh hI;have HP:=zh hP;have hB:=hI.hB;have hT:=hI.hT;have hkA:=hI.kA;have HCALL:=zh hcall;have HKEY:Hid (∀ w,Ω 198 #[.string key] w λe w'=>e=ϱ (.bool true)/\w'=w):=by have h:=zB3 key;rw[hkb] at h;exact h
 have HGR:=zh hgr;have b0:=ξ hB 0;simp only[kob,zG,zH,zI] at b0;have t0:=ξ hT 0;simp only[tob,zG,zH,zI] at t0;rw[hkA] at b0;clear hI hP hB hT hkA hcall hkb hgr;go_enter func133,ntmps133;go_wp2_with fail;refine (qL8 A n C cache calls writes w HI.hA.choose_spec).mono ?_;rintro e w0 ⟨rfl,rfl⟩;go_wp2_with fail;refine (show Calls _ _ _ _ _ from HCALL).mono ?_;rintro e w1 ⟨v,rfl,hv,hR,hK1⟩;have hB1:=HP.out.stay hK1 HI.hB dC;have hT1:=HP.out.stay hK1 HI.hT dC;have hsp1:=HI.out.sp.keep hK1 (HP.apt dC);have hg1:=HP.out.g0 hK1 HI.g0 oM;have HR:=zh (n2 hR hK1);clear b0 t0 hR;go_wp2_with fail;refine (qL1 v ko w1 hg1 hv).mono ?_;rintro e w2 ⟨rfl,hK2⟩;have hB2:=hK2.hp hB1;have hT2:=hK2.hp hT1;have hsp2:=hsp1.keep0 hK2;have hT2s:=ζ hT2;have hB2s:=ζ hB2;have t1:=ξ hT2 1;simp only[tob,zG,zH,zI] at t1;obtain⟨vb,vl,vc,hvv⟩:=hsp2.slc;rw[hvv] at t1;have hsp2':SPR w2 (.slice vb vl vc) ps:=by rw[<-hvv];exact hsp2
 clear hvv hsp2
 go_wp2_with (first | (go_at_call 127;refine (qK1 _ _).mono ?_;rintro e w2 ⟨rfl,rfl⟩) | (go_at_call 198;refine (HKEY _).mono ?_;rintro e w2 ⟨rfl,rfl⟩))
 refine (xO4 (.slice vb vl vc) ps key _ hsp2' (by have:=HI.out.sz;omega)).mono ?_;rintro e w3 ⟨rfl,hK3⟩;rw[HGR.out];have hB3:=hK3.hp hB2;have hT3:=hK3.hp hT2;have hB3s:=ζ hB3;have hT3s:=ζ hT3;have b10:=ξ hB3 10;simp only[kob,zG,zH,zI] at b10;have t3:=ξ hT3 3;simp only[tob,zG,zH,zI] at t3;rw[HI.out.po] at b10;have HK3:=zh (hK2.tr hK3);clear t1 hB1 hT1 hsp1 hg1 hK1 hK2 hK3 hB2 hT2 hsp2' hv hB3 hT3;rw[hdn] at t3;by_cases hz:gv=⟨#[]⟩
 .subst hz;go_wp2;go_ret;exact⟨sM,w1,HR.1,HR.2,HK3⟩
 .go_wp2<;>(go_ret;exact⟨sM,w1,HR.1,HR.2,HK3⟩)
theorem xF1(B tb A n C:Nat)(cache)(calls writes:Int)(k:KF)(f:TF)(ps)(key gv)(kb gb:Bool)(j:Int)(ko:Option Int)(hko:ko=some j)(S)(R:World->Prop)(w)(hI:LkIn w B tb A n C cache calls writes k f ps)(hP:ProgS w S)(hkb:qH4 key=kb)(hj:(f.dn=true/\j=5)\/(f.dn=false/\kb=false/\j=1))(hgr:qZ4 ps key=.tuple #[.string gv,.bool gb])(hcall:Calls prog 197 #[.pointer (some ⟨f.x,0,none⟩),.string key] w λe w'=>∃ v,e=.returned (.tuple #[.string ⟨#[]⟩,.bool false,v])/\ErrV w' v ko/\R w'/\Kp S w w'):
  Calls prog 133 #[.pointer (some ⟨B,0,none⟩),.pointer (some ⟨tb,0,none⟩),.string key] w λe w'=>e=.returned (.bool true)/\qV3 R S w w':=by
 have hBs:=ζ hI.hB;have hTs:=ζ hI.hT;have hAs:=ζ hI.hA.choose_spec;have HI:=zh hI;have HP:=zh hP;have hB:=hI.hB;have hT:=hI.hT;have hkA:=hI.kA;have HCALL:=zh hcall;have HKEY:Hid (∀ w,Ω 198 #[.string key] w λe w'=>e=ϱ (.bool kb)/\w'=w):=by have h:=zB3 key;rw[hkb] at h;exact h
 have HGR:=zh hgr;have b0:=ξ hB 0;simp only[kob,zG,zH,zI] at b0;have t0:=ξ hT 0;simp only[tob,zG,zH,zI] at t0;rw[hkA] at b0;clear hI hP hB hT hkA hcall hkb hgr;go_enter func133,ntmps133;go_wp2_with fail;refine (qL8 A n C cache calls writes w HI.hA.choose_spec).mono ?_;rintro e w0 ⟨rfl,rfl⟩;go_wp2_with fail;refine (show Calls _ _ _ _ _ from HCALL).mono ?_;rintro e w1 ⟨v,rfl,hv,hR,hK1⟩;have hB1:=HP.out.stay hK1 HI.hB dC;have hT1:=HP.out.stay hK1 HI.hT dC;have hsp1:=HI.out.sp.keep hK1 (HP.apt dC);have hg1:=HP.out.g0 hK1 HI.g0 oM;have HR:=zh (n2 hR hK1);clear b0 t0 hR;go_wp2_with fail;refine (qL1 v ko w1 hg1 hv).mono ?_;rintro e w2 ⟨rfl,hK2⟩;have hB2:=hK2.hp hB1;have hT2:=hK2.hp hT1;have hsp2:=hsp1.keep0 hK2;have hT2s:=ζ hT2;have hB2s:=ζ hB2;have t1:=ξ hT2 1;simp only[tob,zG,zH,zI] at t1;obtain⟨vb,vl,vc,hvv⟩:=hsp2.slc;rw[hvv] at t1;have hsp2':SPR w2 (.slice vb vl vc) ps:=by rw[<-hvv];exact hsp2
 clear hvv hsp2
 go_wp2_with (first | (go_at_call 127;refine (qK1 _ _).mono ?_;rintro e w2 ⟨rfl,rfl⟩) | (go_at_call 198;refine (HKEY _).mono ?_;rintro e w2 ⟨rfl,rfl⟩))
 refine (xO4 (.slice vb vl vc) ps key _ hsp2' (by have:=HI.out.sz;omega)).mono ?_;rintro e w3 ⟨rfl,hK3⟩;rw[HGR.out];have hB3:=hK3.hp hB2;have hT3:=hK3.hp hT2;have hB3s:=ζ hB3;have hT3s:=ζ hT3;have b10:=ξ hB3 10;simp only[kob,zG,zH,zI] at b10;have t3:=ξ hT3 3;simp only[tob,zG,zH,zI] at t3;rw[HI.out.po] at b10;have HK3:=zh (hK2.tr hK3);clear t1 hB1 hT1 hsp1 hg1 hK1 hK2 hK3 hB2 hT2 hsp2' hv hB3 hT3;rcases hj with⟨h1,h2⟩|⟨h1,h2,h3⟩
 .rw[h1] at t3;clear h1;subst h2;go_wp2;go_ret;exact⟨sM,w1,HR.1,HR.2,HK3⟩
 .rw[h1] at t3;clear h1;subst h2 h3;go_wp2;go_ret;exact⟨sM,w1,HR.1,HR.2,HK3⟩
open Go.ChangeMaps
theorem RR.kp{E}{w w'}{h}{r}{S}(a:RR E w h r)(hK:Kp S w w')(b:Apt w S qF1):RR E w' h r:=by
 cases r with
 | none=>exact a
 | «at» n l=>exact RL.keep a hK b
variable {κ:Nat}
def upN(N:Int):Int:=(N+1) % 18446744073709551616
theorem qP4(N:Int):0<=upN N/\upN N<18446744073709551616:=by unfold upN;omega
theorem zC1(N:Int):upN N % 2=(N+1) % 2:=by unfold upN;omega
theorem zH8(N c rs a b:Int)(w):
  Calls prog 141 #[.agg #[.int .u64 N,.int .i64 c,.int .u64 rs],.agg #[.int .i64 a,.int .u64 b]] w λe d=>e=.returned (.agg #[.int .u64 (upN N),.int .i64 a,.int .u64 b])/\Below w.heap.size w d:=by
 have f:IntKind.u64.wrap (N+1)=upN N:=by rw[IntKind.wrap_u64];rfl
 go_enter func141,ntmps141;go_wp2;refine bodyPost_ret (results_cell_row results141 _ _ (w.heap.size+1+1) 166 #[.int .u64 (upN N),ϊ a,.int .u64 b] (0,0) _ rfl ?_ underlying166 rfl kR) rfl ⟨rfl,(((Below.refl _ _).alloc lR _).alloc sM _).alloc sO _⟩;simpa using υ ((w.alloc (.cells #[.int .u64 N,ϊ c,.int .u64 rs] 166)).alloc (.cells #[ϊ a,.int .u64 b] 84)) (.cells #[.int .u64 (upN N),ϊ a,.int .u64 b] 166)
def qB6(N rb rs:Int):List UInt8:=toB (qG9 N rb rs)++List.replicate 96 0
theorem qI7(N a rs:Int):(qB6 N a rs).length=128:=by simp[qB6,qN9,zT5]
theorem zO0(V A n C:Nat)(j q:Int)(i:Nat)(N a rs:Int)(l)(w)(hV:w.heap[V]?=some (qE4 A n))(h:w.heap[A]?=some (qA6 κ n C (.slice none 0 0) j q))
  (hi:i<n) (hn:n<=1000) (O:w.heap[C]?=some (.cells (enc l) 115)) (hs:n*128<=l.length) (L:C≠A) (ai:V≠A) (a4:V≠C) (hN:N % 2=i) (ad:0<=N) (az:0<=a) (a6:a<=1000) (a1:0<=rs):
  Calls prog 142 #[.pointer (some ⟨V,0,none⟩),.agg #[.int .u64 N,.int .i64 a,.int .u64 rs]] w λe F=>e=.returned (.tuple #[])/\
   F.heap[A]?=some (qA6 κ n C (.slice none 0 0) (nx (nx j)) (nx q))/\F.heap[C]?=some (.cells (enc (qC7 l i (qB6 N a rs))) 115)/\Kp [A,C] w F:=by
 have a5:=ζ hV;have hA:=ζ h;have a3:=ζ O;have HN:=zh hN;clear hN;go_enter func142,ntmps142;go_wp2_with fail;rw[kR7];obtain⟨b,aj,aa,G,P,af,y,U,a9⟩:∃ b,b=(w.alloc (.cells #[.int .u64 N,ϊ a,.int .u64 rs] 166)).alloc (.cells (enc qT0) 288)/\Kp [A,C] w b/\Ϙ b A (qA6 κ n C (.slice none 0 0) j q)/\Ϙ b C (.cells (enc l) 115)/\Ϙ b V (qE4 A n)/\
   Ϙ b w.heap.size (.cells #[.int .u64 N,ϊ a,.int .u64 rs] 166)/\b.heap[w.heap.size+1]?=some (.cells (enc qT0) 288)/\b.heap.size=w.heap.size+2:=
  ⟨_,rfl,(kF.alloc _).alloc _,ρ _ (ρ _ h),ρ _ (ρ _ O),ρ _ (ρ _ hV),ρ _ (υ _ _),by simpa using υ (w.alloc (.cells #[.int .u64 N,ϊ a,.int .u64 rs] 166)) (.cells (enc qT0) 288),sM⟩
 rw[<-aj];clear aj;refine wp_region_any kR ?_;change wpAny _ _ _ _ _ _ _ (World.drew _);refine zu 0 (.slice (some ⟨w.heap.size+1,0,none⟩) 128 128) ?_;refine zQ 1 λK hK=>?_;refine qF2 rfl (qP6 (t:=166) rfl kR 3 kR w.heap.size rfl (show b.drew.heap[w.heap.size]?=_ from y) rfl) ?_;refine hK _ _ ?_;simp only[zZ];refine zQ 2 λK hK=>?_;go_simp;refine (xQ4 N a rs _ ad az oM a1).mono ?_;rintro e w2 ⟨v2,rfl,ae,v⟩;obtain⟨g2,ap,a2,rfl,am,a0,E⟩:=xM9 ae;have f:=Kp.of_below v lR;have H:=f.heap (k:=A) G sM;have Q:=f.heap (k:=C) P sM;have ag:=f.heap (k:=V) af sM;have Y:=f.heap (k:=w.heap.size) y sM;have x:=f.heap (k:=w.heap.size+1) U sM;have ab:=(aa.drew).tr f;have a7:w.heap.size+2<=w2.heap.size:=by have:=v.size;simp at this;omega
 clear v f G P af y U aa ae;refine hK _ _ ?_
 try simp only[zZ]
 refine zQ 3 λK hK=>?_;refine qF2 rfl (jH5 rfl underlying118 Tryz.size5 (w.heap.size+1) 0 128 128 g2 0 32 ap 32 rfl rfl dC x am (by rw[qH1];decide) oM (by rw[E];exact (qJ4 _).one)) ?_;rw[E,xG7];have al:qT0.take 0++toB (qG9 N a rs)++qT0.drop (0+(toB (qG9 N a rs)).length)=qB6 N a rs:=by
  rw[qN9,zT5];simp[qB6,qT0]
 rw[al];obtain⟨d,ak,ac,I,R,ah,o,m⟩:∃ d,d=w2.setRow (w.heap.size+1) (enc (qB6 N a rs))/\Kp [A,C] w d/\Ϙ d A (qA6 κ n C (.slice none 0 0) j q)/\Ϙ d C (.cells (enc l) 115)/\Ϙ d V (qE4 A n)/\
   Ϙ d w.heap.size (.cells #[.int .u64 N,ϊ a,.int .u64 rs] 166)/\d.heap[w.heap.size+1]?=some (.cells (enc (qB6 N a rs)) 288):=
  ⟨_,rfl,ab.setRow (Or.inr oM) _,(setRow_other _ _ _ _ oM).trans H,(setRow_other _ _ _ _ oM).trans Q,(setRow_other _ _ _ _ oM).trans ag,(setRow_other _ _ _ _ oM).trans Y,setRow_heap _ _ _ _ _ _ x⟩
 rw[<-ak];clear ak H Q ag Y x ab am a0 E al;refine hK _ _ ?_;refine wpAny_done kR ?_ _;simp only[zZ];go_wp2_with fail;have an:=qI7 N a rs;refine wp_region_held_drew (S:=λW=>Ϙ W w.heap.size (.cells #[.int .u64 N,ϊ a,.int .u64 rs] 166)/\W.heap[w.heap.size+1]?=some (.cells (enc (qB6 N a rs)) 288)) kR ⟨o,m⟩ (λ_=>?_);refine zV 0 (ϖ V) rfl (λW s=>rfl) ⟨o,m⟩ ?_;refine zV 1 (.agg #[.int .u64 N,ϊ a,.int .u64 rs]) rfl (λW s=>qP6 (t:=166) rfl kR 3 kR w.heap.size rfl s.1 rfl) ⟨o,m⟩ ?_;refine zV 3 (.agg (enc (qB6 N a rs))) rfl (λW s=>qP6 (t:=288) rfl kR 128 kR (w.heap.size+1) rfl s.2 (by rw[qH1,qI7])) ⟨o,m⟩ ?_;refine zq 2 λK hK=>?_;go_simp;refine (zS2 N a rs _ ad).mono ?_;rintro e u ⟨rfl,M⟩;rw[HN.out];have g:=Kp.of_below M lR;have J:=g.heap (k:=A) I sM;have T:=g.heap (k:=C) R sM;have B:=g.heap (k:=V) ah sM;have z:=g.heap (k:=w.heap.size) o sM;have r:=g.heap (k:=w.heap.size+1) m sM;have p:=(ac.drew).tr g;clear M g I R ah o m ac;refine hK.out _ _ ⟨z,r⟩ (λ_=>?_)
 try simp only[zZ]
 refine zq 4 λK hK=>?_;go_simp;refine (xP7 V A n C u.heap.size (.slice none 0 0) [] j q i (qB6 N a rs) u B J (wN _ _ _ _) sM lR hi hn an ai).mono ?_;rintro e w5 ⟨rfl,v5,ao,aq,c⟩;rw[nA] at ao;have a8:w.heap.size+2<=u.heap.size:=by have:=ζ r;omega
 have au:=c.oth _ _ _ _ T dC L;have ay:=c.oth _ _ _ _ B dC ai;have Z:=c.oth _ _ _ _ z dC oM;have X:=c.oth _ _ _ _ r dC oM;have aw:Kp [A,C] w w5:=⟨c.os.trans p.os,c.tape.trans p.tape,c.output.trans p.output,lT p.size c.size,λk hk D=>(c.low k oM (by simp at D;exact D.1)).trans (p.block k hk D)⟩;clear c p J T B z r;refine hK.out _ _ ⟨Z,X⟩ (λ_=>?_);refine zd ?_
 try simp only[zZ]
 clear Z X;go_wp2_with fail;refine (zT6 V A n C u.heap.size v5 [(i,qB6 N a rs)] (nx j) (nx q) l _ ay aq ao (by simpa using⟨hi,an⟩) sM hn au hs L).mono ?_;rintro e w6 ⟨rfl,ar,av,ax⟩;go_wp2
 go_end0
 exact⟨rfl,ar,av,aw.tr ax⟩
open Go.Maps (Keyed)
section
attribute [local go_sem] Oper.semAt_some
theorem jO0:(prog.info? 78).map (λi=>(i.zero,i.size,i.bytes))=some (some (.int .u64 0),1,8):=kR
def qQ5(ks:List Int):List Value:=ks.map (.int .u64)
theorem jX1(w:World)(a:Value)(t:TypeId):∀ j u,[a][j]?=some u->(w.alloc (.cells #[a] t)).cell? ((⟨w.heap.size,0,none⟩:Addr).add j)=some u:=λj u hj=>by
 rw[qH0,ξ (υ _ _)];simpa using hj
theorem jC9(args)(W):Sem.run prog (callFunc 239 args) W=.ok (.enter 239 args) W:=by
 simp[go_sem,func239]
theorem jQ9(n:Nat)(r:1<=n)(a M V b:Nat)(D)(w)(d:w.heap[a]?=some (.cells #[.map (some M)] 167))(e:RM w V M b D):
  SeqGives Fence.wide n prog 239 #[.pointer (some ⟨a,0,none⟩)] (.int .u64) (KeysU D) (Maps.size D) w:=λl J W c j m i=>by
 have k:RM W V M b D:=by
  have p:=e.lt;obtain⟨h,g,o,f⟩:=e;exact⟨h,g,(c.block M p).trans o,f⟩
 have q:=(c.block a (ζ d)).trans d;exact jQ8 n r l a M V b D J m W j (by have:=ξ q 0;simpa using this) k i
theorem zR9{w w'}{S}{base:Nat}{e}{sz:Nat}{v}{n:Nat}{xs:List Value}(h:w.ownsRow base e sz v n xs)(hK:Kp S w w')(i:∀ k∈S,∀ c fr,w.heap[k]?≠some (.cells c e fr)):w'.ownsRow base e sz v n xs:=by
 refine⟨h.1,?_⟩;rcases h.2 with a|⟨g,cap,cur,a,d,b,f⟩
 .exact Or.inl a
 .exact Or.inr ⟨g,cap,cur,a,d,hK.heap b (λj=>i g j _ _ b),f⟩
theorem xN0{w:World}{base:Nat}{e:TypeId}{sz:Nat}{v:Value}{n:Nat}{xs:List Value}(h:w.ownsRow base e sz v n xs):∃ b c,v=.slice b n c:=by
 rcases h.2 with⟨a,d⟩|⟨g,cap,cur,a,_⟩
 .exact⟨none,0,by rw[a,d]⟩
 .exact⟨_,cap,a⟩
def xT9(B:Nat)(w0:World)(ks:List Int)(W:World):Prop:=∃ v,W.heap[B]?=some (.cells #[v] 252)∧W.ownsRow (B+1) 78 1 v ks.length (qQ5 ks)∧Kp [B] w0 W
theorem xY3(g:Nat)(lb)(eg:∀ (args) (W),Sem.run prog (callFunc g args) W=.ok (.enter g args) W)(S:List Int->Prop)(N:Nat)(hN:N<=1000)(w)(M:∀ W,Kp [] w W->SeqGives Fence.wide 8 prog g lb (.int .u64) S N W):
  Calls prog 268 #[.slice none 0 0,.func (.func g) #[] lb] w λe Q=>∃ v ks,e=.returned v/\S ks/\Q.ownsRow w.heap.size 78 1 v ks.length (qQ5 ks)/\Kp [] w Q:=by
 obtain⟨i0,ad,ag,ah,ai⟩:=info_parts jO0;have U:=zh M;clear M;refine (callsIn_wide (n:=9)).1 ?_;refine callsIn_of_wp_marks func268 rfl trivial ?_ rfl;simp only[ntmps268,List.size_toArray,List.length_cons,List.length_nil,Nat.reduceAdd,Nat.reduceSub,Array.replicate_succ,Array.replicate_zero,List.push_toArray,List.append_toArray,List.nil_append,List.cons_append]
 gi_wp2_with fail
 obtain⟨m,O,aa,G,am⟩:=alB w (.cells #[.slice none 0 0] 252);rw[<-O];clear O;refine kQ9 g lb S N dC rfl eg rfl (U m G) (xT9 w.heap.size m) ?JK ?J0 (λx=>{ tmps:=#[.slice none 0 0,.func (.func g) #[] lb,ϖ w.heap.size,undef,.slice none 0 0,.int .u64 x,.func (.func g) #[] lb,.int .u64 x,undef,undef,undef,undef,undef],defers:=[] }) ?assign ?body ?done
 case JK=>
  rintro s W W' T ⟨v,F,h2,h3⟩ hK C;exact⟨v,hK.heap F (λhm=>(C _ hm).2 _ _ _ F),zR9 h2 hK (λk a c B=>(C k a).2 c _ B),h3.trans hK (λi D J=>absurd (C i D).1 oM)⟩
 case J0=>
  intro W hK;exact⟨_,hK.hp aa,World.ownsRow_nil _ _ _ _,hK.mono sM⟩
 case assign=>
  intro l x W K hK
  gi_wp2
  exact hK
 case body=>
  rintro l j x W ⟨v,d,b,h⟩ al ap;obtain⟨r,t,rfl⟩:=xN0 b;have ab:=ζ d;have P:=ϻ d 0;have aj:=ψ d 0;have f:=zh (n3 d b h);have R:Hid ((Value.slice r j.length t).ownBlock≠some w.heap.size):=λe=>by
   have:=qI4 b _ e;omega
  have ac:∀ {X:Obj} {p:World},(W.alloc X).grownBy p (Value.slice r j.length t).ownBlock->Ϙ p w.heap.size (.cells #[.slice r j.length t] 252):=λ{X p} hg=>(hg.block _ sO (λe=>R e.symm)).trans (ρ _ f.1);clear d b h
  gi_wp2_with (gi_at_builtin;refine wpListIn_append_own _ rfl _ _ 252 rfl (w.heap.size+1) 78 i0 (.int .u64 0) 1 8 underlying252 ad ag ah ai rfl dC _ _ _ rfl (World.ownsRow.alloc f.2.1 _) ⟨W.heap.size,0,none⟩ 1 1 [.int .u64 x] rfl rfl (jX1 _ _ _) (by simp[Value.oneCell']) (by unfold maxLen;omega) oM sO ?_;intro v5 p I z _;obtain⟨g5,V,rfl⟩:=qL7 I;have u:=ac z;have o5:=ξ u 0;have ak:=ψ u 0;simp only[zG,zH] at o5)
  have an:=z.size;have ao:(W.alloc (.cells #[.int .u64 x] 78)).heap.size=W.heap.size+1:=sM
  have y:Kp [w.heap.size] p (p.setCell ⟨w.heap.size,0,none⟩ (.slice (some ⟨g5,0,none⟩) (j.length+1) V)):=(Kp.refl _ _).sc _;have af:=λk a=>qI4 f.2.1 k a;refine⟨⟨_,μ u 0 _,?_,?_⟩,?_,?_⟩
  .have e:qQ5 (j++[x])=qQ5 j++[.int .u64 x]:=by simp[qQ5]
   rw[e,List.length_append];exact zR9 I y (λk a c B e=>by rw[List.mem_singleton.1 a,u] at e;cases e)
  .exact (((f.2.2.alloc _).grown z (λk a=>Or.inr (by have:=af k a;omega))).tr y)
  .have:=y.size;omega
  .intro k o a L;have J:=ζ a;have ae:k≠w.heap.size:=λe=>by
    rw[e,f.out.1] at a;cases a;exact L _ _ _ _ rfl
   refine y.heap ((z.block k sO (λe=>?_)).trans (ρ _ a)) (by simpa using ae);rcases f.2.1.2 with⟨h0,_⟩|⟨gb,cap,cur,Y,e2,Z,_⟩
   .rw[h0] at e;cases e
   .rw[Y] at e;cases e;rw[Z] at a;cases a;exact L _ _ _ _ rfl
 case done=>
  rintro W A hS ⟨v,d,b,h⟩ q;obtain⟨r,t,rfl⟩:=xN0 b;have ab:=ζ d;have P:=ϻ d 0;obtain⟨sl,E⟩:=eX A.length;rw[<-E] at P;have f:Hid (W.ownsRow (w.heap.size+1) 78 1 (.slice r sl t) A.length (qQ5 A)/\Kp [w.heap.size] m W/\Ϙ W m.heap.size (.deferred (some []))):=⟨by rw[E];exact b,h,q⟩;clear d b h q E
  gi_wp2
  obtain⟨b,h,q⟩:=f.out;refine⟨sM,.inl ⟨_,_,rfl,run_takeDeferred q,?_⟩⟩;have H:Kp [m.heap.size] W (W.putObj m.heap.size (.deferred none)):=(Kp.refl _ _).putO sM _;exact⟨_,results_tmp rfl _ _ _,_,A,rfl,hS,qL0 (zR9 b H (λk a c B e=>by rw[List.mem_singleton.1 a,q] at e;cases e)) oM,G.trans (h.tr H) (λi D J=>by simp at D;omega)⟩
theorem jR0(M:Nat)(w):Calls prog 173 #[.map (some M)] w λe a=>e=.returned (.func (.func 239) #[] #[.pointer (some ⟨w.heap.size,0,none⟩)])/\a=w.alloc (.cells #[.map (some M)] 167):=by
 have b:=zM;go_enter func173,ntmps173;go_wp2;go_ret;exact⟨rfl,rfl⟩
theorem jD7(a M V h:Nat)(D)(l:Maps.size D<=4)(w)(f:w.heap[a]?=some (.cells #[.map (some M)] 167))(g:RM w V M h D):
  Calls prog 237 #[.func (.func 239) #[] #[.pointer (some ⟨a,0,none⟩)]] w λe i=>∃ v ks,e=.returned v/\KeysU D ks/\i.ownsRow w.heap.size 78 1 v ks.length (qQ5 ks)/\Kp [] w i:=by
 have j:=zh (xY3 _ _ jC9 (KeysU D) (Maps.size D) oM w (λW hK=>jQ9 8 dC a M V h D W (hK.hp f) (g.kp hK sM)))
 clear f g;go_enter func237,ntmps237;go_wp2_with fail;refine (show Calls _ _ _ _ _ from j).mono ?_;rintro e m ⟨v,ks,rfl,b,c,d⟩;have k:=zh (n3 b c d);clear b c d;go_wp2;go_ret;exact⟨v,ks,rfl,k⟩
end
theorem xF9:(prog.info? 89).map (λi=>(i.zero,i.size,i.bytes))=some (some (.agg #[.pointer none,.string ⟨#[]⟩,.int .i64 0,.int .u64 0,.pointer none]),5,48):=kR
theorem kN8{V:Nat}{v}{y:DataW Unit × List MemPlace}(h:qV1 V v=some y):∃ b:HL,b.p=none/\v=τ V b/\y.1=qG2 b:=by
 unfold qV1 at h;split at h
 .rename_i c;split at h
  .rename_i a k x z f;split at h
   .rename_i d;cases h;refine⟨⟨k,x,z,none⟩,rfl,?_,rfl⟩;have g:c=#[.pointer (some a),.string k,ϊ x,.int .u64 z,.pointer none]:=by rw[<-Array.toArray_toList (xs:=c),f]
    have e:a=⟨V,0,none⟩:=by cases a;simp at d |-;exact d
    rw[g,e];rfl
   .cases h
  .cases h
 .cases h
theorem RM.look{w}{V M n:Nat}{D}(h:RM w V M n D){x:Int}(q:Maps.has D (ι x)=true)(e:keyOf prog 78 (.int .u64 x)=some (ι x)):
  ∃ a:HL,a.p=none/\(Instr.lookup 167 (.map (some M)) (.int .u64 x) false).run prog w=.ok (τ V a) w/\∀ zd,D.atKey (ι x) zd=qG2 a:=by
 obtain⟨A,v,o,F,B,rfl⟩:=h;rcases Maps.fit_look false qM3 zA5 (z:=.agg #[.pointer none,.string ⟨#[]⟩,ϊ 0,.int .u64 0,.pointer none]) (w:=w) kR o F e with⟨_,r,_⟩|⟨b,y,_,_,u,l,m,_⟩
 .obtain⟨p,s,t⟩:=List.any_eq_true.1 q;obtain⟨b,d,rfl⟩:=List.mem_map.1 (Go.mem_sorted.1 s);obtain⟨y,f⟩:=F.reads b d;have g:=WideElems.rd_key f;have c:=WideAt.sameKey_eq t;rw[WideElems.rg_of f] at c;rw[c] at g;exact absurd (qM3.inj g e) (r b d)
 .obtain⟨a,i,j,k⟩:=kN8 l;exact⟨a,i,by rw[u,j];rfl,λzd=>by rw[m zd,k]⟩
theorem RowU.of{w}{base g cap:Nat}{cur}{ks:List Int}(b:w.heap[g]?=some (.cells cur 78))(e:cur.size=cap*1)(d:cur.toList.take (ks.length*1)=qQ5 ks):RowU w g ks cap:=by
 refine⟨cur,b,oM,λi c=>?_⟩;have a:(qQ5 ks)[i]?=some (.int .u64 ks[i]):=by simp[qQ5,c]
 rw[<-d,List.getElem?_take_of_lt oM,Array.getElem?_toList] at a;exact a
def xU4(B:Nat)(D:DataW Unit)(v:Value)(ks:List Int)(w:World):Prop:=KeysU D ks∧((v=.slice none 0 0∧ks=[])∨∃ g cap,v=.slice (some ⟨g,0,none⟩) ks.length cap∧B≤g∧ks.length≤cap∧RowU w g ks cap)
theorem KeysU.perm{D}{ks c:List Int}(h:KeysU D ks)(a:c.Perm ks):KeysU D c:=
 ⟨λx b=>h.1 x (a.mem_iff.1 b),λkl hk=>by obtain⟨x,b,e⟩:=h.2.1 kl hk;exact⟨x,a.mem_iff.2 b,e⟩,by rw[a.length_eq];exact h.2.2⟩
theorem kJ6(h M V x:Nat)(D)(B:Maps.size D<=4)(w)(r:w.heap[h]?=some (.cells #[.map (some M)] 167))(s:RM w V M x D):
  Calls prog 172 #[.func (.func 239) #[] #[.pointer (some ⟨h,0,none⟩)]] w λe y=>∃ v ks,e=.returned v/\xU4 w.heap.size D v ks y/\Kp [] w y:=by
 have m:=zh (jD7 h M V x D B w r s);clear r s;go_enter func172,ntmps172;go_wp2_with fail;refine (show Calls _ _ _ _ _ from m).mono ?_;rintro e z ⟨v,ks,rfl,c,i,j⟩;have b:=zh (n2 c j);rcases i.2 with⟨rfl,p⟩|⟨g,cap,cur,rfl,C,q,l,F,t,u⟩
 .have E:=List.eq_nil_of_length_eq_zero p;clear c i j p;go_wp2_with fail;refine (kJ4 z).mono ?_;rintro e I ⟨rfl,rfl⟩;go_wp2;go_ret;exact⟨_,ks,rfl,⟨b.1,.inl ⟨rfl,E⟩⟩,b.2⟩
 .have o:=zh (kJ5 g cap ks z (RowU.of (base:=0) q t u) l (by have:=c.2.2;omega));obtain⟨H,k⟩:=eX ks.length;rw[<-k] at o |-;have n:=zh (n2 k l);clear c i j q l F t u k m;go_wp2_with fail;refine (show Calls _ _ _ _ _ from o).mono ?_;rintro e I ⟨rfl,G,a,f,d⟩;have A:=zh (n3 a f d);clear a f d;go_wp2;go_ret;obtain⟨a,f,d⟩:=A.out;exact⟨.slice (some ⟨g,0,none⟩) H cap,G,rfl,⟨b.1.perm a,.inr ⟨g,cap,by rw[a.length_eq,<-n.out.1],C,by rw[a.length_eq];exact n.2,f⟩⟩,b.2.trans d sO⟩
structure ReadH(D:DataW Unit)(hs:List HL):Prop where
 len:hs.length≤Maps.size D
 are:∀ h∈hs,h.p=none∧∃ x,Maps.has D (ι x)=true∧∀ zd,D.atKey (ι x) zd=qG2 h
 all:∀ kl,Maps.has D kl=true→∃ h∈hs,h.p=none∧∀ zd,D.atKey kl zd=qG2 h
theorem xR7(V:Nat)(hs)(h):qM5 V (hs++[h])=qM5 V hs++tcs V h:=by simp[qM5]
theorem kK9(St U:Nat)(lk:Int)(s)(D)(w)(z:w.heap[St]?=some (ν lk s))(N:RM w s.V s.M U D)(h4:Maps.size D<=4):
  Calls prog 113 #[.pointer (some ⟨St,0,none⟩)] w λe W=>∃ v a,e=.returned v/\W.ownsRow w.heap.size 89 5 v a.length (qM5 s.V a)/\ReadH D a/\Kp [] w W:=by
 obtain⟨i0,ac,ah,ai,aj⟩:=info_parts xF9;have ab:=ζ z;have V:=ξ z 10;simp only[ν,zG,zH,zI] at V;have HS:=zh z;have L:=zh N;clear z N;go_enter func113,ntmps113;go_wp2_with fail;refine (jR0 s.M w).mono ?_;rintro e t ⟨rfl,K⟩;have M:Ϙ t w.heap.size (.cells #[.map (some s.M)] 167):=by rw[K];exact υ _ _
 have H:Kp [] w t:=by rw[K];exact (Kp.refl _ _).alloc _
 clear K;go_wp2_with fail;refine (kJ6 w.heap.size s.M s.V U D h4 t M (L.out.kp H sM)).mono ?_;rintro e m ⟨v,ks,rfl,⟨hku,hv⟩,hK2⟩;have E:=zh (H.tr hK2);have af:=E.out.size;have n:=zh hku;obtain⟨o,p,ag⟩:∃ o p,v=.slice o ks.length p:=by
  rcases hv with⟨b,k⟩|⟨g,cap,b,_⟩
  .exact⟨none,0,by rw[b,k];rfl⟩
  .exact⟨_,cap,b⟩
 subst ag;obtain⟨c,B⟩:=eX ks.length;have G:Hid (c=ks.length/\((Value.slice o c p=.slice none 0 0/\ks=[])\/∃ g cap,Value.slice o c p=.slice (some ⟨g,0,none⟩) c cap/\t.heap.size<=g/\ks.length<=cap/\RowU m g ks cap)):=⟨B,by rw[B];exact hv⟩;rw[<-B];have ap:c<=4:=by have:=hku.2.2;omega
 clear B hv hku M H hK2;go_wp2_with fail
 go_loopw [3,13] (λlv i wr=>∃ (j:Nat) (a:List HL),j<=c/\i=.int .i64 j/\a.length=j/\Hid (wr.ownsRow m.heap.size 89 5 lv j (qM5 s.V a))/\Hid (∀ q (b:q<a.length) (k:q<ks.length),a[q].p=none/\∀ zd,D.atKey (ι ks[q]) zd=qG2 a[q])/\Hid (Kp [] m wr)) (λ_ i _=>c-(intOf i).toNat)
 case atStart=>exact⟨0,[],Nat.zero_le _,rfl,rfl,World.ownsRow_nil _ _ _ _,λq b=>by simp at b,Kp.refl _ _⟩
 case round=>
  obtain⟨j,a,ao,rfl,A,F,C,f⟩:=hrel;by_cases aq:j<c
  .have ad:(j:Int)<(c:Int):=oM
   have r:j<ks.length:=by have:=G.out.1;omega
   obtain⟨g,cap,hve,hgb,hcap,⟨cur,hc,hsz,hcur⟩⟩:∃ g cap,Value.slice o c p=.slice (some ⟨g,0,none⟩) c cap/\t.heap.size<=g/\ks.length<=cap/\RowU m g ks cap:=by
    rcases G.out.2 with⟨_,k⟩|h
    .rw[k] at r;simp at r
    .exact h
   cases hve;have X:=ξ (f.out.hp hc) j;rw[hcur j r] at X;have an:=ζ (f.out.hp hc);have y:=E.out.tr f.out;have I:=y.hp HS.out;have am:=ζ I;have ak:=ξ I 10;simp only[ν,zG,zH,zI] at ak;obtain⟨l,J,T,O⟩:=(L.out.kp y sM).look (n.out.1 _ (List.getElem_mem r)).1 (n.out.1 _ (List.getElem_mem r)).2;have S:l.ptr=none:=by simp[HL.ptr,J]
   rw[τ,S] at T;have Y:=zh (n2 J O);have al:=zh y;obtain⟨kj,Q⟩:=eX (ks[j]);rw[<-Q] at X T;clear hc hcur I O J y Q;clear ab V
   go_wp2_with (at_builtin;refine wpList_append_own _ rfl _ _ 175 rfl m.heap.size 89 i0 (.agg #[.pointer none,.string ⟨#[]⟩,ϊ 0,.int .u64 0,.pointer none]) 5 48 underlying175 ac ah ai aj rfl dC _ _ _ rfl (F.out.alloc _) ⟨wr.heap.size,0,none⟩ 1 1 [ϖ s.V,.string l.key,ϊ l.b,.int .u64 l.s,.pointer none] rfl rfl ?_ (by simp[Value.oneCell']) (by unfold maxLen;omega) oM (by have:=f.out.size;simp;omega) ?_)
   .intro q u hu;rw[qH0,ξ (υ _ _)];simpa using hu
   .intro v1 w3 R P _;have aa:Hid (w3.ownsRow m.heap.size 89 5 v1 (j+1) (qM5 s.V (a++[l]))):=by
     show World.ownsRow _ _ _ _ _ _ _;rw[xR7,tcs,S];exact R
    have Z:=zh ((f.out.alloc _).grown P (λq d=>Or.inr (by have:=qI4 F.out q d;omega)));clear R P;go_wp2;refine⟨⟨j+1,a++[l],oM,by go_num,by simp[A],aa,λq b k=>?_,Z⟩,by simp[intOf];omega⟩;by_cases d:q<a.length
    .rw[List.getElem_append_left d];exact C.out q d k
    .have e:q=j:=by simp at b;omega
     subst e;rw[List.getElem_append_right oM];simpa [A] using Y.out
  .have ad:¬(j:Int)<(c:Int):=oM
   have ae:j=ks.length:=by have:=G.out.1;omega
   subst ae;go_wp2;go_ret;refine⟨_,rfl,a,by rw[A];exact qL0 F.out af,⟨by rw[A];exact n.out.2.2,λh hm=>?_,λkl hk=>?_⟩,E.out.tr f.out⟩
   .obtain⟨q,d,rfl⟩:=List.getElem_of_mem hm;have b:=C.out q d oM;exact⟨b.1,ks[q]'oM,(n.out.1 _ (List.getElem_mem oM)).1,b.2⟩
   .obtain⟨x,hx,rfl⟩:=n.out.2.1 kl hk;obtain⟨q,d,rfl⟩:=List.getElem_of_mem hx;have b:=C.out q oM d;exact⟨a[q]'oM,List.getElem_mem oM,b.1,b.2⟩
end Go.Proofs.YtdohpenfkdckiaaGreatDoor
