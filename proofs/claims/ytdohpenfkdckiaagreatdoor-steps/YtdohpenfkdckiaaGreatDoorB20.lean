import Derived.Test.YtdohpenfkdckiaaGreatDoorB19
set_option linter.all false
set_option maxRecDepth 100000
set_option maxHeartbeats 20000000
namespace Go.Proofs.YtdohpenfkdckiaaGreatDoor
open Go.Proofs.Tryz
open Go.RowKit
def qM9:ByteArray:=⟨#[255,255,255,255,255,255,255,255,255]⟩
def qC0(ps:List KV):List KV:=qE9 ps ⟨#[]⟩ qM9 1048576
theorem BadT.tail{E:SEnv}{w w' w2:World}{t:Tx}{s:Sto}(h:BadT E w w' t s)(hK:Kp [] w' w2):BadT E w w2 t s:=
 ⟨(Env.To.of0 h.dev hK).dev,hK.hp h.hSt,h.kp.tr hK⟩
theorem zC5(E:SEnv)(x A n:Nat)(t:Tx)(s:Sto)(r:Root)(w:World)(hL:LiveT E w x A n t s r):
  Calls prog 32 #[.pointer (some ⟨x,0,none⟩)] w fun e w'=>∃ v,e=.returned (.tuple #[v,.bool true])∧OPA w' w.heap.size v (qC0 r.cont)∧BadT E w w' t s:=by
 have HC:Hid (Calls prog 71 #[.pointer (some ⟨x,0,none⟩),.string ⟨#[]⟩,.string ⟨#[255,255,255,255,255,255,255,255,255]⟩,.int .i64 1048576] w fun e w'=>∃ v,e=.returned (.tuple #[v,.nilIface])∧OPA w' w.heap.size v (qC0 r.cont)∧BadT E w w' t s):=jL8 E x A n t s r ⟨#[]⟩ qM9 1048576 w hL (by decide) (by decide);clear hL;go_enter func32,ntmps32;go_wp2_with fail;refine (show Calls _ _ _ _ _ from HC.out).mono ?_;rintro e w1 ⟨v,rfl,ho,hb⟩;have HE:Hid (OPA w1 w.heap.size v (qC0 r.cont)∧BadT E w w1 t s):=⟨ho,hb⟩;clear ho hb HC;go_wp2_with fail
 go_quiet (fail)
 go_wp2
 go_ret2
 exact⟨v,rfl,HE.out.1.keep ((Kp.refl [] w1).drewN _) (by simp),HE.out.2.tail ((Kp.refl [] w1).drewN _)⟩
theorem Slc.pairT{T:TypeId}{w:World}{v:Value}{ps:List KV}(h:Slc w T 2 v ps.length (qA6 ps))(hn:1≤ps.length):
  ∃ g off cap cur fr,v=.slice (some ⟨g,off,none⟩) ps.length cap∧ps.length≤cap∧w.heap[g]?=some (.cells cur T fr)∧∀ i (h:i<ps.length),cur[off+i*2]?=some (.string ps[i].k)∧cur[off+i*2+1]?=some (.string ps[i].v):=by
 rcases h.val with⟨h0,_⟩|⟨g,off,cap,cur,fr,h1,h2,h3,h4,h5⟩
 ·omega
 ·exact⟨g,off,cap,cur,fr,h1,h3,h4,fun i hi=>⟨h5 _ _ (qT6 hi).1,h5 _ _ (qT6 hi).2⟩⟩
theorem zP8(ba bb:Nat)(va vb:Value)(ps:List KV)(w:World)(ha:OPA w ba va ps)(hb:OPA w bb vb ps)(hn:ps.length≤1000000):
  Calls prog 33 #[va,vb] w fun e w'=>e=.returned (.bool true)∧Kp [] w w':=by
 have sa:=qH1 ha;have sb:=qH1 hb;obtain⟨abs,acp,rfl⟩:=qL2 ha;obtain⟨bbs,bcp,rfl⟩:=qL2 hb;obtain⟨ln,hln⟩:∃ ln,ln=ps.length:=⟨_,rfl⟩;have HA:Hid (Slc w 42 2 (.slice abs ln acp) ps.length (qA6 ps)):=by rw[hln];exact sa
 have HB:Hid (Slc w 42 2 (.slice bbs ln bcp) ps.length (qA6 ps)):=by rw[hln];exact sb
 have HLN:=zh hln;rw[←hln] at hn ⊢;clear ha hb sa sb hln;go_enter func33,ntmps33;go_wp2_with fail
 go_loopw [5] (fun i wr=>∃ (j:Nat),j≤ln∧i=.int .i64 j∧Hid (Kp [] w wr)) (fun i _=>ln-(intOf i).toNat)
 case atStart=>exact⟨0,Nat.zero_le _,rfl,Kp.refl _ _⟩
 case round=>
  obtain⟨j,hj,rfl,HK⟩:=hrel;by_cases hlt:j<ln
  ·have hjb:(j:Int)<(ln:Int):=by omega
   have hjp:j<ps.length:=by have:=HLN.out;omega
   obtain⟨ga,oa,ca,cua,fra,e1,e2,e3,e4⟩:=(HA.out.keep0 HK.out).pairT (by omega);obtain⟨gb,ob,cb,cub,frb,f1,f2,f3,f4⟩:=(HB.out.keep0 HK.out).pairT (by omega);cases e1;cases f1;have a0:=ξ e3 (oa+j*2);rw[(e4 j hjp).1] at a0;have a1:=ξ e3 (oa+j*2+1);rw[(e4 j hjp).2] at a1;have b0:=ξ f3 (ob+j*2);rw[(f4 j hjp).1] at b0;have b1:=ξ f3 (ob+j*2+1);rw[(f4 j hjp).2] at b1;have hga:=ζ e3;have hgb:=ζ f3;clear e3 f3 e4 f4;go_wp2_with fail
   go_quiet (fail)
   go_wp2;exact⟨⟨j+1,by omega,by go_num,HK.out.drewN _⟩,by simp[intOf];omega⟩
  ·have hjb:¬(j:Int)<(ln:Int):=by omega
   go_wp2;go_ret;exact⟨rfl,HK.out⟩
section
variable {w:World} {kc db St A C N nM:Nat} {s:Sto} {D:DataW Unit} {l:List UInt8} {wr:Int} {nw:Root}
theorem zP7(hS:Shop w kc db St A C N nM s D l wr nw)(h4:Maps.size D<4)(hnM:nM≤999999)(hbg:s.bg≤100000000)(hwb:s.wr≤s.bg):
  Calls prog 30 #[.pointer (some ⟨db,0,none⟩)] w fun e w'=>∃ v,e=.returned (.tuple #[v,.bool true])∧OPA w' w.heap.size v (qC0 nw.cont)∧Shop w' kc db St A C N (nM+1) s.read ((D.put (qA0 (s.bg+1)) (qE8 ⟨⟨#[]⟩,s.rb,s.rs,none⟩)).del (qA0 (s.bg+1))) l wr nw∧Kp [St,s.M,A] w w':=by
 have HB:Hid (Calls prog 29 #[.pointer (some ⟨db,0,none⟩),.bool false] w fun e w'=>∃ x t D',e=.returned (.tuple #[.pointer (some ⟨x,0,none⟩),.nilIface])∧w.heap.size≤x∧t.St=St∧t.nr=s.bg+1∧t.wrt=false∧t.ch=0∧Kp [St,s.M] w w'∧D'=D.put (qA0 (s.bg+1)) (qE8 ⟨⟨#[]⟩,s.rb,s.rs,none⟩)∧∃ hS':Shop w' kc db St A C N (nM+1) s.read D' l wr nw,LiveT hS'.E w' x A N t s.read nw):=hS.beginR h4 hnM hbg;have hbg0:=hS.bg0;obtain⟨cA,hA⟩:=hS.hA;have hAs:=ζ hA;clear hS hA;go_enter func30,ntmps30;go_wp2_with fail;refine (show Calls _ _ _ _ _ from HB.out).mono ?_;rintro e w1 ⟨x,t,D',rfl,hx,ht1,ht2,ht3,ht4,hK1,rfl,hS1,hL1⟩;have HALL:Hid (Calls prog 32 #[.pointer (some ⟨x,0,none⟩)] w1 fun e w'=>∃ v,e=.returned (.tuple #[v,.bool true])∧OPA w' w1.heap.size v (qC0 nw.cont)∧BadT hS1.E w1 w' t s.read):=zC5 hS1.E x A N t s.read nw w1 hL1;have HL1:=zh hL1;have HS1:=zh hS1;have HK1:=zh hK1;have hs1:=hK1.size;clear hL1 hK1 HB;go_wp2_with fail;refine (show Calls _ _ _ _ _ from HALL.out).mono ?_;rintro e w2 ⟨v,rfl,ho2,hb2⟩;have hL2:=HL1.out.stay hb2;have hK2:Kp [St,x,A] w1 w2:=hb2.kp.mono (by
  intro i hi _;rw[ht1] at hi;rcases List.mem_cons.1 hi with h|h
  ·simp[h]
  ·have h':i∈[A]:=h;simp at h';simp[h'])
 have hS2:=HS1.out.quiet HL1.out.hx hK2 hb2.dev (by have:=hb2.hSt;rw[ht1] at this;exact this);have HAB:Hid (Calls prog 36 #[.pointer (some ⟨x,0,none⟩)] w2 fun e w'=>e=.returned .nilIface∧w'.heap[x]?=some (χ t.ended)∧Shop w' kc db St A C N (nM+1) (s.read.left t.nr) ((D.put (qA0 (s.bg+1)) (qE8 ⟨⟨#[]⟩,s.rb,s.rs,none⟩)).del (qA0 t.nr)) l wr nw∧Kp [St,x,s.M] w2 w'):=hS2.abort hL2 ht1 (by omega) (by omega);have HO2:=zh ho2;have HK2:Hid (Kp [St,s.M,A] w w2):=(HK1.out.mono (by simp +contextual)).trans hK2 (by intro i hi hlt;simp at hi ⊢;omega);have HN:Hid (∀ k∈[St,x,s.M],∀ c fr,w2.heap[k]?≠some (.cells c 42 fr)):=by
  show ∀ k∈[St,x,s.M],∀ c fr,w2.heap[k]?≠some (.cells c 42 fr);intro k hk c fr e;simp only[List.mem_cons,List.not_mem_nil,or_false] at hk;rcases hk with rfl|rfl|rfl
  ·rw[hS2.hSt] at e;simp[ν] at e
  ·rw[hL2.hx] at e;simp[χ] at e
  ·exact absurd rfl (qF2 e hS2.hM)
 obtain⟨ob,oc,rfl⟩:=qL2 ho2;obtain⟨sl,hsl⟩:∃ sl,sl=(qC0 nw.cont).length:=⟨_,rfl⟩;rw[←hsl] at HO2 ⊢;clear ho2 hb2 hL2 hK2 hS2 HALL hsl;go_wp2_with fail;refine (show Calls _ _ _ _ _ from HAB.out).mono ?_;rintro e w3 ⟨rfl,_,hS3,hK3⟩;have HE:Hid (OPA w3 w.heap.size (.slice ob sl oc) (qC0 nw.cont)∧Shop w3 kc db St A C N (nM+1) s.read ((D.put (qA0 (s.bg+1)) (qE8 ⟨⟨#[]⟩,s.rb,s.rs,none⟩)).del (qA0 (s.bg+1))) l wr nw∧Kp [St,s.M,A] w w3):=by
  refine⟨qI2 (OPA.keep HO2.out hK3 HN.out) (by omega),?_,HK2.out.trans hK3 (by intro i hi hlt;simp at hi ⊢;omega)⟩;have e:s.read.left t.nr=s.read:=by
   have hne:¬t.nr=s.read.wr:=by show ¬t.nr=s.wr;omega
   simp[Sto.left,if_neg hne]
  rw[e,ht2] at hS3;exact hS3
 clear hS3 hK3 HAB;go_wp2_with fail
 go_quiet (fail)
 go_wp2
 go_ret2
 obtain⟨e1,e2,e3⟩:=HE.out;have hd:=(Kp.refl [] w3).drewN nq;exact⟨_,rfl,e1.keep hd (by simp),e2.turn (hd.mono (S':=[]) (by simp)) (by simp) (qM1 e2.dev hd (by intro k hk;cases hk)) ⟨rfl,rfl,rfl,rfl,rfl,rfl⟩ (hd.hp e2.hSt) (e2.hM.kp hd (by simp)) e2.m4 e2.n1 e2.bg0 e2.kb e2.rd,e3.tr hd⟩
end
section
variable {w:World} {kc db St A C N nM:Nat} {s:Sto} {D:DataW Unit} {l:List UInt8} {wr:Int} {nw:Root}
structure Wrt(w:World)(kc db St A C N nM:Nat)(s:Sto)(D:DataW Unit)(l:List UInt8)(wr:Int)(nw:Root)(x:Nat)(t:Tx)(r:Root)(nr:Int):Prop where
 shop:Shop w kc db St A C N nM s D l wr nw
 live:LiveT shop.E w x A N t s r
 st:t.St=St
 nr:t.nr=nr
 wrt:t.wrt=true
theorem Wrt.stay{x:Nat}{t:Tx}{r:Root}{nr:Int}(h:Wrt w kc db St A C N nM s D l wr nw x t r nr){w':World}(hb:BadT h.shop.E w w' t s):Wrt w' kc db St A C N nM s D l wr nw x t r nr∧Kp [St,A] w w':=by
 have hK:Kp [St,A] w w':=hb.kp.mono (by
  intro i hi _;rw[h.st] at hi;rcases List.mem_cons.1 hi with h|h
  ·simp[h]
  ·have h':i∈[A]:=h;simp at h';simp[h'])
 have hS:=h.shop.quiet h.live.hx (hK.mono (by simp +contextual)) hb.dev (by have:=hb.hSt;rw[h.st] at this;exact this);exact⟨⟨hS,h.live.stay hb,h.st,h.nr,h.wrt⟩,hK⟩
theorem Wrt.turn{x:Nat}{t:Tx}{r:Root}{nr:Int}(h:Wrt w kc db St A C N nM s D l wr nw x t r nr){w':World}{t':Tx}{r':Root}(hl:LiveT h.shop.E w' x A N t' s r')(e1:t'.St=t.St)(e2:t'.nr=t.nr)(e3:t'.wrt=t.wrt)(hk:Kp (t.St::x::h.shop.E.S) w w'):Wrt w' kc db St A C N nM s D l wr nw x t' r' nr∧Kp [St,x,A] w w':=by
 have hK:Kp [St,x,A] w w':=hk.mono (by
  intro i hi _;rw[h.st] at hi;rcases List.mem_cons.1 hi with h|hi
  ·simp[h]
  ·rcases List.mem_cons.1 hi with h|h
   ·simp[h]
   ·have h':i∈[A]:=h;simp at h';simp[h'])
 have hS:=h.shop.quiet h.live.hx hK hl.dev (by have:=hl.hSt;rw[e1,h.st] at this;exact this);exact⟨⟨hS,hl,e1.trans h.st,e2.trans h.nr,e3.trans h.wrt⟩,hK⟩
theorem Wrt.chd{x:Nat}{t:Tx}{r:Root}{nr:Int}(h:Wrt w kc db St A C N nM s D l wr nw x t r nr){w':World}{t':Tx}{r':Root}{j:Nat}(hc:Chd h.shop.E w x A N t s r j w' t' r'):Wrt w' kc db St A C N nM s D l wr nw x t' r' nr∧Kp [St,x,A] w w':=
 h.turn hc.live hc.st hc.nr hc.wrt hc.kp
theorem zG1(hS:Shop w kc db St A C N nM s D l wr nw)(hw:s.wr=0)(hbg:s.bg≤100000000)(a:Int)(ha0:-9223372036854775808≤a)(ha1:a≤9223372036854775807)(m:Nat)(hm:m≤1000)
  (hroom:∀ r':Root,RGood r'→r'.cont.length≤nw.cont.length+m→(r'.news:Int)≤(N:Int)-2-s.bl):
  Calls prog 19 #[.pointer (some ⟨db,0,none⟩),.int .i64 a,.int .i64 m] w fun e w'=>∃ x t r v,e=.returned (.tuple #[.pointer (some ⟨x,0,none⟩),v])∧w.heap.size≤x∧OPA w' w.heap.size v (qC0 r.cont)∧r.cont.length≤nw.cont.length+m∧t.ch≤(m:Int)∧(∀ p∈nw.cont,p.k=qF1→p∈r.cont)∧Kp [St,A] w w'∧Wrt w' kc db St A C N nM s.wrote D l wr nw x t r (s.bg+1):=by
 have HB:Hid (Calls prog 29 #[.pointer (some ⟨db,0,none⟩),.bool true] w fun e w'=>∃ x t,e=.returned (.tuple #[.pointer (some ⟨x,0,none⟩),.nilIface])∧w.heap.size≤x∧t.St=St∧t.nr=s.bg+1∧t.wrt=true∧t.ch=0∧Kp [St] w w'∧∃ hS':Shop w' kc db St A C N nM s.wrote D l wr nw,LiveT hS'.E w' x A N t s.wrote nw):=hS.beginW hw hbg;have HROOM:=zh hroom;have hsz:=hS.sz;have hkc:=hS.kc1;clear hS hroom;go_enter func19,ntmps19;go_wp2_with fail;refine (show Calls _ _ _ _ _ from HB.out).mono ?_;rintro e w1 ⟨x,t,rfl,hx,ht1,ht2,ht3,ht4,hK1,hS1,hL1⟩;have HW1:Hid (Wrt w1 kc db St A C N nM s.wrote D l wr nw x t nw (s.bg+1)):=⟨hS1,hL1,ht1,ht2,ht3⟩;have HC:Hid (Calls prog 44 #[.pointer (some ⟨x,0,none⟩),.int .i64 a,.int .i64 m,.int .i64 20] w1 fun e w'=>e=.returned (.bool true)∧∃ t' r',Chd HW1.out.shop.E w1 x A N t s.wrote nw m w' t' r'):=jA1 hS1.E x A N t s.wrote nw a m w1 hL1 ht3 ha0 ha1 hm (by omega) (by omega) HROOM.out;have HK1:=zh hK1;have hs1:=hK1.size;clear hS1 hL1 hK1 HB;go_wp2_with fail;refine (show Calls _ _ _ _ _ from HC.out).mono ?_;rintro e w2 ⟨rfl,t',r',hc⟩;obtain⟨hW2,hK2⟩:=HW1.out.chd hc;have HALL:Hid (Calls prog 32 #[.pointer (some ⟨x,0,none⟩)] w2 fun e w'=>∃ v,e=.returned (.tuple #[v,.bool true])∧OPA w' w2.heap.size v (qC0 r'.cont)∧BadT hW2.shop.E w2 w' t' s.wrote):=zC5 hW2.shop.E x A N t' s.wrote r' w2 hW2.live;have HW2:=zh hW2;have HLE:Hid (r'.cont.length≤nw.cont.length+m∧t'.ch≤(m:Int)∧∀ p∈nw.cont,p.k=qF1→p∈r'.cont):=⟨hc.len,by have:=hc.ch;omega,hc.keep⟩;have HK2:Hid (Kp [St,A] w w2):=(HK1.out.mono (by simp)).trans hK2 (by intro i hi hlt;simp at hi ⊢;omega);have hs2:=hK2.size;clear hc hK2 HC;go_wp2_with fail;refine (show Calls _ _ _ _ _ from HALL.out).mono ?_;rintro e w3 ⟨v,rfl,ho,hb⟩;obtain⟨hW3,hK3⟩:=HW2.out.stay hb;have HE:Hid (OPA w3 w.heap.size v (qC0 r'.cont)∧r'.cont.length≤nw.cont.length+m∧t'.ch≤(m:Int)∧(∀ p∈nw.cont,p.k=qF1→p∈r'.cont)∧Kp [St,A] w w3∧Wrt w3 kc db St A C N nM s.wrote D l wr nw x t' r' (s.bg+1)):=⟨qI2 ho (by omega),HLE.out.1,HLE.out.2.1,HLE.out.2.2,HK2.out.tr hK3,hW3⟩;obtain⟨ob,oc,rfl⟩:=qL2 ho;obtain⟨sl,hsl⟩:∃ sl,sl=(qC0 r'.cont).length:=⟨_,rfl⟩;rw[←hsl] at HE ⊢;clear ho hb hW3 hK3 hW2 HALL hsl;go_wp2
 go_ret2
 exact⟨x,t',r',_,rfl,hx,HE.out⟩
end
theorem xE2{n:Nat}{l:Lnk (Tn n)}{W:List (Lnk (Tn n))}(hW:Row0 n l.key W)(hM:Made n l 0 W)(hd:min n 1<cnt n l.sub):∃ m L,qF3 n W=.at m L∧L.ref=none:=by
 rcases hM with⟨a,rfl,e1,e2,e3⟩|⟨a,b,rfl,e1,e2,e3,e4,e5⟩
 ·have e:qF3 n [a]=qS2 n a:=rfl;rw[e]
  cases n with
  | zero=>
   have hc:0<(prs a.sub).length:=by
    have h1:0<(prs l.sub).length:=hd;have h2:(prs l.sub).length≤(prs a.sub).length+0:=e3;omega
   refine⟨0,a,?_,e2⟩;show (match prs a.sub with | []=>Root.none | _::_=>.at 0 a)=_
   cases hp:prs a.sub with
   | nil=>rw[hp] at hc;simp at hc
   | cons x r=>rfl
  | succ n=>
   have hc:(η l.sub).length≤(η a.sub).length+0:=e3;have hc2:1<(η l.sub).length:=by have h2:min (n+1) 1<(η l.sub).length:=hd;omega
   refine⟨n+1,a,?_,e2⟩;show (match η a.sub with | []=>Root.none | [m]=>.at n m | _::_::_=>.at (n+1) a)=_
   cases hp:η a.sub with
   | nil=>rw[hp,List.length_nil] at hc;omega
   | cons x r=>
    cases r with
    | nil=>rw[hp,List.length_cons,List.length_nil] at hc;omega
    | cons y r=>rfl
 ·have h2:meas qA2 [a,b]≤126:=by
   have:=(hW.all a (by simp)).2;have hb:=hW.all b (by simp);simp[meas,qA2];omega
  have e:qD4 n ⟨#[]⟩ [a,b]=[⟨⟨#[]⟩,none,[a,b]⟩]:=by
   unfold qD4 qB7;rw[if_pos h2];rfl
  refine⟨n+1,⟨⟨#[]⟩,none,[a,b]⟩,?_,rfl⟩;show (match qD4 n ⟨#[]⟩ [a,b] with | []=>Root.none | r::_=>qS2 (n+1) r)=_;rw[e];rfl
theorem jK5{r:Root}{p:KV}(h:RGood r)(hp:qC6 p):∃ m L,r.put p=.at m L∧L.ref=none:=by
 cases r with
 | none=>
  have hs:Sorted [p]:=by simp[Sorted]
  have hz:(⟨#[]⟩:ByteArray).size≤8:=by decide
  obtain⟨r1,r2,r3⟩:=qT2 (lo:=⟨#[]⟩) (ps:=[p]) hs (fun q hq=>by rw[List.mem_singleton.1 hq];exact⟨hp,qN4 _⟩) (by obtain⟨h1,h2,h3⟩:=hp;simp[meas,ρ];omega) hz;have hM:Made 0 ⟨⟨#[]⟩,none,[p]⟩ 0 (qD6 ⟨#[]⟩ [p]):=by
   rcases r3 with⟨a,e1,e2,e3,e4⟩|⟨a,b,e1,e2,e3,e4,e5,e6⟩
   ·exact .inl ⟨a,e1,e2,e3,by rw[e4];exact Nat.le_refl _⟩
   ·exact .inr ⟨a,b,e1,e2,e3,e4,e5,e6⟩
  exact xE2 (n:=0) (l:=(⟨⟨#[]⟩,none,[p]⟩:Lnk (List KV))) r1 hM (by show 0<1;omega)
 | «at» n l=>
  obtain⟨h1,h2,h3⟩:=h;obtain⟨w1,w2,w3⟩:=qX1 n l p h2 hp (by rw[h1];exact qN4 _) (by rw[h1];decide) (by omega);exact xE2 w1 w3 h3
theorem jL3{E:Env}{w:World}{h:HL}{m:Nat}{L:Lnk (Tn m)}(hr:RR E w h (.at m L))(hn:L.ref=none):∃ q,h.p=some q:=by
 have h2:=hr.2;rw[hn] at h2;obtain⟨_,_,q,e,_⟩:=h2;exact⟨q,e⟩
def qJ7:ByteArray:=⟨#[111,102,32,97,108,108]⟩
theorem zX0(p:KV)(l:List KV):p∈ins p l:=by simp[ins]
theorem xF1{ps:List KV}{p:KV}(h:p∈ps)(hp:inR ⟨#[]⟩ qM9 p=true):0<(qC0 ps).length:=by
 have h1:p∈ps.filter (inR ⟨#[]⟩ qM9):=List.mem_filter.2 ⟨h,hp⟩;have h2:0<(ps.filter (inR ⟨#[]⟩ qM9)).length:=List.length_pos_of_mem h1;unfold qC0 qE9;rw[List.length_take];have:(1048576:Int).toNat=1048576:=rfl;omega
theorem jD1(Z:Array Value)(n:Nat)(h:Z.size=n)(h0:∀ v∈Z.toList,v=.int .u8 0):Z=enc (List.replicate n 0):=by
 apply Array.ext';have e:Z.toList=List.replicate n (.int .u8 0):=List.eq_replicate_iff.2 ⟨by simpa using h,h0⟩;rw[e];simp[enc,qD5]
theorem jC8(m:Nat)(h:8≤m):Fresh (List.replicate (m*128) 0):=by
 have e0:min 128 (m*128-0*128)=128:=by omega
 have e1:min 128 (m*128-1*128)=128:=by omega
 exact⟨by rw[qB3,List.drop_replicate,List.take_replicate,e0];rfl,by rw[qB3,List.drop_replicate,List.take_replicate,e1];rfl⟩
theorem jM5{w:World}{kc db St V M A C N:Nat}{Nh:Int}{l:List UInt8}{calls wr:Int}(hA:w.heap[A]?=some (ψ N C (.slice none 0 0) calls wr))(hV:w.heap[V]?=some (qC1 A N))(hM:w.heap[M]?=some (.map #[] 0))(hSt:w.heap[St]?=some (ν 0 (qI3 V M Nh)))(hDb:w.heap[db]?=some (.cells #[.pointer (some ⟨St,0,none⟩)] 102))(hC:w.heap[C]?=some (.cells (enc l) 115))(h8:8≤N)(h4:N≤400)(hl:l.length=N*128)(hk:kc≤900)(hN:0≤Nh):
  Shop w kc db St A C N 0 (qI3 V M Nh) (.map []) l wr .none:=
 { hDb:=hDb,hSt:=hSt,po:=rfl,hM:=⟨#[],0,hM,⟨by simp,MapKept.stamped_empty 0,by simp⟩,Nat.le_refl _,rfl⟩,m4:=by simp[Maps.size],n1:=by omega,dev:=⟨hV,⟨_,hA⟩,hC⟩,N8:=h8,N4:=h4,len:=hl,lie:=⟨rfl,rfl⟩,good:=trivial,sz:=by simp[Root.cont],kc1:=hk,bl0:=Int.le_refl _,bl1:=by simp[Root.cont,qI3],sN0:=hN,bg0:=Int.le_refl _,kb:=fun k hk=>by simp[Maps.has] at hk,rd:=fun x h hk=>by simp[Maps.has] at hk }
def emp:DataW Unit:=.map []
theorem xF7(k:Lit):emp.del k=emp:=by simp[emp,DataW.del]
theorem xF6(n:Int)(v:DataW Unit):(emp.put (qA0 n) v).del (qA0 n)=emp:=by
 simp[emp,DataW.put,DataW.del,DataW.insert,qA0,Lit.sameKey]
section
variable {w:World} {kc db St A C N nM:Nat} {s:Sto} {D:DataW Unit} {l:List UInt8} {wr:Int} {nw:Root}
theorem Wrt.put{x:Nat}{t:Tx}{r:Root}{nr:Int}(h:Wrt w kc db St A C N nM s D l wr nw x t r nr){w':World}{p:KV}{h':HL}(hF:FineT h.shop.E w w' x t s (r.put p) h')(hp:qC6 p)(hc:t.ch≤10000000)(hr:r.cont.length≤10000):Wrt w' kc db St A C N nM s D l wr nw x { t with h:=h',ch:=t.ch+1 } (r.put p) nr∧Kp [St,x,A] w w'∧(r.put p).cont=ins p r.cont∧∃ q,h'.p=some q:=by
 obtain⟨g1,g2⟩:=qP1 (p:=p) h.live.good hp;have hl:(r.put p).cont.length≤r.cont.length+1:=by rw[g2];exact qN3 _ _
 obtain⟨m,L,e1,e2⟩:=jK5 (p:=p) h.live.good hp;have hq:∃ q,h'.p=some q:=by
  have hrr:=hF.rr;rw[e1] at hrr;exact jL3 hrr e2
 obtain⟨a1,a2⟩:=h.turn (t':={ t with h:=h',ch:=t.ch+1 }) (r':=r.put p) (h.live.next hF g1 (by omega) (by omega)) rfl rfl rfl hF.kp;exact⟨a1,a2,g2,hq⟩
end
theorem zX2(N kc:Nat)(h100:100≤N)(h400:N≤400)(hk1:100≤kc)(hk9:kc≤900)(a:Int)(ha0:-9223372036854775808≤a)(ha1:a≤9223372036854775807)(w:World):
  Calls prog 18 #[.int .i64 N,.int .i64 a] w fun e w'=>∃ db St A C s l wr nw v,e=.returned (.tuple #[.pointer (some ⟨A,0,none⟩),.pointer (some ⟨db,0,none⟩),v])∧Shop w' kc db St A C N 1 s emp l wr nw∧OPA w' w.heap.size v (qC0 nw.cont)∧s.wr=0∧s.bg=2∧s.N≤10∧nw.cont.length≤43∧(⟨qF1,qJ7⟩:KV)∈nw.cont∧w.heap.size≤A∧w.heap.size≤C∧w.heap.size≤St∧w.heap.size≤db∧w.heap.size≤s.M∧Kp [] w w':=by
 go_enter func18,ntmps18;go_wp2_with fail;refine (xG1 N w (by omega) (N:Int) (by omega) (by omega)).mono ?_;rintro e w1 ⟨rfl,Z,hZ,hZ0,hw1⟩;rw[jD1 Z _ hZ hZ0] at hw1;have hC1:w1.heap[w.heap.size]?=some (.cells (enc (List.replicate (N*128) 0)) 115):=by rw[hw1];exact θ _ (κ _ _)
 have hA1:w1.heap[w.heap.size+1]?=some (ψ N w.heap.size (.slice none 0 0) 0 0):=by
  rw[hw1];have e:=κ (w.alloc (.cells (enc (List.replicate (N*128) 0)) 115)) (ψ N w.heap.size (.slice none 0 0) 0 0);simpa using e
 have hK1:Kp [] w w1:=by rw[hw1];exact ((Kp.refl _ _).alloc _).alloc _
 clear hw1 hZ hZ0 Z;have HF:Hid (Calls prog 42 #[.pointer (some ⟨w.heap.size+1,0,none⟩)] w1 fun e w'=>e=.returned .nilIface∧w'.heap[w.heap.size+1]?=some (ψ N w.heap.size (.slice none 0 0) (0+6) (0+2))∧w'.heap[w.heap.size]?=some (.cells (enc (qN2 (List.replicate (N*128) 0) 0)) 115)∧Kp [w.heap.size+1,w.heap.size] w1 w'):=
  xV5 (w.heap.size+1) N w.heap.size 0 0 (List.replicate (N*128) 0) 0 w1 hA1 (by omega) (by omega) (by omega) (by omega) (by omega) h400 hC1 (by simp) (by omega) (Or.inl ⟨jC8 N (by omega),rfl⟩) (by omega) (by omega) (by omega)
 have HK1:=zh hK1;clear hC1 hA1 hK1;go_wp2_with fail;refine (show Calls _ _ _ _ _ from HF.out).mono ?_;rintro e w2 ⟨rfl,hA2,hC2,hK2⟩;have hfl:(qN2 (List.replicate (N*128) 0) 0).length=N*128:=by rw[xV3 _ _ (by simp;omega)];simp
 have hfm:=xV4 (List.replicate (N*128) 0) 0 (by simp;omega) (by omega) (by omega) (by omega);obtain⟨l,hl⟩:∃ l,l=qN2 (List.replicate (N*128) 0) 0:=⟨_,rfl⟩;rw[←hl] at hC2 hfl hfm;have HK2:Hid (Kp [] w w2):=HK1.out.trans hK2 (by intro i hi hlt;simp at hi;omega);have HO:Hid (Calls prog 43 #[.pointer (some ⟨w.heap.size+1,0,none⟩)] w2 fun e w'=>∃ V M St Db,e=.returned (.tuple #[.pointer (some ⟨Db,0,none⟩),.nilIface])∧w2.heap.size≤V∧w2.heap.size≤M∧w2.heap.size≤St∧w2.heap.size≤Db∧
   w'.heap[w.heap.size+1]?=some (ψ N w.heap.size (.slice none 0 0) (0+6+3) (0+2))∧w'.heap[V]?=some (qC1 (w.heap.size+1) N)∧w'.heap[M]?=some (.map #[] 0)∧w'.heap[St]?=some (ν 0 (qI3 V M (0+2)))∧w'.heap[Db]?=some (.cells #[.pointer (some ⟨St,0,none⟩)] 102)∧Kp [w.heap.size+1] w2 w'):=
  jI8 (w.heap.size+1) N w.heap.size (0+6) (0+2) l (0+2) w2 hA2 (by omega) (by omega) (by omega) h400 hC2 hfl (by omega) hfm
 have HC2:Hid (w2.heap[w.heap.size]?=some (.cells (enc l) 115)∧l.length=N*128):=⟨hC2,hfl⟩;clear hA2 hC2 hK2 hfl hfm hl HF;go_wp2_with fail;refine (show Calls _ _ _ _ _ from HO.out).mono ?_;rintro e w3 ⟨V,M,St,db,rfl,hV3,hM3,hS3,hD3,hA3,hVo,hMo,hSo,hDo,hK3⟩;have hs2:=HK2.out.size;have hshop:Shop w3 kc db St (w.heap.size+1) w.heap.size N 0 (qI3 V M (0+2)) emp l (0+2) .none:=jM5 hA3 hVo hMo hSo hDo (hK3.hp HC2.out.1) (by omega) h400 HC2.out.2 hk9 (by omega);have HS3:=zh hshop;have HK3:Hid (Kp [] w w3):=HK2.out.trans hK3 (by intro i hi hlt;simp at hi;omega);clear hA3 hVo hMo hSo hDo hK3 hshop HO HC2;go_wp2_with fail;refine (qZ9 a 40 ha0 ha1 (by omega) (by omega) w3).mono ?_;rintro e w3' ⟨⟨k,rfl,hk0,hk40⟩,hw3⟩;rw[hw3];clear hw3 w3';obtain⟨m,hm⟩:∃ m:Nat,(m:Int)=3+k:=⟨(3+k).toNat,by omega⟩;have hwr3:wrap64 (3+k)=(m:Int):=by simp only[wrap64];omega
 have HW:Hid (Calls prog 19 #[.pointer (some ⟨db,0,none⟩),.int .i64 a,.int .i64 m] w3 fun e w'=>∃ x t r v,e=.returned (.tuple #[.pointer (some ⟨x,0,none⟩),v])∧w3.heap.size≤x∧OPA w' w3.heap.size v (qC0 r.cont)∧r.cont.length≤m∧t.ch≤(m:Int)∧Kp [St,w.heap.size+1] w3 w'∧Wrt w' kc db St (w.heap.size+1) w.heap.size N 0 (qI3 V M (0+2)).wrote emp l (0+2) .none x t r (0+1)):=by
  have h:=zG1 HS3.out rfl (by show (0:Int)≤_;omega) a ha0 ha1 m (by omega) (fun r' hg hz=>by
   have h1:=qS6 hg;have hz':r'.cont.length≤0+m:=hz;have h3:((qI3 V M (0+2)).bl:Int)=0:=rfl;rw[h3];omega)
  refine h.mono ?_;rintro e w' ⟨x,t,r,v,c1,c2,c3,c4,c5,_,c6,c7⟩;have c4':r.cont.length≤0+m:=c4;exact⟨x,t,r,v,c1,c2,c3,by omega,c5,c6,c7⟩
 clear hwr3;rw[hm] at HW;have HM:=zh hm;clear hm;go_wp2_with fail;refine (show Calls _ _ _ _ _ from HW.out).mono ?_;rintro e w4 ⟨x,t,r,v0,rfl,hx4,_,hr4,hc4,hK4,hW4⟩;have hm:=HM.out;have hp:qC6 ⟨qF1,qJ7⟩:=⟨by decide,by decide,by decide⟩;have HP:Hid (Calls prog 34 #[.pointer (some ⟨x,0,none⟩),.string ⟨#[102,105,114,115,116]⟩,.string ⟨#[111,102,32,97,108,108]⟩] w4 fun e w'=>e=.returned .nilIface∧∃ h',FineT hW4.shop.E w4 w' x t (qI3 V M (0+2)).wrote (r.put ⟨qF1,qJ7⟩) h'):=by
  refine xC2 hW4.shop.E x _ N t _ r ⟨qF1,qJ7⟩ w4 hW4.live hW4.wrt hp ?_;obtain⟨g1,g2⟩:=qP1 (p:=⟨qF1,qJ7⟩) hW4.live.good hp;have h1:=qS6 g1;have h2:=qN3 ⟨qF1,qJ7⟩ r.cont;rw[g2] at h1;show _≤(N:Int)-2-0;omega
 have HW4:=zh hW4;have hs3:=HK3.out.size;have HK4:Hid (Kp [] w w4):=HK3.out.trans hK4 (by intro i hi hlt;simp at hi;omega);clear hK4 HW HS3;go_wp2_with fail;refine (show Calls _ _ _ _ _ from HP.out).mono ?_;rintro e w5 ⟨rfl,h',hF⟩;obtain⟨hW5,hK5,hcn,q,hq⟩:=hW4.put hF hp (by omega) (by omega);obtain⟨t5,ht5⟩:∃ t5:Tx,t5={ t with h:=h',ch:=t.ch+1 }:=⟨_,rfl⟩;rw[←ht5] at hW5;have hq5:t5.h.p=some q:=by rw[ht5];exact hq
 obtain⟨r5,hr5⟩:∃ r5,r5=r.put ⟨qF1,qJ7⟩:=⟨_,rfl⟩;rw[←hr5] at hW5 hcn;have hl5:r5.cont.length≤m+1:=by rw[hcn];have:=qN3 ⟨qF1,qJ7⟩ r.cont;omega
 have hin5:(⟨qF1,qJ7⟩:KV)∈r5.cont:=by rw[hcn];exact zX0 _ _
 have hpos:0<(qC0 r5.cont).length:=by rw[hcn];exact xF1 (zX0 _ _) (by kernel_rfl)
 have HALL:Hid (Calls prog 32 #[.pointer (some ⟨x,0,none⟩)] w5 fun e w'=>∃ v,e=.returned (.tuple #[v,.bool true])∧OPA w' w5.heap.size v (qC0 r5.cont)∧BadT hW5.shop.E w5 w' t5 (qI3 V M (0+2)).wrote):=zC5 hW5.shop.E x _ N t5 _ r5 w5 hW5.live;have hs4:=HK4.out.size;have HK5:Hid (Kp [] w w5):=HK4.out.trans hK5 (by intro i hi hlt;simp at hi;omega);have HW5:=zh hW5;clear hW4 hF hK5 hcn hq ht5 hr5 HP HW4 HK4;go_wp2_with fail;refine (show Calls _ _ _ _ _ from HALL.out).mono ?_;rintro e w6 ⟨v,rfl,ho6,hb6⟩;obtain⟨hW6,hK6⟩:=HW5.out.stay hb6;have hs5:=HK5.out.size;have HK6:Hid (Kp [] w w6):=HK5.out.trans hK6 (by intro i hi hlt;simp at hi;omega);have HC:Hid (Calls prog 31 #[.pointer (some ⟨x,0,none⟩)] w6 fun e w'=>e=.returned .nilIface∧∃ s' l' nt,Shop w' kc db St (w.heap.size+1) w.heap.size N 0 s' (emp.del (qA0 t5.nr)) l' (nx (nk (nx (0+2)) r5.news)) nt∧nt.cont=r5.cont∧s'.N=(0+2)+2∧s'.bg=0+1∧s'.wr=((qI3 V M (0+2)).wrote.left t5.nr).wr∧s'.V=V∧s'.M=M∧Kp [St,x,M,w.heap.size+1,w.heap.size] w6 w'):=by
  have h1:=qS6 hW6.live.good;have h2:=zB1 hW6.live.good;refine (hW6.shop.commit hW6.live hW6.st hW6.wrt (by rw[hW6.nr];omega) (by rw[hW6.nr];omega) hq5 (by omega) (by show (0+2:Int)≤_;omega) (by show _+_+0*kc+0+2≤N;omega)).mono ?_;rintro e w' ⟨c0,s',l',nt,c1,c2,c3,c4,c5,c6,c7,_,c8,_⟩;exact⟨c0,s',l',nt,c1,c2,c3,c4,c5,c6,c7,c8⟩
 have HO6:Hid (OPA w6 w.heap.size v (qC0 r5.cont)):=qI2 ho6 (by omega);have HN6:Hid (∀ k∈[St,x,M,w.heap.size+1,w.heap.size],∀ c fr,w6.heap[k]?≠some (.cells c 42 fr)):=by
  show ∀ k∈[St,x,M,w.heap.size+1,w.heap.size],∀ c fr,w6.heap[k]?≠some (.cells c 42 fr);intro k hk c fr e;obtain⟨cA,hA⟩:=hW6.shop.hA;simp only[List.mem_cons,List.not_mem_nil,or_false] at hk;rcases hk with rfl|rfl|rfl|rfl|rfl
  ·rw[hW6.shop.hSt] at e;simp[ν] at e
  ·rw[hW6.live.hx] at e;simp[χ] at e
  ·exact absurd rfl (qF2 e hW6.shop.hM)
  ·rw[hA] at e;simp[ψ] at e
  ·rw[hW6.shop.dev.hC] at e;simp at e
 have HNR:=zh hW6.nr;obtain⟨ob,oc,rfl⟩:=qL2 ho6;obtain⟨sl,hsl⟩:∃ sl,sl=(qC0 r5.cont).length:=⟨_,rfl⟩;rw[←hsl] at HO6 hpos ⊢;have HSL:=zh hsl;clear ho6 hb6 hW6 hK6 HALL HW5 HK5 hsl hW5;go_wp2_with fail;refine (show Calls _ _ _ _ _ from HC.out).mono ?_;rintro e w7 ⟨rfl,s',l',nt,hS7,e1,e2,e3,e4,e5,e6,hK7⟩;rw[xF7] at hS7;have hs6:=HK6.out.size;have hw7:s'.wr=0:=by rw[e4];show (if t5.nr=0+1 then 0 else _)=(0:Int);rw[if_pos HNR.out]
 have HO7:Hid (OPA w7 w.heap.size (.slice ob sl oc) (qC0 nt.cont)):=by rw[e1];exact OPA.keep HO6.out hK7 HN6.out
 have HK7:Hid (Kp [] w w7):=HK6.out.trans hK7 (by intro i hi hlt;simp at hi;omega);have HNOW:Hid (Calls prog 30 #[.pointer (some ⟨db,0,none⟩)] w7 fun e w'=>∃ v,e=.returned (.tuple #[v,.bool true])∧OPA w' w7.heap.size v (qC0 nt.cont)∧Shop w' kc db St (w.heap.size+1) w.heap.size N (0+1) s'.read ((emp.put (qA0 (s'.bg+1)) (qE8 ⟨⟨#[]⟩,s'.rb,s'.rs,none⟩)).del (qA0 (s'.bg+1))) l' (nx (nk (nx (0+2)) r5.news)) nt∧Kp [St,s'.M,w.heap.size+1] w7 w'):=zP7 hS7 (by show 0<4;omega) (by omega) (by omega) (by omega);have HN7:Hid (∀ k∈[St,s'.M,w.heap.size+1],∀ c fr,w7.heap[k]?≠some (.cells c 42 fr)):=by
  show ∀ k∈[St,s'.M,w.heap.size+1],∀ c fr,w7.heap[k]?≠some (.cells c 42 fr);intro k hk c fr e;obtain⟨cA,hA⟩:=hS7.hA;simp only[List.mem_cons,List.not_mem_nil,or_false] at hk;rcases hk with rfl|rfl|rfl
  ·rw[hS7.hSt] at e;simp[ν] at e
  ·exact absurd rfl (qF2 e hS7.hM)
  ·rw[hA] at e;simp[ψ] at e
 have HNT:Hid (nt.cont.length≤43∧(qC0 nt.cont).length=sl∧(⟨qF1,qJ7⟩:KV)∈nt.cont):=⟨by rw[e1];omega,by rw[e1];exact HSL.out.symm,by rw[e1];exact hin5⟩;have HS':Hid (s'.N=0+2+2∧s'.bg=0+1∧s'.wr=0∧s'.M=M):=⟨e2,e3,hw7,e6⟩;clear hS7 e1 e2 e3 e4 e5 e6 hK7 HC HO6 HN6 HK6 hw7 hq5;go_wp2_with fail;refine (show Calls _ _ _ _ _ from HNOW.out).mono ?_;rintro e w8 ⟨v8,rfl,ho8,hS8,hK8⟩;rw[xF6] at hS8;have hs7:=HK7.out.size;have HO8:Hid (OPA w8 w.heap.size (.slice ob sl oc) (qC0 nt.cont)):=OPA.keep HO7.out hK8 HN7.out;have HK8:Hid (Kp [] w w8):=HK7.out.trans hK8 (by intro i hi hlt;have:=HS'.out.2.2.2;simp at hi;omega);have hal:(qC0 nt.cont).length≤1000000:=by
  have h1:=HNT.out.1;have h2:(qC0 nt.cont).length≤nt.cont.length:=by
   unfold qC0 qE9;rw[List.length_take];have:=List.length_filter_le (inR ⟨#[]⟩ qM9) nt.cont;omega
  omega
 have HSAME:Hid (Calls prog 33 #[.slice ob sl oc,v8] w8 fun e w'=>e=.returned (.bool true)∧Kp [] w8 w'):=zP8 _ _ _ _ (qC0 nt.cont) w8 HO8.out ho8 hal;have HS8:=zh hS8;obtain⟨ob8,oc8,rfl⟩:=qL2 ho8;rw[HNT.out.2.1] at HSAME ⊢;clear ho8 hS8 hK8 HNOW HO7 HN7 HK7;go_wp2_with fail;refine (show Calls _ _ _ _ _ from HSAME.out).mono ?_;rintro e w9 ⟨rfl,hK9⟩;have HE:Hid (Shop w9 kc db St (w.heap.size+1) w.heap.size N 1 s'.read emp l' (nx (nk (nx (0+2)) r5.news)) nt∧OPA w9 w.heap.size (.slice ob sl oc) (qC0 nt.cont)∧Kp [] w w9):=by
  have e2:=HS8.out;exact⟨e2.turn hK9 (by simp) (qM1 e2.dev hK9 (by intro k hk;cases hk)) ⟨rfl,rfl,rfl,rfl,rfl,rfl⟩ (hK9.hp e2.hSt) (e2.hM.kp hK9 (by simp)) e2.m4 e2.n1 e2.bg0 e2.kb e2.rd,OPA.keep HO8.out hK9 (by simp),HK8.out.tr hK9⟩
 have hsl0:¬(sl:Int)=0:=by omega
 clear hK9 HSAME HO8 HK8 HS8;go_wp2
 go_ret3
 obtain⟨f1,f2,f3⟩:=HE.out;obtain⟨g1,g2,g3,g4⟩:=HS'.out;exact⟨db,St,w.heap.size+1,w.heap.size,s'.read,l',_,nt,_,rfl,f1,f2,g3,by show s'.bg+1=2;omega,by show s'.N≤10;omega,HNT.out.1,HNT.out.2.2,by omega,by omega,by omega,by omega,by show w.heap.size≤s'.M;rw[g4];omega,f3⟩
theorem Kp.zero{w w':World}(h:Kp [] w w')(h0:0<w.heap.size)(hg:w.cell? ⟨0,0,none⟩=some qK2):w'.cell? ⟨0,0,none⟩=some qK2:=by
 have e:=h.block 0 h0 (by simp);unfold World.cell? at hg ⊢;simp only at hg ⊢;rw[e];exact hg
section
variable {w:World} {kc db St A C N nM:Nat} {s:Sto} {D:DataW Unit} {l:List UInt8} {wr:Int} {nw:Root}
theorem Shop.more(hS:Shop w kc db St A C N nM s D l wr nw){w':World}(hK:Kp [] w w'):Shop w' kc db St A C N nM s D l wr nw:=
 hS.turn hK (by simp) (qM1 hS.dev hK (by intro k hk;cases hk)) ⟨rfl,rfl,rfl,rfl,rfl,rfl⟩ (hK.hp hS.hSt) (hS.hM.kp hK (by simp)) hS.m4 hS.n1 hS.bg0 hS.kb hS.rd
end
end Go.Proofs.YtdohpenfkdckiaaGreatDoor
