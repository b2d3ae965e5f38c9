import Derived.Test.YtdohpenfkdckiaaGreatDoorJ19
import Derived.Test.YtdohpenfkdckiaaGreatDoorJ04
import Derived.Test.YtdohpenfkdckiaaGreatDoorJ06
import Derived.Test.YtdohpenfkdckiaaGreatDoorRows
import Derived.ChangeSame
import Derived.ChangeVars
import Derived.JoinedOf
import Derived.RowKit
import Derived.RowKitTokens
import Derived.LaidLaws
import Derived.LaidHandle
import Derived.Carry
import Derived.Deep.Slices
import Derived.Stop.Joined
import Derived.Lay
set_option linter.all false
set_option maxRecDepth 100000
set_option maxHeartbeats 20000000
namespace Go.Proofs.YtdohpenfkdckiaaGreatDoor
open Go.Proofs.Tryz
open Go.RowKit
section
variable {w:World} {kc db St A C N nM:Nat} {s:Sto} {D:DataW Unit} {l:List UInt8} {wr:Int} {nw:Root}
structure Wrt(w:World)(kc db St A C N nM:Nat)(s:Sto)(D:DataW Unit)(l:List UInt8)(wr:Int)(nw:Root)(x:Nat)(t:Tx)(r:Root)(nr:Int):Prop where
 shop:Shop w kc db St A C N nM s D l wr nw
 live:LiveT shop.E w x A N t s r
 st:t.St=St
 nr:t.nr=nr
 wrt:t.wrt=true
theorem Wrt.stay{x:Nat}{t:Tx}{r:Root}{nr:Int}(h:Wrt w kc db St A C N nM s D l wr nw x t r nr){w':World}(hb:BadT h.shop.E w w' t s):Wrt w' kc db St A C N nM s D l wr nw x t r nr∧Kp [St,A] w w':=by
 have hK:Kp [St,A] w w':=hb.kp.mono (by
  intro i hi _;rw[h.st] at hi;rcases List.mem_cons.1 hi with h|h
  ·simp[h]
  ·have h':i∈[A]:=h;simp at h';simp[h'])
 have hS:=h.shop.quiet h.live.hx (hK.mono (by simp +contextual)) hb.dev (by have:=hb.hSt;rw[h.st] at this;exact this);exact⟨⟨hS,h.live.stay hb,h.st,h.nr,h.wrt⟩,hK⟩
theorem Wrt.chd{x:Nat}{t:Tx}{r:Root}{nr:Int}(h:Wrt w kc db St A C N nM s D l wr nw x t r nr){w':World}{t':Tx}{r':Root}{j:Nat}(hc:Chd h.shop.E w x A N t s r j w' t' r'):Wrt w' kc db St A C N nM s D l wr nw x t' r' nr∧Kp [St,x,A] w w':=by
 have hK:Kp [St,x,A] w w':=hc.kp.mono (by
  intro i hi _;rw[h.st] at hi;rcases List.mem_cons.1 hi with h|hi
  ·simp[h]
  ·rcases List.mem_cons.1 hi with h|h
   ·simp[h]
   ·have h':i∈[A]:=h;simp at h';simp[h'])
 have hS:=h.shop.quiet h.live.hx hK hc.live.dev (by have:=hc.live.hSt;rw[hc.st,h.st] at this;exact this);exact⟨⟨hS,hc.live,hc.st.trans h.st,hc.nr.trans h.nr,hc.wrt.trans h.wrt⟩,hK⟩
theorem zQ7(hS:Shop w kc db St A C N nM s D l wr nw)(hw:s.wr=0)(hbg:s.bg≤100000000)(a:Int)(ha0:-9223372036854775808≤a)(ha1:a≤9223372036854775807)(m:Nat)(hm:m≤1000)
  (hroom:∀ r':Root,RGood r'→r'.cont.length≤nw.cont.length+m→(r'.news:Int)≤(N:Int)-2-s.bl):
  Calls prog 19 #[.pointer (some ⟨db,0,none⟩),.int .i64 a,.int .i64 m] w fun e w'=>∃ x t r v,e=.returned (.tuple #[.pointer (some ⟨x,0,none⟩),v])∧w.heap.size≤x∧OPA w' w.heap.size v (qC6 r.cont)∧r.cont.length≤nw.cont.length+m∧t.ch≤(m:Int)∧Kp [St,A] w w'∧Wrt w' kc db St A C N nM s.wrote D l wr nw x t r (s.bg+1):=by
 have HB:Hid (Calls prog 29 #[.pointer (some ⟨db,0,none⟩),.bool true] w fun e w'=>∃ x t,e=.returned (.tuple #[.pointer (some ⟨x,0,none⟩),.nilIface])∧w.heap.size≤x∧t.St=St∧t.nr=s.bg+1∧t.wrt=true∧t.ch=0∧Kp [St] w w'∧∃ hS':Shop w' kc db St A C N nM s.wrote D l wr nw,LiveT hS'.E w' x A N t s.wrote nw):=hS.beginW hw hbg;have HROOM:=zh hroom;have hsz:=hS.sz;have hkc:=hS.kc1;clear hS hroom;go_enter func19,ntmps19;go_wp2_with fail;refine (show Calls _ _ _ _ _ from HB.out).mono ?_;rintro e w1 ⟨x,t,rfl,hx,ht1,ht2,ht3,ht4,hK1,hS1,hL1⟩;have HW1:Hid (Wrt w1 kc db St A C N nM s.wrote D l wr nw x t nw (s.bg+1)):=⟨hS1,hL1,ht1,ht2,ht3⟩;have HC:Hid (Calls prog 44 #[.pointer (some ⟨x,0,none⟩),.int .i64 a,.int .i64 m,.int .i64 20] w1 fun e w'=>e=.returned (.bool true)∧∃ t' r',Chd HW1.out.shop.E w1 x A N t s.wrote nw m w' t' r'):=zX2 hS1.E x A N t s.wrote nw a m w1 hL1 ht3 ha0 ha1 hm (by omega) (by omega) HROOM.out;have HK1:=zh hK1;have hs1:=hK1.size;clear hS1 hL1 hK1 HB;go_wp2_with fail;refine (show Calls _ _ _ _ _ from HC.out).mono ?_;rintro e w2 ⟨rfl,t',r',hc⟩;obtain⟨hW2,hK2⟩:=HW1.out.chd hc;have HALL:Hid (Calls prog 32 #[.pointer (some ⟨x,0,none⟩)] w2 fun e w'=>∃ v,e=.returned (.tuple #[v,.bool true])∧OPA w' w2.heap.size v (qC6 r'.cont)∧BadT hW2.shop.E w2 w' t' s.wrote):=zF0 hW2.shop.E x A N t' s.wrote r' w2 hW2.live;have HW2:=zh hW2;have HLE:Hid (r'.cont.length≤nw.cont.length+m∧t'.ch≤(m:Int)):=⟨hc.len,by have:=hc.ch;omega⟩;have HK2:Hid (Kp [St,A] w w2):=(HK1.out.mono (by simp)).trans hK2 (by intro i hi hlt;simp at hi ⊢;omega);have hs2:=hK2.size;clear hc hK2 HC;go_wp2_with fail;refine (show Calls _ _ _ _ _ from HALL.out).mono ?_;rintro e w3 ⟨v,rfl,ho,hb⟩;obtain⟨hW3,hK3⟩:=HW2.out.stay hb;have HE:Hid (OPA w3 w.heap.size v (qC6 r'.cont)∧r'.cont.length≤nw.cont.length+m∧t'.ch≤(m:Int)∧Kp [St,A] w w3∧Wrt w3 kc db St A C N nM s.wrote D l wr nw x t' r' (s.bg+1)):=⟨qH2 ho (by omega),HLE.out.1,HLE.out.2,HK2.out.tr hK3,hW3⟩;obtain⟨ob,oc,rfl⟩:=qL0 ho;obtain⟨sl,hsl⟩:∃ sl,sl=(qC6 r'.cont).length:=⟨_,rfl⟩;rw[←hsl] at HE ⊢;clear ho hb hW3 hK3 hW2 HALL hsl;go_wp2
 go_ret2
 exact⟨x,t',r',_,rfl,hx,HE.out⟩
end
theorem zM6{n:Nat}{l:Lnk (Tn n)}{W:List (Lnk (Tn n))}(hW:Row0 n l.key W)(hM:Made n l 0 W)(hd:min n 1<cnt n l.sub):∃ m L,qE4 n W=.at m L∧L.ref=none:=by
 rcases hM with⟨a,rfl,e1,e2,e3⟩|⟨a,b,rfl,e1,e2,e3,e4,e5⟩
 ·have e:qE4 n [a]=qQ3 n a:=rfl;rw[e]
  cases n with
  | zero=>
   have hc:0<(prs a.sub).length:=by
    have h1:0<(prs l.sub).length:=hd;have h2:(prs l.sub).length≤(prs a.sub).length+0:=e3;omega
   refine⟨0,a,?_,e2⟩;show (match prs a.sub with | []=>Root.none | _::_=>.at 0 a)=_
   cases hp:prs a.sub with
   | nil=>rw[hp] at hc;simp at hc
   | cons x r=>rfl
  | succ n=>
   have hc:(η l.sub).length≤(η a.sub).length+0:=e3;have hc2:1<(η l.sub).length:=by have h2:min (n+1) 1<(η l.sub).length:=hd;omega
   refine⟨n+1,a,?_,e2⟩;show (match η a.sub with | []=>Root.none | [m]=>.at n m | _::_::_=>.at (n+1) a)=_
   cases hp:η a.sub with
   | nil=>rw[hp,List.length_nil] at hc;omega
   | cons x r=>
    cases r with
    | nil=>rw[hp,List.length_cons,List.length_nil] at hc;omega
    | cons y r=>rfl
 ·have h2:meas ι [a,b]≤126:=by
   have:=(hW.all a (by simp)).2;have hb:=hW.all b (by simp);simp[meas,ι];omega
  have e:qC9 n ⟨#[]⟩ [a,b]=[⟨⟨#[]⟩,none,[a,b]⟩]:=by
   unfold qC9 qB2;rw[if_pos h2];rfl
  refine⟨n+1,⟨⟨#[]⟩,none,[a,b]⟩,?_,rfl⟩;show (match qC9 n ⟨#[]⟩ [a,b] with | []=>Root.none | r::_=>qQ3 (n+1) r)=_;rw[e];rfl
theorem jA5{r:Root}{p:KV}(h:RGood r)(hp:qC4 p):∃ m L,r.put p=.at m L∧L.ref=none:=by
 cases r with
 | none=>
  have hs:Sorted [p]:=by simp[Sorted]
  have hz:(⟨#[]⟩:ByteArray).size≤8:=by decide
  obtain⟨r1,r2,r3⟩:=qQ8 (lo:=⟨#[]⟩) (ps:=[p]) hs (fun q hq=>by rw[List.mem_singleton.1 hq];exact⟨hp,qM8 _⟩) (by obtain⟨h1,h2,h3⟩:=hp;simp[meas,μ];omega) hz;have hM:Made 0 ⟨⟨#[]⟩,none,[p]⟩ 0 (qD6 ⟨#[]⟩ [p]):=by
   rcases r3 with⟨a,e1,e2,e3,e4⟩|⟨a,b,e1,e2,e3,e4,e5,e6⟩
   ·exact .inl ⟨a,e1,e2,e3,by rw[e4];exact Nat.le_refl _⟩
   ·exact .inr ⟨a,b,e1,e2,e3,e4,e5,e6⟩
  exact zM6 (n:=0) (l:=(⟨⟨#[]⟩,none,[p]⟩:Lnk (List KV))) r1 hM (by show 0<1;omega)
 | «at» n l=>
  obtain⟨h1,h2,h3⟩:=h;obtain⟨w1,w2,w3⟩:=qT3 n l p h2 hp (by rw[h1];exact qM8 _) (by rw[h1];decide) (by omega);exact zM6 w1 w3 h3
theorem xB5{E:Env}{w:World}{h:HL}{m:Nat}{L:Lnk (Tn m)}(hr:RR E w h (.at m L))(hn:L.ref=none):∃ q,h.p=some q:=by
 have h2:=hr.2;rw[hn] at h2;obtain⟨_,_,q,e,_⟩:=h2;exact⟨q,e⟩
def qQ6:ByteArray:=⟨#[102,105,114,115,116]⟩
def qP6:ByteArray:=⟨#[111,102,32,97,108,108]⟩
theorem xH4(p:KV)(l:List KV):p∈ins p l:=by simp[ins]
theorem jC7{ps:List KV}{p:KV}(h:p∈ps)(hp:inR ⟨#[]⟩ qP4 p=true):0<(qC6 ps).length:=by
 have h1:p∈ps.filter (inR ⟨#[]⟩ qP4):=List.mem_filter.2 ⟨h,hp⟩;have h2:0<(ps.filter (inR ⟨#[]⟩ qP4)).length:=List.length_pos_of_mem h1;unfold qC6 qE9;rw[List.length_take];have:(1048576:Int).toNat=1048576:=rfl;omega
theorem jJ7(Z:Array Value)(n:Nat)(h:Z.size=n)(h0:∀ v∈Z.toList,v=.int .u8 0):Z=enc (List.replicate n 0):=by
 apply Array.ext';have e:Z.toList=List.replicate n (.int .u8 0):=List.eq_replicate_iff.2 ⟨by simpa using h,h0⟩;rw[e];simp[enc,qE1]
theorem xQ2(m:Nat)(h:8≤m):Fresh (List.replicate (m*128) 0):=by
 have e0:min 128 (m*128-0*128)=128:=by omega
 have e1:min 128 (m*128-1*128)=128:=by omega
 exact⟨by rw[qB1,List.drop_replicate,List.take_replicate,e0];rfl,by rw[qB1,List.drop_replicate,List.take_replicate,e1];rfl⟩
theorem zX4{w:World}{kc db St V M A C N:Nat}{Nh:Int}{l:List UInt8}{calls wr:Int}(hA:w.heap[A]?=some (χ N C (.slice none 0 0) calls wr))(hV:w.heap[V]?=some (qB5 A N))(hM:w.heap[M]?=some (.map #[] 0))(hSt:w.heap[St]?=some (ν 0 (qH9 V M Nh)))(hDb:w.heap[db]?=some (.cells #[.pointer (some ⟨St,0,none⟩)] 102))(hC:w.heap[C]?=some (.cells (enc l) 115))(h8:8≤N)(h4:N≤400)(hl:l.length=N*128)(hk:kc≤900)(hN:0≤Nh):
  Shop w kc db St A C N 0 (qH9 V M Nh) (.map []) l wr .none:=
 { hDb:=hDb,hSt:=hSt,po:=rfl,hM:=⟨#[],0,hM,⟨by simp,MapKept.stamped_empty 0,by simp⟩,Nat.le_refl _,rfl⟩,m4:=by simp[Maps.size],n1:=by omega,dev:=⟨hV,⟨_,hA⟩,hC⟩,N8:=h8,N4:=h4,len:=hl,lie:=⟨rfl,rfl⟩,good:=trivial,sz:=by simp[Root.cont],kc1:=hk,bl0:=Int.le_refl _,bl1:=by simp[Root.cont,qH9],sN0:=hN,bg0:=Int.le_refl _,kb:=fun k hk=>by simp[Maps.has] at hk,rd:=fun x h hk=>by simp[Maps.has] at hk }
def emp:DataW Unit:=.map []
theorem zP6(k:Lit):emp.del k=emp:=by simp[emp,DataW.del]
theorem zN9(n:Int)(v:DataW Unit):(emp.put (qA6 n) v).del (qA6 n)=emp:=by
 simp[emp,DataW.put,DataW.del,DataW.insert,qA6,Lit.sameKey]
section
variable {w:World} {kc db St A C N nM:Nat} {s:Sto} {D:DataW Unit} {l:List UInt8} {wr:Int} {nw:Root}
theorem Wrt.put{x:Nat}{t:Tx}{r:Root}{nr:Int}(h:Wrt w kc db St A C N nM s D l wr nw x t r nr){w':World}{p:KV}{h':HL}(hF:FineT h.shop.E w w' x t s (r.put p) h')(hp:qC4 p)(hc:t.ch≤10000000)(hr:r.cont.length≤10000):Wrt w' kc db St A C N nM s D l wr nw x { t with h:=h',ch:=t.ch+1 } (r.put p) nr∧Kp [St,x,A] w w'∧(r.put p).cont=ins p r.cont∧∃ q,h'.p=some q:=by
 obtain⟨g1,g2⟩:=qQ2 (p:=p) h.live.good hp;have hl:(r.put p).cont.length≤r.cont.length+1:=by rw[g2];exact qO4 _ _
 obtain⟨m,L,e1,e2⟩:=jA5 (p:=p) h.live.good hp;have hq:∃ q,h'.p=some q:=by
  have hrr:=hF.rr;rw[e1] at hrr;exact xB5 hrr e2
 obtain⟨a1,a2⟩:=h.chd (j:=1) (t':={ t with h:=h',ch:=t.ch+1 }) (r':=r.put p) ⟨h.live.next hF g1 (by omega) (by omega),rfl,rfl,rfl,Int.le_refl _,hl,hF.kp⟩;exact⟨a1,a2,g2,hq⟩
end
theorem jG3(N kc:Nat)(h100:100≤N)(h400:N≤400)(hk1:100≤kc)(hk9:kc≤900)(a:Int)(ha0:-9223372036854775808≤a)(ha1:a≤9223372036854775807)(w:World):
  Calls prog 18 #[.int .i64 N,.int .i64 a] w fun e w'=>∃ db St A C s l wr nw v,e=.returned (.tuple #[.pointer (some ⟨A,0,none⟩),.pointer (some ⟨db,0,none⟩),v])∧Shop w' kc db St A C N 1 s emp l wr nw∧OPA w' w.heap.size v (qC6 nw.cont)∧s.wr=0∧s.bg=2∧s.N≤10∧nw.cont.length≤43∧w.heap.size≤A∧w.heap.size≤C∧w.heap.size≤St∧w.heap.size≤db∧w.heap.size≤s.M∧Kp [] w w':=by
 go_enter func18,ntmps18;go_wp2_with fail;refine (xN3 N w (by omega) (N:Int) (by omega) (by omega)).mono ?_;rintro e w1 ⟨rfl,Z,hZ,hZ0,hw1⟩;rw[jJ7 Z _ hZ hZ0] at hw1;have hC1:w1.heap[w.heap.size]?=some (.cells (enc (List.replicate (N*128) 0)) 115):=by rw[hw1];exact θ _ (κ _ _)
 have hA1:w1.heap[w.heap.size+1]?=some (χ N w.heap.size (.slice none 0 0) 0 0):=by
  rw[hw1];have e:=κ (w.alloc (.cells (enc (List.replicate (N*128) 0)) 115)) (χ N w.heap.size (.slice none 0 0) 0 0);simpa using e
 have hK1:Kp [] w w1:=by rw[hw1];exact ((Kp.refl _ _).alloc _).alloc _
 clear hw1 hZ hZ0 Z;have HF:Hid (Calls prog 42 #[.pointer (some ⟨w.heap.size+1,0,none⟩)] w1 fun e w'=>e=.returned .nilIface∧w'.heap[w.heap.size+1]?=some (χ N w.heap.size (.slice none 0 0) (0+6) (0+2))∧w'.heap[w.heap.size]?=some (.cells (enc (qL8 (List.replicate (N*128) 0) 0)) 115)∧Kp [w.heap.size+1,w.heap.size] w1 w'):=
  xJ3 (w.heap.size+1) N w.heap.size 0 0 (List.replicate (N*128) 0) 0 w1 hA1 (by omega) (by omega) (by omega) (by omega) (by omega) h400 hC1 (by simp) (by omega) (Or.inl ⟨xQ2 N (by omega),rfl⟩) (by omega) (by omega) (by omega)
 have HK1:=zh hK1;clear hC1 hA1 hK1;go_wp2_with fail;refine (show Calls _ _ _ _ _ from HF.out).mono ?_;rintro e w2 ⟨rfl,hA2,hC2,hK2⟩;have hfl:(qL8 (List.replicate (N*128) 0) 0).length=N*128:=by rw[xA9 _ _ (by simp;omega)];simp
 have hfm:=xD5 (List.replicate (N*128) 0) 0 (by simp;omega) (by omega) (by omega) (by omega);obtain⟨l,hl⟩:∃ l,l=qL8 (List.replicate (N*128) 0) 0:=⟨_,rfl⟩;rw[←hl] at hC2 hfl hfm;have HK2:Hid (Kp [] w w2):=HK1.out.trans hK2 (by intro i hi hlt;simp at hi;omega);have HO:Hid (Calls prog 43 #[.pointer (some ⟨w.heap.size+1,0,none⟩)] w2 fun e w'=>∃ V M St Db,e=.returned (.tuple #[.pointer (some ⟨Db,0,none⟩),.nilIface])∧w2.heap.size≤V∧w2.heap.size≤M∧w2.heap.size≤St∧w2.heap.size≤Db∧
   w'.heap[w.heap.size+1]?=some (χ N w.heap.size (.slice none 0 0) (0+6+3) (0+2))∧w'.heap[V]?=some (qB5 (w.heap.size+1) N)∧w'.heap[M]?=some (.map #[] 0)∧w'.heap[St]?=some (ν 0 (qH9 V M (0+2)))∧w'.heap[Db]?=some (.cells #[.pointer (some ⟨St,0,none⟩)] 102)∧Kp [w.heap.size+1] w2 w'):=
  xP5 (w.heap.size+1) N w.heap.size (0+6) (0+2) l (0+2) w2 hA2 (by omega) (by omega) (by omega) h400 hC2 hfl (by omega) hfm
 have HC2:Hid (w2.heap[w.heap.size]?=some (.cells (enc l) 115)∧l.length=N*128):=⟨hC2,hfl⟩;clear hA2 hC2 hK2 hfl hfm hl HF;go_wp2_with fail;refine (show Calls _ _ _ _ _ from HO.out).mono ?_;rintro e w3 ⟨V,M,St,db,rfl,hV3,hM3,hS3,hD3,hA3,hVo,hMo,hSo,hDo,hK3⟩;have hs2:=HK2.out.size;have hshop:Shop w3 kc db St (w.heap.size+1) w.heap.size N 0 (qH9 V M (0+2)) emp l (0+2) .none:=zX4 hA3 hVo hMo hSo hDo (hK3.hp HC2.out.1) (by omega) h400 HC2.out.2 hk9 (by omega);have HS3:=zh hshop;have HK3:Hid (Kp [] w w3):=HK2.out.trans hK3 (by intro i hi hlt;simp at hi;omega);clear hA3 hVo hMo hSo hDo hK3 hshop HO HC2;go_wp2_with fail;refine (zE1 a 40 ha0 ha1 (by omega) (by omega) w3).mono ?_;rintro e w3' ⟨⟨k,rfl,hk0,hk40⟩,hw3⟩;rw[hw3];clear hw3 w3';obtain⟨m,hm⟩:∃ m:Nat,(m:Int)=3+k:=⟨(3+k).toNat,by omega⟩;have hwr3:wrap64 (3+k)=(m:Int):=by simp only[wrap64];omega
 have HW:Hid (Calls prog 19 #[.pointer (some ⟨db,0,none⟩),.int .i64 a,.int .i64 m] w3 fun e w'=>∃ x t r v,e=.returned (.tuple #[.pointer (some ⟨x,0,none⟩),v])∧w3.heap.size≤x∧OPA w' w3.heap.size v (qC6 r.cont)∧r.cont.length≤m∧t.ch≤(m:Int)∧Kp [St,w.heap.size+1] w3 w'∧Wrt w' kc db St (w.heap.size+1) w.heap.size N 0 (qH9 V M (0+2)).wrote emp l (0+2) .none x t r (0+1)):=by
  have h:=zQ7 HS3.out rfl (by show (0:Int)≤_;omega) a ha0 ha1 m (by omega) (fun r' hg hz=>by
   have h1:=qT8 hg;have hz':r'.cont.length≤0+m:=hz;have h3:((qH9 V M (0+2)).bl:Int)=0:=rfl;rw[h3];omega)
  refine h.mono ?_;rintro e w' ⟨x,t,r,v,c1,c2,c3,c4,c5,c6,c7⟩;have c4':r.cont.length≤0+m:=c4;exact⟨x,t,r,v,c1,c2,c3,by omega,c5,c6,c7⟩
 clear hwr3;rw[hm] at HW;have HM:=zh hm;clear hm;go_wp2_with fail;refine (show Calls _ _ _ _ _ from HW.out).mono ?_;rintro e w4 ⟨x,t,r,v0,rfl,hx4,_,hr4,hc4,hK4,hW4⟩;have hm:=HM.out;have hp:qC4 ⟨qQ6,qP6⟩:=⟨by decide,by decide,by decide⟩;have HP:Hid (Calls prog 34 #[.pointer (some ⟨x,0,none⟩),.string ⟨#[102,105,114,115,116]⟩,.string ⟨#[111,102,32,97,108,108]⟩] w4 fun e w'=>e=.returned .nilIface∧∃ h',FineT hW4.shop.E w4 w' x t (qH9 V M (0+2)).wrote (r.put ⟨qQ6,qP6⟩) h'):=by
  refine zI0 hW4.shop.E x _ N t _ r ⟨qQ6,qP6⟩ w4 hW4.live hW4.wrt hp ?_;obtain⟨g1,g2⟩:=qQ2 (p:=⟨qQ6,qP6⟩) hW4.live.good hp;have h1:=qT8 g1;have h2:=qO4 ⟨qQ6,qP6⟩ r.cont;rw[g2] at h1;show _≤(N:Int)-2-0;omega
 have HW4:=zh hW4;have hs3:=HK3.out.size;have HK4:Hid (Kp [] w w4):=HK3.out.trans hK4 (by intro i hi hlt;simp at hi;omega);clear hK4 HW HS3;go_wp2_with fail;refine (show Calls _ _ _ _ _ from HP.out).mono ?_;rintro e w5 ⟨rfl,h',hF⟩;obtain⟨hW5,hK5,hcn,q,hq⟩:=hW4.put hF hp (by omega) (by omega);obtain⟨t5,ht5⟩:∃ t5:Tx,t5={ t with h:=h',ch:=t.ch+1 }:=⟨_,rfl⟩;rw[←ht5] at hW5;have hq5:t5.h.p=some q:=by rw[ht5];exact hq
 obtain⟨r5,hr5⟩:∃ r5,r5=r.put ⟨qQ6,qP6⟩:=⟨_,rfl⟩;rw[←hr5] at hW5 hcn;have hl5:r5.cont.length≤m+1:=by rw[hcn];have:=qO4 ⟨qQ6,qP6⟩ r.cont;omega
 have hpos:0<(qC6 r5.cont).length:=by rw[hcn];exact jC7 (xH4 _ _) (by kernel_rfl)
 have HALL:Hid (Calls prog 32 #[.pointer (some ⟨x,0,none⟩)] w5 fun e w'=>∃ v,e=.returned (.tuple #[v,.bool true])∧OPA w' w5.heap.size v (qC6 r5.cont)∧BadT hW5.shop.E w5 w' t5 (qH9 V M (0+2)).wrote):=zF0 hW5.shop.E x _ N t5 _ r5 w5 hW5.live;have hs4:=HK4.out.size;have HK5:Hid (Kp [] w w5):=HK4.out.trans hK5 (by intro i hi hlt;simp at hi;omega);have HW5:=zh hW5;clear hW4 hF hK5 hcn hq ht5 hr5 HP HW4 HK4;go_wp2_with fail;refine (show Calls _ _ _ _ _ from HALL.out).mono ?_;rintro e w6 ⟨v,rfl,ho6,hb6⟩;obtain⟨hW6,hK6⟩:=HW5.out.stay hb6;have hs5:=HK5.out.size;have HK6:Hid (Kp [] w w6):=HK5.out.trans hK6 (by intro i hi hlt;simp at hi;omega);have HC:Hid (Calls prog 31 #[.pointer (some ⟨x,0,none⟩)] w6 fun e w'=>e=.returned .nilIface∧∃ s' l' nt,Shop w' kc db St (w.heap.size+1) w.heap.size N 0 s' (emp.del (qA6 t5.nr)) l' (nx (nk (nx (0+2)) r5.news)) nt∧nt.cont=r5.cont∧s'.N=(0+2)+2∧s'.bg=0+1∧s'.wr=((qH9 V M (0+2)).wrote.left t5.nr).wr∧s'.V=V∧s'.M=M∧w'.heap[x]?=some (qA4 t5.ended)∧Kp [St,x,M,w.heap.size+1,w.heap.size] w6 w'):=by
  have h1:=qT8 hW6.live.good;have h2:=zB8 hW6.live.good;exact hW6.shop.commit hW6.live hW6.st hW6.wrt (by rw[hW6.nr];omega) (by rw[hW6.nr];omega) hq5 (by omega) (by show (0+2:Int)≤_;omega) (by show _+_+0*kc+0+2≤N;omega)
 have HO6:Hid (OPA w6 w.heap.size v (qC6 r5.cont)):=qH2 ho6 (by omega);have HN6:Hid (∀ k∈[St,x,M,w.heap.size+1,w.heap.size],∀ c fr,w6.heap[k]?≠some (.cells c 42 fr)):=by
  show ∀ k∈[St,x,M,w.heap.size+1,w.heap.size],∀ c fr,w6.heap[k]?≠some (.cells c 42 fr);intro k hk c fr e;obtain⟨cA,hA⟩:=hW6.shop.hA;simp only[List.mem_cons,List.not_mem_nil,or_false] at hk;rcases hk with rfl|rfl|rfl|rfl|rfl
  ·rw[hW6.shop.hSt] at e;simp[ν] at e
  ·rw[hW6.live.hx] at e;simp[qA4] at e
  ·exact absurd rfl (qG1 e hW6.shop.hM)
  ·rw[hA] at e;simp[χ] at e
  ·rw[hW6.shop.dev.hC] at e;simp at e
 have HNR:=zh hW6.nr;obtain⟨ob,oc,rfl⟩:=qL0 ho6;obtain⟨sl,hsl⟩:∃ sl,sl=(qC6 r5.cont).length:=⟨_,rfl⟩;rw[←hsl] at HO6 hpos ⊢;have HSL:=zh hsl;clear ho6 hb6 hW6 hK6 HALL HW5 HK5 hsl hW5;go_wp2_with fail;refine (show Calls _ _ _ _ _ from HC.out).mono ?_;rintro e w7 ⟨rfl,s',l',nt,hS7,e1,e2,e3,e4,e5,e6,_,hK7⟩;rw[zP6] at hS7;have hs6:=HK6.out.size;have hw7:s'.wr=0:=by rw[e4];show (if t5.nr=0+1 then 0 else _)=(0:Int);rw[if_pos HNR.out]
 have HO7:Hid (OPA w7 w.heap.size (.slice ob sl oc) (qC6 nt.cont)):=by rw[e1];exact OPA.keep HO6.out hK7 HN6.out
 have HK7:Hid (Kp [] w w7):=HK6.out.trans hK7 (by intro i hi hlt;simp at hi;omega);have HNOW:Hid (Calls prog 30 #[.pointer (some ⟨db,0,none⟩)] w7 fun e w'=>∃ v,e=.returned (.tuple #[v,.bool true])∧OPA w' w7.heap.size v (qC6 nt.cont)∧Shop w' kc db St (w.heap.size+1) w.heap.size N (0+1) s'.read ((emp.put (qA6 (s'.bg+1)) (qF0 ⟨⟨#[]⟩,s'.rb,s'.rs,none⟩)).del (qA6 (s'.bg+1))) l' (nx (nk (nx (0+2)) r5.news)) nt∧Kp [St,s'.M,w.heap.size+1] w7 w'):=zN3 hS7 (by show 0<4;omega) (by omega) (by omega) (by omega);have HN7:Hid (∀ k∈[St,s'.M,w.heap.size+1],∀ c fr,w7.heap[k]?≠some (.cells c 42 fr)):=by
  show ∀ k∈[St,s'.M,w.heap.size+1],∀ c fr,w7.heap[k]?≠some (.cells c 42 fr);intro k hk c fr e;obtain⟨cA,hA⟩:=hS7.hA;simp only[List.mem_cons,List.not_mem_nil,or_false] at hk;rcases hk with rfl|rfl|rfl
  ·rw[hS7.hSt] at e;simp[ν] at e
  ·exact absurd rfl (qG1 e hS7.hM)
  ·rw[hA] at e;simp[χ] at e
 have HNT:Hid (nt.cont.length≤43∧(qC6 nt.cont).length=sl):=⟨by rw[e1];omega,by rw[e1];exact HSL.out.symm⟩;have HS':Hid (s'.N=0+2+2∧s'.bg=0+1∧s'.wr=0∧s'.M=M):=⟨e2,e3,hw7,e6⟩;clear hS7 e1 e2 e3 e4 e5 e6 hK7 HC HO6 HN6 HK6 hw7 hq5;go_wp2_with fail;refine (show Calls _ _ _ _ _ from HNOW.out).mono ?_;rintro e w8 ⟨v8,rfl,ho8,hS8,hK8⟩;rw[zN9] at hS8;have hs7:=HK7.out.size;have HO8:Hid (OPA w8 w.heap.size (.slice ob sl oc) (qC6 nt.cont)):=OPA.keep HO7.out hK8 HN7.out;have HK8:Hid (Kp [] w w8):=HK7.out.trans hK8 (by intro i hi hlt;have:=HS'.out.2.2.2;simp at hi;omega);have hal:(qC6 nt.cont).length≤1000000:=by
  have h1:=HNT.out.1;have h2:(qC6 nt.cont).length≤nt.cont.length:=by
   unfold qC6 qE9;rw[List.length_take];have:=List.length_filter_le (inR ⟨#[]⟩ qP4) nt.cont;omega
  omega
 have HSAME:Hid (Calls prog 33 #[.slice ob sl oc,v8] w8 fun e w'=>e=.returned (.bool true)∧Kp [] w8 w'):=zQ2 _ _ _ _ (qC6 nt.cont) w8 HO8.out ho8 hal;have HS8:=zh hS8;obtain⟨ob8,oc8,rfl⟩:=qL0 ho8;rw[HNT.out.2] at HSAME ⊢;clear ho8 hS8 hK8 HNOW HO7 HN7 HK7;go_wp2_with fail;refine (show Calls _ _ _ _ _ from HSAME.out).mono ?_;rintro e w9 ⟨rfl,hK9⟩;have HE:Hid (Shop w9 kc db St (w.heap.size+1) w.heap.size N 1 s'.read emp l' (nx (nk (nx (0+2)) r5.news)) nt∧OPA w9 w.heap.size (.slice ob sl oc) (qC6 nt.cont)∧Kp [] w w9):=by
  have e2:=HS8.out;exact⟨e2.turn hK9 (by simp) (qN0 e2.dev hK9 (by intro k hk;cases hk)) ⟨rfl,rfl,rfl,rfl,rfl,rfl⟩ (hK9.hp e2.hSt) (e2.hM.kp hK9 (by simp)) e2.m4 e2.n1 e2.bg0 e2.kb e2.rd,OPA.keep HO8.out hK9 (by simp),HK8.out.tr hK9⟩
 have hsl0:¬(sl:Int)=0:=by omega
 clear hK9 HSAME HO8 HK8 HS8;go_wp2
 go_ret3
 obtain⟨f1,f2,f3⟩:=HE.out;obtain⟨g1,g2,g3,g4⟩:=HS'.out;exact⟨db,St,w.heap.size+1,w.heap.size,s'.read,l',_,nt,_,rfl,f1,f2,g3,by show s'.bg+1=2;omega,by show s'.N≤10;omega,HNT.out.1,by omega,by omega,by omega,by omega,by show w.heap.size≤s'.M;rw[g4];omega,f3⟩
theorem zS2(A n C:Nat)(cache:Value)(calls writes:Int)(w:World)(h:w.heap[A]?=some (χ n C cache calls writes)):
  Calls prog 35 #[.pointer (some ⟨A,0,none⟩)] w fun e w'=>e=.returned (.int .i64 writes)∧w'=w:=by
 have c0:=ξ h;simp only[χ,zG,zH,zI] at c0;clear h;go_enter func35,ntmps35;go_wp2;go_ret;exact⟨rfl,rfl⟩
theorem Kp.zero{w w':World}(h:Kp [] w w')(h0:0<w.heap.size)(hg:w.cell? ⟨0,0,none⟩=some qM4):w'.cell? ⟨0,0,none⟩=some qM4:=by
 have e:=h.block 0 h0 (by simp);unfold World.cell? at hg ⊢;simp only at hg ⊢;rw[e];exact hg
section
variable {w:World} {kc db St A C N nM:Nat} {s:Sto} {D:DataW Unit} {l:List UInt8} {wr:Int} {nw:Root}
theorem Shop.nopair(hS:Shop w kc db St A C N nM s D l wr nw):∀ k∈[St,s.M,A,C],∀ c fr,w.heap[k]?≠some (.cells c 42 fr):=by
 intro k hk c fr e;obtain⟨cA,hA⟩:=hS.hA;simp only[List.mem_cons,List.not_mem_nil,or_false] at hk;rcases hk with rfl|rfl|rfl|rfl
 ·rw[hS.hSt] at e;simp[ν] at e
 ·exact absurd rfl (qG1 e hS.hM)
 ·rw[hA] at e;simp[χ] at e
 ·rw[hS.dev.hC] at e;simp at e
theorem Shop.more(hS:Shop w kc db St A C N nM s D l wr nw){w':World}(hK:Kp [] w w'):Shop w' kc db St A C N nM s D l wr nw:=
 hS.turn hK (by simp) (qN0 hS.dev hK (by intro k hk;cases hk)) ⟨rfl,rfl,rfl,rfl,rfl,rfl⟩ (hK.hp hS.hSt) (hS.hM.kp hK (by simp)) hS.m4 hS.n1 hS.bg0 hS.kb hS.rd
theorem Shop.over(hS:Shop w kc db St A C N nM s D l wr nw){x:Nat}{t:Tx}(hx:w.heap[x]?=some (qA4 t))(ho:t.over=true)(hst:t.St=St):
  Calls prog 36 #[.pointer (some ⟨x,0,none⟩)] w fun e w'=>∃ v,e=.returned v∧qK9 w' v (some 5)∧Shop w' kc db St A C N nM s D l wr nw∧Kp [St] w w':=by
 subst hst;have hne:x≠t.St:=qC5 hx hS.hSt (by decide);refine (xL9 x t s w hx ho hS.hSt hS.po hne).mono ?_;rintro e w' ⟨v,rfl,hv,hSt,hK⟩;have h1:s.M≠t.St:=(qG1 hS.hSt hS.hM).symm;exact⟨v,rfl,hv,hS.turn hK (by simpa using hS.neDb.1) (qN0 hS.dev hK (OffD.one hS.hSt (by decide))) ⟨rfl,rfl,rfl,rfl,rfl,rfl⟩ hSt (hS.hM.kp hK (by simpa using h1)) hS.m4 hS.n1 hS.bg0 hS.kb hS.rd,hK⟩
end
theorem xT0(a b:Int)(ha0:-9223372036854775808≤a)(ha1:a≤9223372036854775807)(hb0:-9223372036854775808≤b)(hb1:b≤9223372036854775807)(w:World)(h0:0<w.heap.size)(hg:w.cell? ⟨0,0,none⟩=some qM4):
  Calls prog 13 #[.int .i64 a,.int .i64 b] w fun e w'=>e=.returned (.bool true)∧Kp [] w w':=by
 have HG:Hid (0<w.heap.size∧w.cell? ⟨0,0,none⟩=some qM4):=⟨h0,hg⟩;clear h0 hg;have HB:Hid (Calls prog 18 #[.int .i64 150,.int .i64 a] w fun e w'=>∃ db St A C s l wr nw v,e=.returned (.tuple #[.pointer (some ⟨A,0,none⟩),.pointer (some ⟨db,0,none⟩),v])∧Shop w' 300 db St A C 150 1 s emp l wr nw∧OPA w' w.heap.size v (qC6 nw.cont)∧s.wr=0∧s.bg=2∧s.N≤10∧nw.cont.length≤43∧w.heap.size≤A∧w.heap.size≤C∧w.heap.size≤St∧w.heap.size≤db∧w.heap.size≤s.M∧Kp [] w w'):=jG3 150 300 (by omega) (by omega) (by omega) (by omega) a ha0 ha1 w;go_enter func13,ntmps13;go_wp2_with fail;refine (show Calls _ _ _ _ _ from HB.out).mono ?_;rintro e w1 ⟨db,St,A,C,s,l,wr,nw,v,rfl,hS1,ho1,hwr,hbg,hsN,hnw,gA,gC,gSt,gdb,gM,hK1⟩;have HS1:=zh hS1;obtain⟨ob,oc,rfl⟩:=qL0 ho1;obtain⟨sl,hsl⟩:∃ sl,sl=(qC6 nw.cont).length:=⟨_,rfl⟩;rw[←hsl] at ho1 ⊢;have HSL:=zh hsl;have HO1:=zh ho1;have HK1:=zh hK1;have HW1:Hid (Calls prog 35 #[.pointer (some ⟨A,0,none⟩)] w1 fun e w'=>e=.returned (.int .i64 wr)∧w'=w1):=by obtain⟨c,h⟩:=hS1.hA;exact zS2 A 150 C _ c wr w1 h
 clear hS1 ho1 hK1 HB hsl;go_wp2_with fail;refine (show Calls _ _ _ _ _ from HW1.out).mono ?_;rintro e w1' ⟨rfl,hw⟩;rw[hw];clear hw w1';go_wp2_with fail;refine (zE1 b 30 hb0 hb1 (by omega) (by omega) w1).mono ?_;rintro e w1' ⟨⟨k,rfl,hk0,hk40⟩,hw⟩;rw[hw];clear hw w1';obtain⟨m,hm⟩:∃ m:Nat,(m:Int)=1+k:=⟨(1+k).toNat,by omega⟩;have HW:Hid (Calls prog 19 #[.pointer (some ⟨db,0,none⟩),.int .i64 b,.int .i64 (1+k)] w1 fun e w'=>∃ x t r v,e=.returned (.tuple #[.pointer (some ⟨x,0,none⟩),v])∧w1.heap.size≤x∧OPA w' w1.heap.size v (qC6 r.cont)∧r.cont.length≤nw.cont.length+m∧t.ch≤(m:Int)∧Kp [St,A] w1 w'∧Wrt w' 300 db St A C 150 1 s.wrote emp l wr nw x t r (s.bg+1)):=by
  rw[←hm];refine zQ7 HS1.out hwr (by omega) b hb0 hb1 m (by omega) (fun r' hg hz=>?_);have h1:=qT8 hg;have h2:=HS1.out.bl1;omega
 clear hm HW1;go_wp2_with fail;refine (show Calls _ _ _ _ _ from HW.out).mono ?_;rintro e w2 ⟨x,t,r,v2,rfl,hx2,ho2,hr2,hc2,hK2,hW2⟩;have hs1:=HK1.out.size;have HO2:Hid (OPA w2 w.heap.size (.slice ob sl oc) (qC6 nw.cont)):=OPA.keep HO1.out hK2 (fun k hk=>HS1.out.nopair k (by simp at hk ⊢;rcases hk with h | h<;>simp[h]));have HK2:Hid (Kp [] w w2):=HK1.out.trans hK2 (by intro i hi hlt;simp at hi;omega);have HAB:Hid (Calls prog 36 #[.pointer (some ⟨x,0,none⟩)] w2 fun e w'=>e=.returned .nilIface∧w'.heap[x]?=some (qA4 t.ended)∧Shop w' 300 db St A C 150 1 (s.wrote.left t.nr) (emp.del (qA6 t.nr)) l wr nw∧Kp [St,x,s.M] w2 w'):=hW2.shop.abort hW2.live hW2.st (by rw[hW2.nr];omega) (by rw[hW2.nr];omega);have HN2:Hid (∀ k∈[St,x,s.M],∀ c fr,w2.heap[k]?≠some (.cells c 42 fr)):=by
  show ∀ k∈[St,x,s.M],∀ c fr,w2.heap[k]?≠some (.cells c 42 fr);intro k hk c fr e;simp only[List.mem_cons,List.not_mem_nil,or_false] at hk;rcases hk with rfl|rfl|rfl
  ·exact hW2.shop.nopair _ (by simp) c fr e
  ·rw[hW2.live.hx] at e;simp[qA4] at e
  ·exact hW2.shop.nopair _ (by simp[Sto.wrote]) c fr e
 have HT:Hid (t.nr=s.bg+1∧t.St=St):=⟨hW2.nr,hW2.st⟩;obtain⟨ob2,oc2,rfl⟩:=qL0 ho2;clear ho2 hK2 hW2 HW HO1 HS1;go_wp2_with fail;refine (show Calls _ _ _ _ _ from HAB.out).mono ?_;rintro e w3 ⟨rfl,hx3,hS3,hK3⟩;rw[zP6] at hS3;obtain⟨s3,hs3⟩:∃ s3,s3=s.wrote.left t.nr:=⟨_,rfl⟩;rw[←hs3] at hS3;have h3w:s3.wr=0:=by rw[hs3];show (if t.nr=s.bg+1 then 0 else _)=(0:Int);rw[if_pos HT.out.1]
 have h3b:s3.bg=3:=by rw[hs3];show s.bg+1=3;omega
 have h3M:s3.M=s.M:=by rw[hs3];rfl
 have hs2:=HK2.out.size;have HO3:Hid (OPA w3 w.heap.size (.slice ob sl oc) (qC6 nw.cont)):=OPA.keep HO2.out hK3 HN2.out;have HK3:Hid (Kp [] w w3):=HK2.out.trans hK3 (by intro i hi hlt;simp at hi;omega);have HS3:=zh hS3;have HAV:Hid (Calls prog 36 #[.pointer (some ⟨x,0,none⟩)] w3 fun e w'=>∃ v,e=.returned v∧qK9 w' v (some 5)∧Shop w' 300 db St A C 150 1 s3 emp l wr nw∧Kp [St] w3 w'):=hS3.over hx3 rfl HT.out.2;clear hx3 hS3 hK3 HAB HO2 HK2 HN2 hs3;go_wp2_with fail;refine (show Calls _ _ _ _ _ from HAV.out).mono ?_;rintro e w4 ⟨v4,rfl,hv4,hS4,hK4⟩;have hs3':=HK3.out.size;have HO4:Hid (OPA w4 w.heap.size (.slice ob sl oc) (qC6 nw.cont)):=OPA.keep HO3.out hK4 (fun k hk=>HS3.out.nopair k (by simp at hk ⊢;simp[hk]));have HK4:Hid (Kp [] w w4):=HK3.out.trans hK4 (by intro i hi hlt;simp at hi;omega);have HS4:=zh hS4;obtain⟨F,cl,rfl,hF⟩:=hv4;have HTO:Hid (Calls prog 24 #[.iface 243 (.pointer (some ⟨F,0,none⟩))] w4 fun e w'=>e=.returned (.int .i64 5)∧Kp [] w4 w'):=xH6 F cl 5 w4 (HK4.out.zero HG.out.1 HG.out.2) hF;clear hF hS4 hK4 HAV HO3 HK3 HS3;go_wp2_with fail;refine (show Calls _ _ _ _ _ from HTO.out).mono ?_;rintro e w5 ⟨rfl,hK5⟩;have hS5:=HS4.out.more hK5;have HO5:Hid (OPA w5 w.heap.size (.slice ob sl oc) (qC6 nw.cont)):=OPA.keep HO4.out hK5 (by simp);have HK5:Hid (Kp [] w w5):=HK4.out.tr hK5;have HNOW:Hid (Calls prog 30 #[.pointer (some ⟨db,0,none⟩)] w5 fun e w'=>∃ v,e=.returned (.tuple #[v,.bool true])∧OPA w' w5.heap.size v (qC6 nw.cont)∧Shop w' 300 db St A C 150 (1+1) s3.read ((emp.put (qA6 (s3.bg+1)) (qF0 ⟨⟨#[]⟩,s3.rb,s3.rs,none⟩)).del (qA6 (s3.bg+1))) l wr nw∧Kp [St,s3.M,A] w5 w'):=zN3 hS5 (by show 0<4;omega) (by omega) (by omega) (by omega);have HS5:=zh hS5;clear hS5 hK5 HTO HO4 HK4 HS4;go_wp2_with fail;refine (show Calls _ _ _ _ _ from HNOW.out).mono ?_;rintro e w6 ⟨v6,rfl,ho6,hS6,hK6⟩;rw[zN9] at hS6;have hs5:=HK5.out.size;have HO6:Hid (OPA w6 w.heap.size (.slice ob sl oc) (qC6 nw.cont)):=OPA.keep HO5.out hK6 (fun k hk=>HS5.out.nopair k (by simp at hk ⊢;rcases hk with h | h | h<;>simp[h]));have HK6:Hid (Kp [] w w6):=HK5.out.trans hK6 (by intro i hi hlt;simp at hi;omega);have hal:(qC6 nw.cont).length≤1000000:=by
  have h2:(qC6 nw.cont).length≤nw.cont.length:=by
   unfold qC6 qE9;rw[List.length_take];have:=List.length_filter_le (inR ⟨#[]⟩ qP4) nw.cont;omega
  omega
 have HSAME:Hid (Calls prog 33 #[.slice ob sl oc,v6] w6 fun e w'=>e=.returned (.bool true)∧Kp [] w6 w'):=zQ2 _ _ _ _ (qC6 nw.cont) w6 HO6.out ho6 hal;have HS6:=zh hS6;obtain⟨ob6,oc6,rfl⟩:=qL0 ho6;rw[←HSL.out] at HSAME ⊢;clear ho6 hS6 hK6 HNOW HO5 HK5 HS5 hal;go_wp2_with fail;refine (show Calls _ _ _ _ _ from HSAME.out).mono ?_;rintro e w7 ⟨rfl,hK7⟩;have hS7:=HS6.out.more hK7;have HK7:Hid (Kp [] w w7):=HK6.out.tr hK7;have HBW:Hid (Calls prog 29 #[.pointer (some ⟨db,0,none⟩),.bool true] w7 fun e w'=>∃ x t,e=.returned (.tuple #[.pointer (some ⟨x,0,none⟩),.nilIface])∧w7.heap.size≤x∧t.St=St∧t.nr=s3.read.bg+1∧t.wrt=true∧t.ch=0∧Kp [St] w7 w'∧∃ hS':Shop w' 300 db St A C 150 (1+1) s3.read.wrote emp l wr nw,LiveT hS'.E w' x A 150 t s3.read.wrote nw):=hS7.beginW h3w (by show s3.bg+1≤_;omega);clear hS7 hK7 HSAME HO6 HK6 HS6;go_wp2_with fail;refine (show Calls _ _ _ _ _ from HBW.out).mono ?_;rintro e w8 ⟨u,tu,rfl,hu,_,_,_,_,hK8,hS8,hL8⟩;clear hL8;have hs7:=HK7.out.size;have HK8:Hid (Kp [] w w8):=HK7.out.trans hK8 (by intro i hi hlt;simp at hi;omega);have HW8:Hid (Calls prog 35 #[.pointer (some ⟨A,0,none⟩)] w8 fun e w'=>e=.returned (.int .i64 wr)∧w'=w8):=by obtain⟨c,h⟩:=hS8.hA;exact zS2 A 150 C _ c wr w8 h
 clear hK8 hS8 HBW HK7;go_wp2_with fail;refine (show Calls _ _ _ _ _ from HW8.out).mono ?_;rintro e w8' ⟨rfl,hw⟩;rw[hw];clear hw w8';go_wp2;go_ret;exact⟨rfl,HK8.out⟩
end Go.Proofs.YtdohpenfkdckiaaGreatDoor
namespace Go.Proofs.YtdohpenfkdckiaaGreatDoor
open Go.Proofs.Tryz
open Go.ChangeShapes Go.WideShapes Go.RowKit Go.Deep
theorem zM0{n:Int}(h:(Lit.int .i64 n).wf=true):-9223372036854775808≤n∧n≤9223372036854775807:=by
 simp[Lit.wf,IntKind.min,IntKind.max,IntKind.bits,IntKind.signed] at h;omega
theorem xV7:laidOutB prog=true:=by kernel_rfl
theorem jC0:ownKnob prog.godebug=none:=by kernel_rfl
theorem xR1:prog.globalNamed "errors.errorType"=some 0:=by kernel_rfl
theorem xE3:(prog.cutTypes.find? (·.1 == "internal/reflectlite.rtype")).map (·.2)=some 220:=by kernel_rfl
theorem jG0:((List.range 413).filter fun t=>prog.rowNamed t [101,114,114,111,114])=[38]:=by kernel_rfl
theorem xU0:prog.types.size=413:=by kernel_rfl
theorem xT1{W:World}(h:laidMetH prog Rows.abortedRow.laid W):W.cell? ⟨0,0,none⟩=some qM4:=by
 have h':laidMet prog (Rows.abortedRow.laid.filter fun x=>x.2.handleName?.isNone) W∧handlesMet prog [("errors.errorType",Rows.laid_errors_errorType)] W:=h;obtain⟨name,u,ty,e1,e2,e3,e4,e5⟩:=h'.2 _ (List.mem_singleton.2 rfl);have en:name=[101,114,114,111,114]:=(Option.some.inj e1).symm;subst en;obtain rfl:=Option.some.inj (xE3.symm.trans e2);have hm:ty∈(List.range 413).filter fun t=>prog.rowNamed t [101,114,114,111,114]:=List.mem_filter.2 ⟨List.mem_range.2 (by rw[←xU0];exact e3),e4⟩;rw[jG0] at hm;obtain rfl:=List.mem_singleton.1 hm;have hh:typeHandle prog 38=.pointer (some ⟨5,38,none⟩):=by kernel_rfl
 rw[hh] at e5;simpa [qM4] using World.var?_cell xR1 e5 0
theorem xW3(os:Os)(H:Type)(enc:TypeId × Value→H):
  ∃ (w:World) (tape:Tape) (i:Input),w.os=os∧(w.forCall tape i).Shaped prog∧i.vars=[]∧Input.okWide prog (w.forCall tape i) .any w.heap.size 13 i∧
   ((Rows.abortedSpec.pre enc prog f13 [] false (w.forCall tape i).memory i.args∧laidMetH prog Rows.abortedRow.laid (w.forCall tape i).memory)∧sizedMet enc prog f13 (OpenSpec.ofChange Rows.abortedSpec) false (w.forCall tape i).memory i.args)∧({}:Assume).holds prog (lone (Frame.enter prog 13 i.args .normal) [] (w.forCall tape i)):=
 ChangeSpec.witness_at (enc:=enc) (C:=checked) (os:=os) (X:=fun w _=>laidMetH prog Rows.abortedRow.laid w) false ({ World.laidAll prog os (Rows.abortedRow.laid.filter fun x=>x.2.handleName?.isNone) with heap:=(World.laidAll prog os (Rows.abortedRow.laid.filter fun x=>x.2.handleName?.isNone)).heap.modify 0 fun o=>match o with | .cells _ t frozen=>.cells #[qM4] t frozen | o=>o }) #[.int .i64 0,.int .i64 0] 8 rfl (by kernel_rfl) (by kernel_rfl) (by kernel_rfl) (by kernel_rfl) (by kernel_rfl) (laidMetH_of_parts (laidMet_of_run' 8 (by kernel_rfl) (by kernel_rfl)) (by kernel_rfl))
end Go.Proofs.YtdohpenfkdckiaaGreatDoor
namespace Go.Proofs.YtdohpenfkdckiaaGreatDoor
open Go.Proofs.Tryz
open Go Go.ChangeShapes Go.WideShapes Go.RowKit Go.Deep
theorem xR3(os:Os)(started:os.Started)(H:Type)(enc:TypeId × Value→H):
  ReturnsInHanded {} checked os 13 .any (fun w args=>(Rows.abortedSpec.pre enc prog f13 [] false w args∧laidMetH prog Rows.abortedRow.laid w)∧sizedMet enc prog f13 (OpenSpec.ofChange Rows.abortedSpec) false w args)
   (Rows.abortedSpec.post enc prog f13 false true false false):=by
 refine returnsInHanded_of_change_and (C:=checked) (X:=fun w _=>laidMetH prog Rows.abortedRow.laid w) (fun _ _ _ hh h=>h.of_heap hh) jC0 started (by kernel_rfl) func13 (xW3 os H enc) ?_;intro W base args ds gs before hval0 hW _ _ hL _;have hval:∀ (j:Nat) t v,f13.params[j]?=some t→args[j]?=some v→Value.okWide prog W .any base t v:=hval0;have hW':=hW;obtain⟨p,q,hA0,hV,rfl,_,_⟩:=hW;have hA:DataW.TrodAll enc prog W 0 (fun _=>true) true f13.params.toList args.toList ds p:=hA0;rw[params13] at hA hval;obtain⟨v0,v1,d0,d1,p0,p1,rfl,rfl,rfl,h0,h1⟩:=trodAll_two hA;obtain⟨rfl,rfl⟩:=trodVars_none hV;clear hA0 hval0;simp only[List.append_nil] at hW';obtain⟨a,rfl,rfl,rfl,wa⟩:=open_int underlying3 (hval 0 3 v0 rfl rfl) h0;obtain⟨b,rfl,rfl,rfl,wb⟩:=open_int underlying3 (hval 1 3 v1 rfl rfl) h1;have hg:=xT1 hL;have h0s:0<W.heap.size:=by
  unfold World.cell? at hg
  cases hb:W.heap[0]? with
  | none=>simp[hb] at hg
  | some o=>exact ζ hb
 have e1:Rows.abortedSpec.fn H ([.lit (.int .i64 a),.lit (.int .i64 b)]++[])={ results:=[.lit (.bool true)],args:=[.lit (.int .i64 a),.lit (.int .i64 b)] }:=by simp[Rows.abortedSpec]
 obtain⟨ha0,ha1⟩:=zM0 wa;obtain⟨hb0,hb1⟩:=zM0 wb;refine (xT0 a b ha0 ha1 hb0 hb1 W h0s hg).mono fun e W' ⟨he,hK⟩=>?_;subst he;have hb:Below W.heap.size W W':=hK.below (Nat.le_refl _) (by simp);refine⟨_,rfl,_,_,_,[],[],[],hW',?_,?_,?_,hb.frame _,fun h=>by cases h⟩
 ·rw[e1];exact trodAll_mk1 (shut_bool underlying4 true)
 ·rw[e1];exact trodAll_mk2 (shut_int underlying3 wa) (shut_int underlying3 wb)
 ·rw[e1];rfl
end Go.Proofs.YtdohpenfkdckiaaGreatDoor
