import Derived.Test.YtdohpenfkdckiabGreatDoorP20
import Derived.Test.YtdohpenfkdckiabGreatDoorP21
import Derived.Laws.EntriesVeiled
set_option linter.all false
set_option maxRecDepth 100000
set_option maxHeartbeats 20000000
namespace Go.Proofs.YtdohpenfkdckiabGreatDoor
open Go.Proofs.Tryz
open Go.RowKit
theorem qU1(c n:Int)(hc0:-9223372036854775808≤c)(hc1:c≤9223372036854775807)(h1:1≤n)(h2:n≤2147483648)(w:World):Calls prog 12 #[.int .i64 c,.int .i64 n] w fun e w'=>(∃ k:Int,e=.returned (.int .i64 k)∧0≤k∧k<n)∧w'=w:=by
 by_cases hn:c<0
 ·have e1:wrap64 (c+1)=c+1:=by simp only[wrap64];omega
  have e2:wrap64 (-(c+1))=-(c+1):=by simp only[wrap64];omega
  have e3:(-(c+1)).tmod n=(-(c+1)) % n:=Int.tmod_eq_emod_of_nonneg (by omega);have b1:=Int.emod_nonneg (-(c+1)) (show n≠0 by omega);have b2:=Int.emod_lt_of_pos (-(c+1)) (show 0<n by omega);have hn0:¬n=0:=by omega
  go_enter func12,ntmps12;go_wp2;go_ret;exact⟨⟨_,rfl,b1,b2⟩,rfl⟩
 ·have e3:c.tmod n=c % n:=Int.tmod_eq_emod_of_nonneg (by omega);have b1:=Int.emod_nonneg c (show n≠0 by omega);have b2:=Int.emod_lt_of_pos c (show 0<n by omega);have hn0:¬n=0:=by omega
  go_enter func12,ntmps12;go_wp2;go_ret;exact⟨⟨_,rfl,b1,b2⟩,rfl⟩
theorem jE7(n:Int)(h0:0≤n)(h1:n<2147483648)(w:World):Calls prog 25 #[.int .i64 n] w fun e w'=>(∃ k:Int,e=.returned (.int .i64 k)∧0≤k∧k<2147483648)∧w'=w:=by
 have e1:IntKind.i64.wrap (n*1103515245)=n*1103515245:=by rw[IntKind.wrap_i64];omega
 have e2:IntKind.i64.wrap (n*1103515245+12345)=n*1103515245+12345:=by rw[IntKind.wrap_i64];omega
 go_enter func25,ntmps25;go_wp2;go_ret;exact⟨⟨_,rfl,by omega,by omega⟩,rfl⟩
theorem jE9(k:Int)(h0:0≤k)(h1:k<2147483648)(w:World):Calls prog 63 #[.int .i64 k] w fun e w'=>(∃ s:ByteArray,e=.returned (.string s)∧s.size≤12)∧w'=w:=by
 go_enter func63,ntmps63;go_wp2;go_ret;refine⟨⟨_,rfl,?_⟩,rfl⟩;rw[ByteArray.size_extract];have:(k % 13).toNat≤12:=by omega
 omega
theorem xP7(args:Array Value)(W:World):Sem.run prog (callFunc 54 args) W=.ok (.enter 54 args) W:=by
 simp[go_sem,func54]
theorem FineT.from{E:SEnv}{w w0 w':World}{x:Nat}{t:Tx}{s:Sto}{r':Root}{h':HL}(hK:Kp [] w w0)(h:FineT E w0 w' x t s r' h'):FineT E w w' x t s r' h':=
 { h with kp:=(hK.mono (by simp)).trans h.kp (fun _ h _=>h) }
theorem zY1(k:ByteArray):zI0 k=true↔1≤k.size∧k.size≤8:=by simp[zI0]
theorem xE2(E:SEnv)(x A n:Nat)(t:Tx)(s:Sto)(r:Root)(p:KV)(w:World)(hL:LiveT E w x A n t s r)(hwr:t.wrt=true)(hok:qD0 p)(hroom:((r.put p).news:Int)≤(n:Int)-2-s.bl):
  Calls prog 28 #[.pointer (some ⟨x,0,none⟩),.string p.k,.string p.v] w fun e w'=>e=.returned .nilIface∧∃ h',FineT E w w' x t s (r.put p) h':=by
 have HL:=zh hL;have HR:=zh hroom;have HOK:=zh hok;have hxs:=ζ hL.hx;have hSs:=ζ hL.hSt;clear hL hroom hok;have hmf:=zM;go_enter func28,ntmps28;go_wp2_with fail;obtain⟨w0,hw0,hT0,hK0,hV0,hKp0,hs0⟩:∃ w0,w0=((w.alloc (.cells #[.pointer (some ⟨x,0,none⟩)] 29)).alloc (.cells #[.string p.k] 9)).alloc (.cells #[.string p.v] 9)∧w0.heap[w.heap.size]?=some (.cells #[.pointer (some ⟨x,0,none⟩)] 29)∧w0.heap[w.heap.size+1]?=some (.cells #[.string p.k] 9)∧w0.heap[w.heap.size+2]?=some (.cells #[.string p.v] 9)∧Kp [] w w0∧w0.heap.size=w.heap.size+3:=by
  refine⟨_,rfl,θ _ (θ _ (μ _ _)),θ _ ?_,?_,(((Kp.refl _ _).alloc _).alloc _).alloc _,by simp⟩
  ·have e:=μ (w.alloc (.cells #[.pointer (some ⟨x,0,none⟩)] 29)) (.cells #[.string p.k] 9);simpa using e
  ·have e:=μ ((w.alloc (.cells #[.pointer (some ⟨x,0,none⟩)] 29)).alloc (.cells #[.string p.k] 9)) (.cells #[.string p.v] 9);simpa using e
 rw[←hw0];clear hw0;refine (zS9 E x A n 54 t s r (r.put p) p.k _ #[] #[.pointer (some ⟨w.heap.size+2,0,none⟩),.pointer (some ⟨w.heap.size,0,none⟩),.pointer (some ⟨w.heap.size+1,0,none⟩)] w0 (HL.out.more hKp0) hwr HOK.out.1 HOK.out.2.1 (xP7 _) ?_).mono ?_
 ·intro W hK hd hx hS hV hrr;exact jQ0 E (w.heap.size+2) w.heap.size (w.heap.size+1) x A n t s r p W ⟨hK.ho hV0,hK.ho hT0,hK.ho hK0,hx,HL.out.on,hS,HL.out.sV,hV,HL.out.n1,HL.out.bl0,HL.out.bl1,hd,HL.out.vS,hrr,HL.out.good,HL.out.sz⟩ HOK.out HR.out
 ·rintro e w1 ⟨rfl,h',hF⟩;have HF:Hid (FineT E w w1 x t s (r.put p) h'):=hF.from hKp0;clear hF;go_wp2;go_ret;exact⟨rfl,h',HF.out⟩
theorem xR1(E:SEnv)(Tc Kc x:Nat)(t:Tx)(r:Root)(k:ByteArray)(w:World)(hTc:w.heap[Tc]?=some (.cells #[.pointer (some ⟨x,0,none⟩)] 29))(hKc:w.heap[Kc]?=some (.cells #[.string k] 9))(hx:w.heap[x]?=some (qA3 t))(hon:t.on=some ⟨E.V,0,none⟩)(hd:E.Dev w)(hrr:RR E.toEnv w t.h r)(hg:RGood r)(hsz:r.cont.length≤50000):
  Calls prog 52 #[.pointer (some ⟨Tc,0,none⟩),.pointer (some ⟨Kc,0,none⟩)] w fun e w'=>e=qC6 none∧∃ w1 h',E.To w w1∧RR E.toEnv w' h' (r.del k)∧w'.heap[x]?=some (qA3 { t with h:=h' })∧Kp [x] w1 w':=by
 have HD:=zh hd;have HRR:=zh hrr;have HG:=zh hg;have hxs:=ζ hx;clear hd hrr hg;go_enter func52,ntmps52;go_wp2_with fail;have hS0:w.heap[Tc]?=some (.cells #[.pointer (some ⟨x,0,none⟩)] 29)∧w.heap[Kc]?=some (.cells #[.string k] 9):=⟨hTc,hKc⟩;refine wp_region_held_drew (S:=fun W=>W.heap[Tc]?=some (.cells #[.pointer (some ⟨x,0,none⟩)] 29)∧W.heap[Kc]?=some (.cells #[.string k] 9)) (by kernel_rfl) hS0 (fun _=>?_);refine zV 0 (.pointer (some ⟨x,0,none⟩)) rfl (fun W hS=>by have c:=ξ hS.1 0;simp at c;clear hS;go_simp) hS0 ?_;refine zV 1 (.pointer (some ⟨x,0,none⟩)) rfl (fun W hS=>by have c:=ξ hS.1 0;simp at c;clear hS;go_simp) hS0 ?_;refine zP 2 x 0 hS0 ?_;refine zP 3 x 4 hS0 ?_;refine zV 5 (.string k) rfl (fun W hS=>by have c:=ξ hS.2 0;simp at c;clear hS;go_simp) hS0 ?_;have a4:=ξ hx 4;have a5:=ξ hx 5;have a6:=ξ hx 6;have a7:=ξ hx 7;have a8:=ξ hx 8;simp only[qA3,zG,zH,zI] at a4 a5 a6 a7 a8;rw[hon] at a4;refine zq 4 fun K hK=>?_;go_simp;clear a4 a5 a6 a7 a8;refine hK.out _ _ hS0 (fun _=>?_);clear hK K
 try simp only[zZ]
 refine zq 6 fun K hK=>?_;go_simp;have hTd:E.To w w.drew:=(Env.To.of0 HD.out (Kp.refl _ _)).tail ((Kp.refl _ _).drew);have hdl:=jV1 E.toEnv r t.h k w.drew hTd.dev (HRR.out.to HD.out hTd) HG.out (by omega);rw[τ] at hdl;refine hdl.mono ?_;clear hdl;rintro e w1 ⟨h',rfl,hr1,hT1⟩;have hT1':=hTd.trans hT1;have hS1:=And.intro (E.stay HD.out hT1' hTc (by decide)) (E.stay HD.out hT1' hKc (by decide));have hx1:=E.stay HD.out hT1' hx (by decide);have hx1s:=ζ hx1;refine hK.out _ _ hS1 (fun _=>?_);clear hK K
 try simp only[zZ]
 refine zP 7 x 0 hS1 ?_;refine zP 8 x 4 hS1 ?_;have a4:=ξ hx1;simp only[qA3,zG,zH,zI] at a4;have f4:=ψ hx1;rw[τ];refine zq 9 fun K hK=>?_;go_simp;have hts:=qY0 (.pointer (some ⟨E.V,0,none⟩)) (.string h'.key) (.int .i64 h'.b) (.int .u64 h'.s) (.pointer h'.ptr) hx1;obtain⟨w2,hw2,hx2,hK2⟩:∃ w2,w2=((((w1.setCell ⟨x,4,none⟩ (.pointer (some ⟨E.V,0,none⟩))).setCell ⟨x,5,none⟩ (.string h'.key)).setCell ⟨x,6,none⟩ (.int .i64 h'.b)).setCell ⟨x,7,none⟩ (.int .u64 h'.s)).setCell ⟨x,8,none⟩ (.pointer h'.ptr)∧w2.heap[x]?=some (qA3 { t with h:=h' })∧Kp [x] w1 w2:=⟨_,rfl,by rw[hts.1,qA3,hon],hts.2⟩;rw[←hw2];clear hw2 hts a4 f4;have hS2:=And.intro (hK2.heap hS1.1 (by simp;exact qB7 hS1.1 hx1 (by decide))) (hK2.heap hS1.2 (by simp;exact qB7 hS1.2 hx1 (by decide)));refine hK.out _ _ hS2 (fun _=>?_);clear hK K
 try simp only[zZ]
 refine zd ?_;have HF:Hid (E.To w w1∧RR E.toEnv w2 h' (r.del k)∧w2.heap[x]?=some (qA3 { t with h:=h' })∧Kp [x] w1 w2):=⟨hT1',hr1.keepT hK2 (Apt.one hx1 (by decide)),hx2,hK2⟩;clear hS2 hS1 hS0 hx2 hx1 hr1 hT1 hT1' hTd hK2;go_wp2
 go_end0
 exact⟨rfl,w1,h',HF.out⟩
theorem xP4(args:Array Value)(W:World):Sem.run prog (callFunc 52 args) W=.ok (.enter 52 args) W:=by
 simp[go_sem,func52]
theorem xR3(E:SEnv)(x A n:Nat)(t:Tx)(s:Sto)(r:Root)(k:ByteArray)(w:World)(hL:LiveT E w x A n t s r)(hwr:t.wrt=true)(hk:zI0 k=true):
  Calls prog 27 #[.pointer (some ⟨x,0,none⟩),.string k] w fun e w'=>e=.returned .nilIface∧∃ h',FineT E w w' x t s (r.del k) h':=by
 have HL:=zh hL;have HKK:Hid (1≤k.size∧k.size≤8):=(zY1 k).1 hk;have hxs:=ζ hL.hx;have hSs:=ζ hL.hSt;clear hL hk;have hmf:=zM;go_enter func27,ntmps27;go_wp2_with fail;obtain⟨w0,hw0,hT0,hK0,hKp0,hs0⟩:∃ w0,w0=(w.alloc (.cells #[.pointer (some ⟨x,0,none⟩)] 29)).alloc (.cells #[.string k] 9)∧w0.heap[w.heap.size]?=some (.cells #[.pointer (some ⟨x,0,none⟩)] 29)∧w0.heap[w.heap.size+1]?=some (.cells #[.string k] 9)∧Kp [] w w0∧w0.heap.size=w.heap.size+2:=by
  refine⟨_,rfl,θ _ (μ _ _),?_,((Kp.refl _ _).alloc _).alloc _,by simp⟩;have e:=μ (w.alloc (.cells #[.pointer (some ⟨x,0,none⟩)] 29)) (.cells #[.string k] 9);simpa using e
 rw[←hw0];clear hw0;refine (zS9 E x A n 52 t s r (r.del k) k _ #[] #[.pointer (some ⟨w.heap.size,0,none⟩),.pointer (some ⟨w.heap.size+1,0,none⟩)] w0 (HL.out.more hKp0) hwr HKK.out.1 HKK.out.2 (xP4 _) ?_).mono ?_
 ·intro W hK hd hx hS hV hrr;exact xR1 E w.heap.size (w.heap.size+1) x t r k W (hK.ho hT0) (hK.ho hK0) hx HL.out.on hd hrr HL.out.good HL.out.sz
 ·rintro e w1 ⟨rfl,h',hF⟩;have HF:Hid (FineT E w w1 x t s (r.del k) h'):=hF.from hKp0;clear hF;go_wp2;go_ret;exact⟨rfl,h',HF.out⟩
theorem jV3(x:Nat)(t:Tx)(s:Sto)(k:ByteArray)(w:World)(hx:w.heap[x]?=some (qA3 t))(ho:t.over=true)(hSt:w.heap[t.St]?=some (ν 0 s))(hpo:s.po=false)(hxS:x≠t.St):
  Calls prog 23 #[.pointer (some ⟨x,0,none⟩),.string k] w fun e w'=>∃ v,e=.returned (.tuple #[.string ⟨#[]⟩,.bool false,v])∧qI6 w' v (some 5)∧w'.heap[t.St]?=some (ν 0 s)∧Kp [t.St] w w':=by
 have hxs:=ζ hx;have hSs:=ζ hSt;have HXS:=zh hxS;clear hxS;have hmf:=zM;go_enter func23,ntmps23;go_wp2_with fail;obtain⟨w0,hw0,hT0,hK0,hV0,hB0,hKp0,hs0⟩:∃ w0,w0=(((w.alloc (.cells #[.pointer (some ⟨x,0,none⟩)] 29)).alloc (.cells #[.string k] 9)).alloc (.cells #[.string ⟨#[]⟩] 9)).alloc (.cells #[.bool false] 4)∧w0.heap[w.heap.size]?=some (.cells #[.pointer (some ⟨x,0,none⟩)] 29)∧w0.heap[w.heap.size+1]?=some (.cells #[.string k] 9)∧w0.heap[w.heap.size+1+1]?=some (.cells #[.string ⟨#[]⟩] 9)∧w0.heap[w.heap.size+1+1+1]?=some (.cells #[.bool false] 4)∧Kp [] w w0∧w0.heap.size=w.heap.size+4:=by
  refine⟨_,rfl,θ _ (θ _ (θ _ (μ _ _))),θ _ (θ _ ?_),θ _ ?_,?_,((((Kp.refl _ _).alloc _).alloc _).alloc _).alloc _,by simp⟩
  ·have e:=μ (w.alloc (.cells #[.pointer (some ⟨x,0,none⟩)] 29)) (.cells #[.string k] 9);simpa using e
  ·have e:=μ ((w.alloc (.cells #[.pointer (some ⟨x,0,none⟩)] 29)).alloc (.cells #[.string k] 9)) (.cells #[.string ⟨#[]⟩] 9);simpa using e
  ·have e:=μ (((w.alloc (.cells #[.pointer (some ⟨x,0,none⟩)] 29)).alloc (.cells #[.string k] 9)).alloc (.cells #[.string ⟨#[]⟩] 9)) (.cells #[.bool false] 4);simpa using e
 rw[←hw0];clear hw0;refine (xX6 x t.St 48 t s #[] _ _ w0 (hKp0.hp hx) ho rfl (hKp0.hp hSt) hpo HXS.out).mono ?_;rintro e w2 ⟨v,rfl,hv,hSt2,hK2⟩;have hVe:=hK2.ho hV0;have hBe:=hK2.ho hB0;have HB:Hid (qI6 w2 v (some 5)∧w2.heap[t.St]?=some (ν 0 s)∧Kp [t.St] w w2):=⟨hv,hSt2,(hKp0.mono (by simp)).trans hK2 (fun _ h _=>h)⟩;clear hv hSt2 hK2 hT0 hK0 hV0 hB0 hKp0;have hVs:=ζ hVe;have hBs:=ζ hBe;have v0:=ξ hVe 0;simp only[zG,zH,zI] at v0;have b0:=ξ hBe 0;simp only[zG,zH,zI] at b0;clear hVe hBe;go_wp2_with fail
 go_quiet (fail)
 go_wp2;refine bodyPost_ret (v:=.tuple #[.string ⟨#[]⟩,.bool false,v]) (by simp[results,results23,go_sem]) rfl ?_;exact⟨v,rfl,HB.out.1,HB.out.2.1,HB.out.2.2.drewN _⟩
def qN6(on:Option Addr)(h:HL):Obj:=.cells #[.pointer on,.string h.key,.int .i64 h.b,.int .u64 h.s,.pointer h.ptr] 83
def pkv:Option KV→KV
 | none=>⟨⟨#[]⟩,⟨#[]⟩⟩
 | some p=>p
theorem xV7(o:Option KV):qF3 o=.tuple #[.agg #[.string (pkv o).k,.string (pkv o).v],.bool o.isSome]:=by
 cases o<;>rfl
theorem xJ0(B Sx x:Nat)(t:Tx)(w:World)(hB:w.heap[B]?=some (.cells #[.pointer (some ⟨x,0,none⟩)] 29))(hS:w.heap[Sx]?=some (qN6 none ⟨⟨#[]⟩,0,0,none⟩))(hx:w.heap[x]?=some (qA3 t)):
  Calls prog 139 #[.pointer (some ⟨B,0,none⟩),.pointer (some ⟨Sx,0,none⟩)] w fun e w'=>e=qC6 none∧w'.heap[Sx]?=some (qN6 t.on t.h)∧Kp [Sx] w w':=by
 have hBs:=ζ hB;have hxs:=ζ hx;have hSs:=ζ hS;have b0:=ξ hB 0;simp only[zG,zH,zI] at b0;have p4:=ξ hx;simp only[qA3,zG,zH,zI] at p4;have s0:=ξ hS 0;have s1:=ξ hS 1;have s2:=ξ hS 2;have s3:=ξ hS 3;have s4:=ξ hS 4;simp only[qN6,zG,zH,zI] at s0 s1 s2 s3 s4;have q0:=ψ hS;have HS:=zh hS;clear hS hx hB;go_enter func139,ntmps139;go_wp2
 go_end0
 exact⟨rfl,φ (φ (φ (φ (φ HS.out 0 _) 1 _) 2 _) 3 _) 4 _,(((((Kp.refl [Sx] w).sc _).sc _).sc _).sc _).sc _⟩
theorem xJ1(Lc:Nat)(lo k:ByteArray)(w:World)(hL:w.heap[Lc]?=some (.cells #[.string lo] 9)):
  Calls prog 140 #[.string k,.pointer (some ⟨Lc,0,none⟩)] w fun e w'=>e=.returned (.bool !kl k lo)∧Kp [] w w':=by
 have hs:=ζ hL;have l0:=ξ hL 0;simp only[zG,zH,zI] at l0;go_enter func140,ntmps140;go_wp2;go_ret;exact⟨rfl,Kp.refl _ _⟩
theorem jE5(a b:ByteArray):(!Op.bytesLess a.toList b.toList && !(a.toList == b.toList))=kl b a:=by rw[←Bool.not_or,zY6];simp
theorem xJ3(Px:Nat)(p k v:ByteArray)(w:World)(hP:w.heap[Px]?=some (.cells #[.string p,.string v] 64)):
  Calls prog 143 #[.string k,.pointer (some ⟨Px,0,none⟩)] w fun e w'=>e=.returned (.bool (kl p k))∧Kp [] w w':=by
 have hs:=ζ hP;have l0:=ξ hP 0;simp only[zG,zH,zI] at l0;go_enter func143,ntmps143;go_wp2;go_ret;exact⟨by rw[←jE5];rfl,Kp.refl _ _⟩
theorem xJ2(E:SEnv)(Sx Nx Px Tx g:Nat)(cap:Array Value)(f:ByteArray→Bool)(h:HL)(r:Root)(w:World)(hS:w.heap[Sx]?=some (qN6 (some ⟨E.V,0,none⟩) h))(hN:w.heap[Nx]?=some (.cells #[.func (.func g) #[] cap] 227))
  (hP:w.heap[Px]?=some (.cells #[.string ⟨#[]⟩,.string ⟨#[]⟩] 64)) (hT:w.heap[Tx]?=some (.cells #[.bool false] 4)) (hd:E.Dev w) (hrr:RR E.toEnv w h r) (hg:RGood r) (hup:Up f) (ha:Asks E.toEnv w g cap f)
  (hcf:∀ (args:Array Value) (W:World),Sem.run prog (callFunc g args) W=.ok (.enter g args) W):
  Calls prog 141 #[.pointer (some ⟨Sx,0,none⟩),.pointer (some ⟨Nx,0,none⟩),.pointer (some ⟨Px,0,none⟩),.pointer (some ⟨Tx,0,none⟩)] w fun e w'=>e=qC6 none∧w'.heap[Px]?=some (.cells #[.string (pkv (r.cont.find? fun q=>f q.k)).k,.string (pkv (r.cont.find? fun q=>f q.k)).v] 64)∧w'.heap[Tx]?=some (.cells #[.bool (r.cont.find? fun q=>f q.k).isSome] 4)∧∃ w1,E.To w w1∧Kp [Px,Tx] w1 w':=by
 have hSs:=ζ hS;have hNs:=ζ hN;have s0:=ξ hS 0;have s1:=ξ hS 1;have s2:=ξ hS 2;have s3:=ξ hS 3;have s4:=ξ hS 4;simp only[qN6,zG,zH,zI] at s0 s1 s2 s3 s4;have n0:=ξ hN 0;simp only[zG,zH,zI] at n0;have HD:=zh hd;have HF:Hid (Calls prog 142 #[.agg #[.pointer (some ⟨E.V,0,none⟩),.string h.key,.int .i64 h.b,.int .u64 h.s,.pointer h.ptr],.func (.func g) #[] cap] w fun e w'=>e=.returned (qF3 (r.cont.find? fun q=>f q.k))∧E.To w w'):=jV2 E.toEnv r h g cap f w hd hrr hg hup ha hcf;have HP:=zh hP;have HT:=zh hT;clear hd hrr hg hup ha hS hN hP hT;go_enter func141,ntmps141;go_wp2_with fail;refine (show Calls _ _ _ _ _ from HF.out).mono ?_;rintro e w1 ⟨rfl,hT1⟩;rw[xV7];obtain⟨o,ho⟩:∃ o,(r.cont.find? fun q=>f q.k)=o:=⟨_,rfl⟩;rw[ho];obtain⟨fk,fv,fb,hfv⟩:∃ fk fv fb,(pkv o).k=fk∧(pkv o).v=fv∧o.isSome=fb:=⟨_,_,_,rfl,rfl,rfl⟩;have HV:Hid ((r.cont.find? fun q=>f q.k)=o∧(pkv o).k=fk∧(pkv o).v=fv∧o.isSome=fb):=⟨ho,hfv⟩;rw[hfv.1,hfv.2.1,hfv.2.2];clear ho hfv s0 s1 s2 s3 s4 n0;have hP1:=E.stay HD.out hT1 HP.out (by decide);have hTx1:=E.stay HD.out hT1 HT.out (by decide);have hPs:=ζ hP1;have hTs:=ζ hTx1;have HTP:Hid (Tx≠Px):=qB7 hTx1 hP1 (by decide);have hts:=qN2 (.string fk) (.string fv) hP1;have hT2:=hts.2.heap hTx1 (by simp;exact HTP.out);have p0:=ξ hP1;have fp0:=ψ hP1;have t0:=ξ hT2 0;simp only[zG,zH,zI] at t0;have ft0:=ψ hT2 0;have HE:Hid (E.To w w1∧((w1.setCell ⟨Px,0,none⟩ (.string fk)).setCell ⟨Px,1,none⟩ (.string fv)).heap[Px]?=some (.cells #[.string fk,.string fv] 64)∧((w1.setCell ⟨Px,0,none⟩ (.string fk)).setCell ⟨Px,1,none⟩ (.string fv)).heap[Tx]?=some (.cells #[.bool false] 4)∧Kp [Px] w1 ((w1.setCell ⟨Px,0,none⟩ (.string fk)).setCell ⟨Px,1,none⟩ (.string fv))):=⟨hT1,hts.1,hT2,hts.2⟩;clear hT1 hts hT2 hP1 hTx1;go_wp2
 go_end0
 refine⟨rfl,?_,?_,w1,HE.out.1,(HE.out.2.2.2.mono (S':=[Px,Tx]) (by simp +contextual)).sc _⟩
 ·rw[HV.out.1,HV.out.2.1,HV.out.2.2.1];exact (qA9 (fun e=>HTP.out e.symm) _ _).trans HE.out.2.1
 ·rw[HV.out.1,HV.out.2.2.2];exact φ HE.out.2.2.1 0 _
theorem xO9(args:Array Value)(W:World):Sem.run prog (callFunc 139 args) W=.ok (.enter 139 args) W:=by
 simp[go_sem,func139]
theorem xP0(args:Array Value)(W:World):Sem.run prog (callFunc 140 args) W=.ok (.enter 140 args) W:=by
 simp[go_sem,func140]
theorem xP1(args:Array Value)(W:World):Sem.run prog (callFunc 141 args) W=.ok (.enter 141 args) W:=by
 simp[go_sem,func141]
theorem xP2(args:Array Value)(W:World):Sem.run prog (callFunc 143 args) W=.ok (.enter 143 args) W:=by
 simp[go_sem,func143]
theorem xO8(args:Array Value)(W:World):Sem.run prog (callFunc 138 args) W=.ok (.enter 138 args) W:=by
 simp[go_sem,func138]
theorem zO7(x:Nat)(lo hi:ByteArray)(w:World):
  Calls prog 101 #[.pointer (some ⟨x,0,none⟩),.string lo,.string hi] w fun e w'=>e=.returned (.func (.func 138) #[] #[.pointer (some ⟨w.heap.size,0,none⟩),.pointer (some ⟨w.heap.size+1,0,none⟩),.pointer (some ⟨w.heap.size+2,0,none⟩)])∧
   w'.heap[w.heap.size]?=some (.cells #[.pointer (some ⟨x,0,none⟩)] 29)∧w'.heap[w.heap.size+1]?=some (.cells #[.string lo] 9)∧w'.heap[w.heap.size+2]?=some (.cells #[.string hi] 9)∧Kp [] w w':=by
 have hmf:=zM;go_enter func101,ntmps101;go_wp2;go_ret;refine⟨rfl,θ _ (θ _ (μ _ _)),θ _ ?_,?_,(((Kp.refl _ _).alloc _).alloc _).alloc _⟩
 ·have e:=μ (w.alloc (.cells #[.pointer (some ⟨x,0,none⟩)] 29)) (.cells #[.string lo] 9);simpa using e
 ·have e:=μ ((w.alloc (.cells #[.pointer (some ⟨x,0,none⟩)] 29)).alloc (.cells #[.string lo] 9)) (.cells #[.string hi] 9);simpa using e
end Go.Proofs.YtdohpenfkdckiabGreatDoor
namespace Go.Proofs.YtdohpenfkdckiabGreatDoor
open Go.Proofs.Tryz
def qC9(l:List KV)(lo:ByteArray):List KV:=l.filter fun q=>!kl q.k lo
theorem zG7{α:Type}(f:α→Bool):∀ l:List α,l.find? f=(l.filter f).head?
 | []=>rfl
 | a::l=>by
  by_cases h:f a=true
  ·rw[List.find?_cons_of_pos h,List.filter_cons_of_pos h,List.head?_cons]
  ·rw[List.find?_cons_of_neg h,List.filter_cons_of_neg h];exact zG7 f l
theorem zW0{l:List KV}(h:Sorted l)(lo:ByteArray):Sorted (qC9 l lo):=h.sublist List.filter_sublist
theorem xW4(l:List KV)(lo:ByteArray):(l.find? fun q=>!kl q.k lo)=(qC9 l lo)[0]?:=by
 rw[zG7,qC9,List.head?_eq_getElem?]
theorem xT1(l:List KV)(lo pk:ByteArray)(hlo:kl pk lo=false):(l.filter fun q=>kl pk q.k)=(qC9 l lo).filter fun q=>kl pk q.k:=by
 unfold qC9;rw[List.filter_filter];refine List.filter_congr fun q hq=>?_;by_cases hk:kl pk q.k=true
 ·have:kl q.k lo=false:=by
   by_cases e:kl q.k lo=true
   ·have:=qQ1 hk e;rw[hlo] at this;cases this
   ·simpa using e
  rw[hk,this];rfl
 ·have hk':kl pk q.k=false:=by simpa using hk
  rw[hk'];rfl
theorem xW5{l:List KV}(h:Sorted l)(lo:ByteArray){j:Nat}(hj:j<(qC9 l lo).length):(l.find? fun q=>kl (qC9 l lo)[j].k q.k)=(qC9 l lo)[j+1]?:=by
 rw[zG7,List.head?_eq_getElem?];have hlo:kl (qC9 l lo)[j].k lo=false:=by
  have hm:(qC9 l lo)[j]∈qC9 l lo:=List.getElem_mem hj;have:=(List.mem_filter.1 hm).2;simpa using this
 have e1:=xT1 l lo _ hlo;rw[e1];have hs:=zW0 h lo;generalize qC9 l lo=A at *;have e2:A.filter (fun q=>kl A[j].k q.k)=A.drop (j+1):=by
  have hsplit:A=A.take (j+1)++A.drop (j+1):=(List.take_append_drop _ _).symm;have hp:=List.pairwise_iff_getElem.1 hs;have h1:(A.take (j+1)).filter (fun q=>kl A[j].k q.k)=[]:=by
   rw[List.filter_eq_nil_iff];intro q hq;obtain⟨i,hi,rfl⟩:=List.getElem_of_mem hq;rw[List.getElem_take];simp only[List.length_take] at hi;by_cases e:i=j
   ·subst e;simp[qW5]
   ·have:=qQ0 (hp i j (by omega) hj (by omega));simp[this]
  have h2:(A.drop (j+1)).filter (fun q=>kl A[j].k q.k)=A.drop (j+1):=by
   rw[List.filter_eq_self];intro q hq;obtain⟨i,hi,rfl⟩:=List.getElem_of_mem hq;rw[List.getElem_drop];simp only[List.length_drop] at hi;exact hp j (j+1+i) hj (by omega) (by omega)
  calc A.filter (fun q=>kl A[j].k q.k)=(A.take (j+1)++A.drop (j+1)).filter (fun q=>kl A[j].k q.k):=by rw[List.take_append_drop]
   _=A.drop (j+1):=by rw[List.filter_append,h1,h2,List.nil_append]
 rw[e2];simp
theorem zU8(l:List KV)(lo hi:ByteArray):l.filter (inR lo hi)=(qC9 l lo).filter fun q=>kl q.k hi:=by
 rw[qC9,List.filter_filter];refine List.filter_congr fun q _=>?_;rw[inR,Bool.and_comm]
theorem zW1{l:List KV}(h:Sorted l)(lo hi:ByteArray){j:Nat}(hj:j≤(qC9 l lo).length)(ha:∀ q∈(qC9 l lo).take j,kl q.k hi=true)(hb:∀ q,(qC9 l lo)[j]?=some q→kl q.k hi=false):l.filter (inR lo hi)=(qC9 l lo).take j:=by
 rw[zU8];have hs:=zW0 h lo;generalize qC9 l lo=A at *;have h1:(A.take j).filter (fun q=>kl q.k hi)=A.take j:=List.filter_eq_self.2 ha;have h2:(A.drop j).filter (fun q=>kl q.k hi)=[]:=by
  rw[List.filter_eq_nil_iff];intro q hq;obtain⟨i,hi',rfl⟩:=List.getElem_of_mem hq;rw[List.getElem_drop];simp only[List.length_drop] at hi';have hjl:j<A.length:=by omega
  have hb':=hb A[j] (by simp[hjl]);by_cases e:i=0
  ·subst e;simp[hb']
  ·have:=List.pairwise_iff_getElem.1 hs j (j+i) hjl (by omega) (by omega);by_cases e2:kl A[j+i].k hi=true
   ·have:=qQ1 this e2;rw[hb'] at this;cases this
   ·simpa using e2
 calc A.filter (fun q=>kl q.k hi)=(A.take j++A.drop j).filter (fun q=>kl q.k hi):=by rw[List.take_append_drop]
  _=A.take j:=by rw[List.filter_append,h1,h2,List.append_nil]
theorem xW6{l:List KV}(h:Sorted l)(lo hi:ByteArray){j:Nat}(hj:j≤(qC9 l lo).length)(ha:∀ q∈(qC9 l lo).take j,kl q.k hi=true):(qC9 l lo).take j <+: l.filter (inR lo hi):=by
 rw[zU8];generalize qC9 l lo=A at *;have h1:(A.take j).filter (fun q=>kl q.k hi)=A.take j:=List.filter_eq_self.2 ha;refine⟨(A.drop j).filter (fun q=>kl q.k hi),?_⟩
 calc A.take j++(A.drop j).filter (fun q=>kl q.k hi)=(A.take j++A.drop j).filter (fun q=>kl q.k hi):=by rw[List.filter_append,h1]
  _=A.filter (fun q=>kl q.k hi):=by rw[List.take_append_drop]
theorem jX4(lo:ByteArray):Up fun k=>!kl k lo:=fun a b hab ha=>by
 by_cases e:kl b lo=true
 ·have:=qQ1 hab e;simp[this] at ha
 ·simpa using e
theorem jX5(p:ByteArray):Up fun k=>kl p k:=fun a b hab ha=>qQ1 ha hab
end Go.Proofs.YtdohpenfkdckiabGreatDoor
namespace Go.Proofs.YtdohpenfkdckiabGreatDoor
open Go.Proofs.Tryz
open Go.RowKit
attribute [local go_sem] Oper.semAt_some
def YS(W:World)(N:Nat)(S:List Nat):Prop:=∀ k∈S,k<N∧((∃ c t fr,W.heap[k]?=some (.cells c t fr)∧(t=25∨t=64))∨∃ rec,W.heap[k]?=some (.loop rec))
theorem YS.keep{W W':World}{N:Nat}{S:List Nat}(h:YS W N S)(hK:Kp S W W'){k:Nat}{c:Array Value}{t:TypeId}{fr:Nat × Nat}(hk:W.heap[k]?=some (.cells c t fr))(ht:t≠25∧(t≠64∨N≤k)):W'.heap[k]?=some (.cells c t fr):=by
 refine hK.heap hk fun hm=>?_;obtain⟨h1,h2⟩:=h k hm;rcases h2 with⟨c',t',fr',h3,h4⟩|⟨rec,h3⟩
 ·rw[hk] at h3;cases h3;rcases h4 with h4|h4
  ·exact ht.1 h4
  ·rcases ht.2 with h5|h5
   ·exact h5 h4
   ·omega
 ·rw[hk] at h3;cases h3
theorem YS.apt{W:World}{N:Nat}{S:List Nat}(h:YS W N S):Apt W S qF8:=fun k hk c t fr e hm=>by
 obtain⟨h1,h2⟩:=h k hk;rcases h2 with⟨c',t',fr',h3,h4⟩|⟨rec,h3⟩
 ·rw[e] at h3;cases h3;rcases h4 with rfl|rfl<;>revert hm<;>decide
 ·rw[e] at h3;cases h3
structure AllIn(E:SEnv)(x A n:Nat)(t:Tx)(s:Sto)(r:Root)(B Lc Hc:Nat)(lo hi:ByteArray)(w:World):Prop where
 live:LiveT E w x A n t s r
 hB:w.heap[B]?=some (.cells #[.pointer (some ⟨x,0,none⟩)] 29)
 hL:w.heap[Lc]?=some (.cells #[.string lo] 9)
 hH:w.heap[Hc]?=some (.cells #[.string hi] 9)
theorem AllIn.more{E:SEnv}{x A n:Nat}{t:Tx}{s:Sto}{r:Root}{B Lc Hc:Nat}{lo hi:ByteArray}{w w':World}(h:AllIn E x A n t s r B Lc Hc lo hi w)(hK:Kp [] w w'):AllIn E x A n t s r B Lc Hc lo hi w':=
 ⟨h.live.more hK,hK.hp h.hB,hK.hp h.hL,hK.hp h.hH⟩
theorem AllIn.turn{E:SEnv}{x A n:Nat}{t:Tx}{s:Sto}{r:Root}{B Lc Hc:Nat}{lo hi:ByteArray}{w w':World}{L:List Nat}(h:AllIn E x A n t s r B Lc Hc lo hi w)(hK:Kp L w w')(hS:w'.heap[t.St]?=some (ν 0 s))(hd:E.Dev w')
  (hL:∀ k∈L,k=t.St∨k∈E.S∨∃ c u fr,w.heap[k]?=some (.cells c u fr)∧u ∉ [85,29,9,186,152,158,81]):AllIn E x A n t s r B Lc Hc lo hi w':=by
 have hout:∀ k c u fr,w.heap[k]?=some (.cells c u fr)→u∈[85,29,9,152,158,81]→k ∉ L:=fun k c u fr hk hu hm=>by
  rcases hL k hm with h1|h1|⟨c',u',fr',h1,h2⟩
  ·subst h1;rw[h.live.hSt] at hk;cases hk
   revert hu;decide
  ·exact E.nin h.live.dev hk ((show ∀ u∈([85,29,9,152,158,81]:List TypeId),u ∉ qL5 by decide) u hu) h1
  ·rw[hk] at h1;cases h1;exact h2 ((show ∀ u∈([85,29,9,152,158,81]:List TypeId),u∈([85,29,9,186,152,158,81]:List TypeId) by decide) u hu)
 have hV:E.V ∉ L:=fun hm=>by
  rcases hL _ hm with h1|h1|⟨c',u',fr',h1,h2⟩
  ·exact qB7 h.live.hV h.live.hSt (by decide) h1
  ·exact h.live.vS h1
  ·rw[h.live.hV] at h1;cases h1;exact h2 (by decide)
 refine⟨{ h.live with hx:=hK.heap h.live.hx (hout _ _ _ _ h.live.hx (by decide)),hSt:=hS,hV:=hK.heap h.live.hV hV,dev:=hd,rr:=h.live.rr.keepT hK (fun k hk c u fr e hm=>hout k c u fr e ((show ∀ u∈qF8,u∈([85,29,9,152,158,81]:List TypeId) by decide) u hm) hk) },hK.heap h.hB (hout _ _ _ _ h.hB (by decide)),hK.heap h.hL (hout _ _ _ _ h.hL (by decide)),hK.heap h.hH (hout _ _ _ _ h.hH (by decide))⟩
end Go.Proofs.YtdohpenfkdckiabGreatDoor
namespace Go.Proofs.YtdohpenfkdckiabGreatDoor
open Go.Proofs.Tryz
open Go.RowKit
attribute [local go_sem] Oper.semAt_some
theorem YS.off{W:World}{N:Nat}{S:List Nat}(h:YS W N S):OffD W S:=fun k hk c t fr e hm=>by
 obtain⟨h1,h2⟩:=h k hk;rcases h2 with⟨c',t',fr',h3,h4⟩|⟨rec,h3⟩
 ·rw[e] at h3;cases h3;rcases h4 with rfl|rfl<;>revert hm<;>decide
 ·rw[e] at h3;cases h3
theorem AllIn.round{E:SEnv}{x A n:Nat}{t:Tx}{s:Sto}{r:Root}{B Lc Hc:Nat}{lo hi:ByteArray}{w w':World}{N:Nat}{SY:List Nat}(h:AllIn E x A n t s r B Lc Hc lo hi w)(hY:YS w N SY)(hK:Kp SY w w'):AllIn E x A n t s r B Lc Hc lo hi w':=by
 have hS:=hY.keep hK h.live.hSt ⟨by decide,.inl (by decide)⟩;refine⟨{ h.live with hx:=hY.keep hK h.live.hx ⟨by decide,.inl (by decide)⟩,hSt:=hS,hV:=hY.keep hK h.live.hV ⟨by decide,.inl (by decide)⟩,dev:=E.keepX w w' SY h.live.dev hK hY.off,rr:=h.live.rr.keepT hK hY.apt },hY.keep hK h.hB ⟨by decide,.inl (by decide)⟩,hY.keep hK h.hL ⟨by decide,.inl (by decide)⟩,hY.keep hK h.hH ⟨by decide,.inl (by decide)⟩⟩
theorem xJ7(E:SEnv)(x A n:Nat)(t:Tx)(s:Sto)(r:Root)(B Lc Hc:Nat)(lo hi call:ByteArray)(Sx Nx g:Nat)(cap:Array Value)(f:ByteArray→Bool)(w:World)(hI:AllIn E x A n t s r B Lc Hc lo hi w)(hS:w.heap[Sx]?=some (qN6 (some ⟨E.V,0,none⟩) t.h))(hN:w.heap[Nx]?=some (.cells #[.func (.func g) #[] cap] 227))(Px Tc:Nat)
  (hP:w.heap[Px]?=some (.cells #[.string ⟨#[]⟩,.string ⟨#[]⟩] 64)) (hT:w.heap[Tc]?=some (.cells #[.bool false] 4)) (hup:Up f)
  (ha:∀ W,Kp (t.St::E.S) w W→∀ k,Calls prog g (#[.string k]++cap) W fun e W'=>e=.returned (.bool (f k))∧Kp [] W W')
  (hcf:∀ (args:Array Value) (W:World),Sem.run prog (callFunc g args) W=.ok (.enter g args) W):
  Calls prog 38 #[.pointer (some ⟨x,0,none⟩),.string call,.func (.func 141) #[] #[.pointer (some ⟨Sx,0,none⟩),.pointer (some ⟨Nx,0,none⟩),.pointer (some ⟨Px,0,none⟩),.pointer (some ⟨Tc,0,none⟩)]] w fun e w'=>e=.returned .nilIface∧w'.heap[Px]?=some (.cells #[.string (pkv (r.cont.find? fun q=>f q.k)).k,.string (pkv (r.cont.find? fun q=>f q.k)).v] 64)∧w'.heap[Tc]?=some (.cells #[.bool (r.cont.find? fun q=>f q.k).isSome] 4)∧w'.heap[t.St]?=some (ν 0 s)∧E.Dev w'∧Kp (t.St::Px::Tc::E.S) w w':=by
 have hL:=hI.live;refine (zA6 none (by decide) x t.St 141 t s s #[] _ call (Px::Tc::E.S) (fun W w1=>E.Dev w1∧w1.heap[t.St]?=some (ν 1 s)∧w1.heap[Px]?=some (.cells #[.string (pkv (r.cont.find? fun q=>f q.k)).k,.string (pkv (r.cont.find? fun q=>f q.k)).v] 64)∧w1.heap[Tc]?=some (.cells #[.bool (r.cont.find? fun q=>f q.k).isSome] 4)) w hL.hx hL.over rfl hL.hSt hL.po hL.xS (xP1 _) (fun i hi=>by
  simp only[List.mem_cons] at hi;rcases hi with h|h|h
  ·rw[h];exact ζ hP
  ·rw[h];exact ζ hT
  ·exact E.low w hL.dev i h) ?_).mono ?_
 ·intro W hK hSW;have hd:=hL.devS hK;have hne:∀ {k:Nat} {c:Array Value} {u:TypeId} {fr:Nat × Nat},w.heap[k]?=some (.cells c u fr)→u≠126→k ∉ [t.St]:=fun hk hu hm=>qB7 hk hL.hSt hu (List.mem_singleton.1 hm);have hPW:=hK.heap hP (hne hP (by decide));have hTW:=hK.heap hT (hne hT (by decide));refine (xJ2 E Sx Nx Px Tc g cap f t.h r W (hK.heap hS (hne hS (by decide))) (hK.heap hN (hne hN (by decide))) hPW hTW hd (hL.rr.keepT hK (Apt.one hL.hSt (by decide))) hL.good hup (fun W' k hT'=>ha W' ((hK.mono (S':=t.St::E.S) (by simp)).trans hT'.kp (by simp +contextual)) k) hcf).mono ?_;rintro e w2 ⟨rfl,h1,h2,w1,hT1,hK1⟩;have hSt2:w2.heap[t.St]?=some (ν 1 s):=hK1.heap (E.stay hd hT1 hSW (by decide)) (by
   simp only[List.mem_cons,List.not_mem_nil,or_false,not_or];exact⟨qB7 hL.hSt hP (by decide),qB7 hL.hSt hT (by decide)⟩)
  exact⟨rfl,⟨E.keepX w1 w2 _ hT1.dev hK1 ((OffD.one (E.stay hd hT1 hPW (by decide)) (by decide)).cons (OffD.one (E.stay hd hT1 hTW (by decide)) (by decide))),hSt2,h1,h2⟩,(hT1.kp.mono (S':=t.St::Px::Tc::E.S) (by simp +contextual)).trans hK1 (by intro i hi _;simp at hi ⊢;rcases hi with h | h<;>simp[h]),hSt2⟩
 ·rintro e w2 ⟨v,rfl,hv,hSt2,hK2,W,w1,Bb,⟨hd1,hS1,hP1,hT1⟩,hKW,hb1,hb2,hb3,hKB⟩;have hv':v=.nilIface:=hv;subst hv';have hne:∀ {k:Nat} {c:Array Value} {u:TypeId} {fr:Nat × Nat},w1.heap[k]?=some (.cells c u fr)→u≠126→u≠35→k ∉ [t.St,Bb]:=fun hk hu hu2 hm=>by
   simp only[List.mem_cons,List.not_mem_nil,or_false] at hm;rcases hm with h|h
   ·exact qB7 hk hS1 hu h
   ·exact qB7 hk hb3 hu2 h
  exact⟨rfl,hKB.heap hP1 (hne hP1 (by decide) (by decide)),hKB.heap hT1 (hne hT1 (by decide) (by decide)),hSt2,E.keepX w1 w2 _ hd1 hKB (zK8 hS1 hb3),hK2⟩
theorem xJ6(E:SEnv)(x A n:Nat)(t:Tx)(s:Sto)(r:Root)(B Lc Hc:Nat)(lo hi call:ByteArray)(Sx:Nat)(w:World)(hI:AllIn E x A n t s r B Lc Hc lo hi w)(hS:w.heap[Sx]?=some (qN6 none ⟨⟨#[]⟩,0,0,none⟩)):
  Calls prog 38 #[.pointer (some ⟨x,0,none⟩),.string call,.func (.func 139) #[] #[.pointer (some ⟨B,0,none⟩),.pointer (some ⟨Sx,0,none⟩)]] w fun e w'=>e=.returned .nilIface∧w'.heap[Sx]?=some (qN6 (some ⟨E.V,0,none⟩) t.h)∧w'.heap[t.St]?=some (ν 0 s)∧E.Dev w'∧Kp [t.St,Sx] w w':=by
 have hL:=hI.live;refine (zA6 none (by decide) x t.St 139 t s s #[] _ call [Sx] (fun W w1=>E.Dev w1∧w1.heap[t.St]?=some (ν 1 s)∧w1.heap[Sx]?=some (qN6 (some ⟨E.V,0,none⟩) t.h)) w hL.hx hL.over rfl hL.hSt hL.po hL.xS (xO9 _) (fun i hi=>by rw[List.mem_singleton.1 hi];exact ζ hS) ?_).mono ?_
 ·intro W hK hSW;have hd:=hL.devS hK;have hne:∀ {k:Nat} {c:Array Value} {u:TypeId} {fr:Nat × Nat},w.heap[k]?=some (.cells c u fr)→u≠126→k ∉ [t.St]:=fun hk hu hm=>qB7 hk hL.hSt hu (List.mem_singleton.1 hm);have hSxW:=hK.heap hS (hne hS (by decide));refine (xJ0 B Sx x t W (hK.heap hI.hB (hne hI.hB (by decide))) hSxW (hK.heap hL.hx (hne hL.hx (by decide)))).mono ?_;rintro e w1 ⟨rfl,h1,hK1⟩;have hS1:w1.heap[t.St]?=some (ν 1 s):=hK1.heap hSW (by simp;exact qB7 hSW hSxW (by decide));rw[hL.on] at h1;exact⟨rfl,⟨E.keepX W w1 _ hd hK1 (OffD.one hSxW (by decide)),hS1,h1⟩,hK1.mono (by simp +contextual),hS1⟩
 ·rintro e w2 ⟨v,rfl,hv,hSt2,hK2,W,w1,Bb,⟨hd1,hS1,hP1⟩,hKW,hb1,hb2,hb3,hKB⟩;have hv':v=.nilIface:=hv;subst hv';refine⟨rfl,hKB.heap hP1 ?_,hSt2,E.keepX w1 w2 _ hd1 hKB (zK8 hS1 hb3),hK2⟩;simp only[List.mem_cons,List.not_mem_nil,or_false,not_or];exact⟨qB7 hP1 hS1 (by decide),qB7 hP1 hb3 (by decide)⟩
structure AllSt(E:SEnv)(x A n:Nat)(t:Tx)(s:Sto)(r:Root)(B Lc Hc:Nat)(lo hi:ByteArray)(Sx Nx:Nat)(J:Nat→List KV→World→Prop)(j:Nat)(w:World):Prop where
 inn:AllIn E x A n t s r B Lc Hc lo hi w
 le:j≤(qC9 r.cont lo).length
 ahead:∀ q∈(qC9 r.cont lo).take j,kl q.k hi=true
 hS:w.heap[Sx]?=some (qN6 (some ⟨E.V,0,none⟩) t.h)
 hN:(j=0∧w.heap[Nx]?=some (.cells #[.func (.func 140) #[] #[.pointer (some ⟨Lc,0,none⟩)]] 227))∨∃ p Px,1≤j∧(qC9 r.cont lo)[j-1]?=some p∧w.heap[Nx]?=some (.cells #[.func (.func 143) #[] #[.pointer (some ⟨Px,0,none⟩)]] 227)∧w.heap[Px]?=some (.cells #[.string p.k,.string p.v] 64)
 jj:J w.heap.size ((qC9 r.cont lo).take j) w
theorem AllSt.asks{E:SEnv}{x A n:Nat}{t:Tx}{s:Sto}{r:Root}{B Lc Hc:Nat}{lo hi:ByteArray}{Sx Nx:Nat}{J:Nat→List KV→World→Prop}{j:Nat}{w:World}(h:AllSt E x A n t s r B Lc Hc lo hi Sx Nx J j w)(hs:Sorted r.cont):
  ∃ g cap f,w.heap[Nx]?=some (.cells #[.func (.func g) #[] cap] 227)∧Up f∧(∀ (args:Array Value) (W:World),Sem.run prog (callFunc g args) W=.ok (.enter g args) W)∧(r.cont.find? fun q=>f q.k)=(qC9 r.cont lo)[j]?∧
   ∀ W,Kp (t.St::E.S) w W→∀ k,Calls prog g (#[.string k]++cap) W fun e W'=>e=.returned (.bool (f k))∧Kp [] W W':=by
 have hne:∀ {k:Nat} {c:Array Value} {u:TypeId} {fr:Nat × Nat},w.heap[k]?=some (.cells c u fr)→u≠126→u ∉ qL5→k ∉ t.St::E.S:=fun hk hu hd hm=>by
  rcases List.mem_cons.1 hm with h1|h1
  ·exact qB7 hk h.inn.live.hSt hu h1
  ·exact E.nin h.inn.live.dev hk hd h1
 rcases h.hN with⟨rfl,hN⟩|⟨p,Px,hj,hp,hN,hP⟩
 ·exact⟨_,_,_,hN,jX4 lo,xP0,xW4 _ _,fun W hK k=>xJ1 Lc lo k W (hK.heap h.inn.hL (hne h.inn.hL (by decide) (by decide)))⟩
 ·obtain⟨hl,hp'⟩:=List.getElem?_eq_some_iff.1 hp;refine⟨_,_,_,hN,jX5 p.k,xP2,?_,fun W hK k=>xJ3 Px p.k k p.v W (hK.heap hP (hne hP (by decide) (by decide)))⟩;have e:=xW5 hs lo hl;rw[hp'] at e;rw[e,show j-1+1=j by omega]
theorem xJ4(E:SEnv)(x A n:Nat)(t:Tx)(s:Sto)(r:Root)(B Lc Hc l m:Nat)(lo hi:ByteArray)(J:Nat→List KV→World→Prop)(Jx:List KV→World→Prop)(w:World)
  (hJ:∀ N pre W W' S,J N pre W→Kp S W W'→(∀ k∈S,k=t.St∨k∈E.S∨(w.heap.size≤k∧∃ c fr,W.heap[k]?=some (.cells c 227 fr)))→W'.heap[t.St]?=some (ν 0 s)→E.Dev W'→J N pre W')
  (hJN:∀ N N' pre W,J N pre W→N≤N'→J N' pre W)
  (hY:∀ N pre p W1,J N pre W1→N≤W1.heap.size→pre++[p] <+: r.cont.filter (inR lo hi)→AllIn E x A n t s r B Lc Hc lo hi W1→YieldAt Fence.wide (m-1) prog l #[.agg #[.string p.k,.string p.v],.nilIface] W1 fun e W'=>∃ SY,YS W1 N SY∧Kp SY W1 W'∧((e=.returned (.bool true)∧J W'.heap.size (pre++[p]) W')∨(e=.returned (.bool false)∧Jx (pre++[p]) W')))
  (hI:AllIn E x A n t s r B Lc Hc lo hi w) (h0:J w.heap.size [] w):
  CallsIn Fence.wide m prog 138 #[.func (.yield l) #[] #[],.pointer (some ⟨B,0,none⟩),.pointer (some ⟨Lc,0,none⟩),.pointer (some ⟨Hc,0,none⟩)] w fun e w'=>(∃ v,e=.returned v)∧((∃ N,J N (r.cont.filter (inR lo hi)) w')∨∃ pre,pre <+: r.cont.filter (inR lo hi)∧Jx pre w'):=by
 have hmf:=zM;have HI:=zh hI;have HJ:=zh hJ;have HJN:=zh hJN;have HY:=zh hY;have HJ0:=zh h0;have HSO:Hid (Sorted r.cont):=(jR0 hI.live.good).1;have hB0:=θ (.cells #[.pointer none,.string ⟨#[]⟩,.int .i64 0,.int .u64 0,.pointer none] 83) hI.hB;have b0:=ξ hB0 0;simp only[zG,zH] at b0;have hBs:=ζ hI.hB;have hSs:=ζ hI.live.hSt;clear hI hJ hJN hY h0 hB0;refine callsIn_of_wp func138 rfl trivial ?_ rfl;simp only[ntmps138,List.size_toArray,List.length_cons,List.length_nil,Nat.reduceAdd,Nat.reduceSub,Array.replicate_succ,Array.replicate_zero,List.push_toArray,List.append_toArray,List.nil_append,List.cons_append]
 gi_wp2_with fail
 refine⟨trivial,fun h=>(by cases h),?_⟩;obtain⟨w0,hw0,hS0,hK0⟩:∃ w0,w0=w.alloc (.cells #[.pointer none,.string ⟨#[]⟩,.int .i64 0,.int .u64 0,.pointer none] 83)∧w0.heap[w.heap.size]?=some (qN6 none ⟨⟨#[]⟩,0,0,none⟩)∧Kp [] w w0:=⟨_,rfl,μ _ _,(Kp.refl _ _).alloc _⟩;rw[←hw0];clear hw0 b0;have hI0:=HI.out.more hK0;refine callsIn_wide.2 ((xJ6 E x A n t s r B Lc Hc lo hi _ w.heap.size w0 hI0 hS0).mono ?_);rintro e w1 ⟨rfl,hS1,hSt1,hd1,hK1⟩;have hI1:AllIn E x A n t s r B Lc Hc lo hi w1:=hI0.turn hK1 hSt1 hd1 (fun k hk=>by
  simp only[List.mem_cons,List.not_mem_nil,or_false] at hk;rcases hk with h|h
  ·exact .inl h
  ·rw[h];exact .inr (.inr ⟨_,_,_,hS0,by decide⟩))
 have hJ1:J w.heap.size [] w1:=HJ.out _ _ _ _ [t.St] HJ0.out ((hK0.mono (S':=[t.St]) (by simp)).trans hK1 (by intro i hi hlt;simp at hi ⊢;omega)) (by simp) hSt1 hd1;have hs1:=Nat.le_trans hK0.size hK1.size;clear hS0 hK0 hI0 hK1
 gi_wp2_with fail
 obtain⟨w2,hw2,hN2,hK2⟩:∃ w2,w2=w1.alloc (.cells #[.func (.func 140) #[] #[.pointer (some ⟨Lc,0,none⟩)]] 227)∧w2.heap[w1.heap.size]?=some (.cells #[.func (.func 140) #[] #[.pointer (some ⟨Lc,0,none⟩)]] 227)∧Kp [] w1 w2:=⟨_,rfl,μ _ _,(Kp.refl _ _).alloc _⟩;rw[←hw2];clear hw2;have hI2:=hI1.more hK2;have HA2:Hid (AllSt E x A n t s r B Lc Hc lo hi w.heap.size w1.heap.size J 0 w2):=
  ⟨hI2,Nat.zero_le _,by simp,hK2.hp hS1,.inl ⟨rfl,hN2⟩,HJN.out _ _ _ _ (HJ.out _ _ _ _ [] hJ1 hK2 (by simp) hI2.live.hSt hI2.live.dev) (by have:=hK2.size;omega)⟩
 clear hI2 hI1 hN2 hK2 hS1 hSt1 hd1 hJ1;obtain⟨Sx,hSx⟩:∃ Sx,Sx=w.heap.size:=⟨_,rfl⟩;obtain⟨Nx,hNx⟩:∃ Nx,Nx=w1.heap.size:=⟨_,rfl⟩;rw[←hSx,←hNx] at HA2;rw[←hSx,←hNx];have hNw:w.heap.size≤Nx:=by omega
 clear hSx hNx hs1 hBs hSs
 gi_loopg [6] ((qC9 r.cont lo).length+1) (fun k err wr=>∃ j,k+j=(qC9 r.cont lo).length+1∧err=.nilIface∧Hid (AllSt E x A n t s r B Lc Hc lo hi Sx Nx J j wr))
 case atStart=>exact⟨0,rfl,rfl,HA2⟩
 case round=>
  obtain⟨j,hkj,rfl,hA⟩:=hrel;obtain⟨g,cap,f,hN,hup,hcf,hfind,hask⟩:=hA.out.asks HSO.out;have hBr:=hA.out.inn.hB;have hb0:=θ (.cells #[.bool false] 4) (θ (.cells #[.string ⟨#[]⟩,.string ⟨#[]⟩] 64) hBr);have hBs:=ζ hBr;have b0:=ξ hb0 0;simp only[zG,zH,zI] at b0;have HF:Hid (wr.heap[Nx]?=some (.cells #[.func (.func g) #[] cap] 227)∧Up f∧(∀ (args:Array Value) (W:World),Sem.run prog (callFunc g args) W=.ok (.enter g args) W)∧(r.cont.find? fun q=>f q.k)=(qC9 r.cont lo)[j]?∧
   ∀ W,Kp (t.St::E.S) wr W→∀ k,Calls prog g (#[.string k]++cap) W fun e W'=>e=.returned (.bool (f k))∧Kp [] W W'):=⟨hN,hup,hcf,hfind,hask⟩
  clear hN hup hcf hfind hask hBr hb0
  gi_wp2_with fail
  refine⟨trivial,fun h=>(by cases h),?_⟩;obtain⟨w3,hw3,hP3,hT3,hK3,hs3⟩:∃ w3,w3=(wr.alloc (.cells #[.string ⟨#[]⟩,.string ⟨#[]⟩] 64)).alloc (.cells #[.bool false] 4)∧w3.heap[wr.heap.size]?=some (.cells #[.string ⟨#[]⟩,.string ⟨#[]⟩] 64)∧w3.heap[wr.heap.size+1]?=some (.cells #[.bool false] 4)∧Kp [] wr w3∧w3.heap.size=wr.heap.size+2:=by
   refine⟨_,rfl,θ _ (μ _ _),?_,((Kp.refl _ _).alloc _).alloc _,by simp⟩;have e:=μ (wr.alloc (.cells #[.string ⟨#[]⟩,.string ⟨#[]⟩] 64)) (.cells #[.bool false] 4);simpa using e
  rw[←hw3];clear hw3 b0;have hI3:=hA.out.inn.more hK3;have hS3:=hK3.hp hA.out.hS;have hN3:=hK3.hp HF.out.1;refine callsIn_wide.2 ((xJ7 E x A n t s r B Lc Hc lo hi _ Sx Nx g cap f w3 hI3 hS3 hN3 wr.heap.size (wr.heap.size+1) hP3 hT3 HF.out.2.1 (fun W hK k=>HF.out.2.2.2.2 W ((hK3.mono (by simp)).trans hK (fun _ h _=>h)) k) HF.out.2.2.1).mono ?_);rintro e w4 ⟨rfl,hP4,hT4,hSt4,hd4,hK4⟩;rw[HF.out.2.2.2.1] at hP4 hT4;have hSt3:=hI3.live.hSt;have hK34:Kp (t.St::E.S) wr w4:=(hK3.mono (S':=t.St::E.S) (by simp)).trans hK4 (by
   intro i hi hlt;simp only[List.mem_cons] at hi ⊢;rcases hi with h|h|h|h
   ·exact .inl h
   ·omega
   ·omega
   ·exact .inr h)
  have hturn:∀ k∈t.St::wr.heap.size::(wr.heap.size+1)::E.S,k=t.St∨k∈E.S∨∃ c u fr,w3.heap[k]?=some (.cells c u fr)∧u ∉ [85,29,9,186,152,158,81]:=fun k hk=>by
   simp only[List.mem_cons] at hk;rcases hk with h|h|h|h
   ·exact .inl h
   ·rw[h];exact .inr (.inr ⟨_,_,_,hP3,by decide⟩)
   ·rw[h];exact .inr (.inr ⟨_,_,_,hT3,by decide⟩)
   ·exact .inr (.inl h)
  have HI4:Hid (AllIn E x A n t s r B Lc Hc lo hi w4):=hI3.turn hK4 hSt4 hd4 hturn;have HJ4:Hid (J wr.heap.size ((qC9 r.cont lo).take j) w4):=HJ.out _ _ _ _ (t.St::E.S) hA.out.jj hK34 (fun k hk=>by
   rcases List.mem_cons.1 hk with h|h
   ·exact .inl h
   ·exact .inr (.inl h)) hSt4 hd4
  have hne:∀ {k:Nat} {c:Array Value} {u:TypeId} {fr:Nat × Nat},wr.heap[k]?=some (.cells c u fr)→u≠126→u ∉ qL5→k ∉ t.St::E.S:=fun hk hu hdv hm=>by
   rcases List.mem_cons.1 hm with h1|h1
   ·exact qB7 hk hA.out.inn.live.hSt hu h1
   ·exact E.nin hA.out.inn.live.dev hk hdv h1
  have HS4:Hid (w4.heap[Sx]?=some (qN6 (some ⟨E.V,0,none⟩) t.h)):=hK34.heap hA.out.hS (hne hA.out.hS (by decide) (by decide));have hN4:=hK34.heap HF.out.1 (hne HF.out.1 (by decide) (by decide));have HP4:=zh hP4;have HN4:=zh hN4;have hP4s:=ζ hP4;have hT4s:=ζ hT4;have hH4:=HI4.out.hH;have hH4s:=ζ hH4;have hle:=hA.out.le;have HAH:=zh hA.out.ahead;have y0:=ξ hH4 0;simp only[zG,zH,zI] at y0
  cases hq:(qC9 r.cont lo)[j]? with
  | none=>
   rw[hq] at hT4;have c0:=ξ hT4 0;simp only[zG,zH,zI] at c0;have HEQ:Hid (r.cont.filter (inR lo hi)=(qC9 r.cont lo).take j):=zW1 HSO.out lo hi hle HAH.out (fun q h=>by rw[hq] at h;cases h);clear hq hP4 hT4 hK4 hK34 hturn hne hI3 hS3 hN3 hP3 hT3 hK3 hN4 hSt4 hd4 hSt3 hH4
   gi_wp2
   refine⟨fun _ h=>(by cases h),?_⟩
   gi_wp2
   refine bodyPost_ret (results_none results138 _ _ _) rfl ?_;exact⟨⟨_,rfl⟩,.inl ⟨wr.heap.size,by rw[HEQ.out];exact HJ4.out⟩⟩
  | some q=>
   rw[hq] at hT4 hP4;simp only[pkv,Option.isSome_some] at hT4 hP4;have c0:=ξ hT4 0;simp only[zG,zH,zI] at c0;have p0:=ξ hP4;obtain⟨hjl,hqe⟩:=List.getElem?_eq_some_iff.1 hq;have HQ:=zh hq
   cases hh:kl q.k hi with
   | false=>
    have hhb:Op.bytesLess q.k.toList hi.toList=false:=hh;have HEQ:Hid (r.cont.filter (inR lo hi)=(qC9 r.cont lo).take j):=zW1 HSO.out lo hi hle HAH.out (fun q' h=>by rw[hq] at h;cases h;exact hh);clear hq hP4 hT4 hK4 hK34 hturn hne hI3 hS3 hN3 hP3 hT3 hK3 hN4 hSt4 hd4 hSt3 hH4 hh hjl hqe
    gi_wp2
    refine⟨fun _ h=>(by cases h),?_⟩
    gi_wp2
    refine bodyPost_ret (results_none results138 _ _ _) rfl ?_;exact⟨⟨_,rfl⟩,.inl ⟨wr.heap.size,by rw[HEQ.out];exact HJ4.out⟩⟩
   | true=>
    have hhb:Op.bytesLess q.k.toList hi.toList=true:=hh;have htk:(qC9 r.cont lo).take (j+1)=(qC9 r.cont lo).take j++[q]:=by rw[List.take_succ_eq_append_getElem hjl,hqe]
    have HAH1:Hid (∀ q'∈(qC9 r.cont lo).take (j+1),kl q'.k hi=true):=fun q' hm=>by
     rw[htk] at hm;rcases List.mem_append.1 hm with hm|hm
     ·exact HAH.out q' hm
     ·rw[List.mem_singleton.1 hm];exact hh
    have HPA:Hid ((qC9 r.cont lo).take j++[q] <+: r.cont.filter (inR lo hi)):=by
     show _ <+: _;rw[←htk];exact xW6 HSO.out lo hi (by omega) HAH1.out
    obtain⟨fn,tmps,assign,body,hy,hR⟩:=HY.out wr.heap.size ((qC9 r.cont lo).take j) q w4 HJ4.out (by have:=hK34.size;omega) HPA.out HI4.out;have HTK:Hid ((qC9 r.cont lo).take (j+1)=(qC9 r.cont lo).take j++[q]∧j<(qC9 r.cont lo).length):=⟨htk,hjl⟩;have HP5:=zh hP4;clear hq hP4 hT4 hK4 hK34 hturn hne hI3 hS3 hN3 hP3 hT3 hK3 hN4 hSt4 hd4 hSt3 hH4 hh hjl hqe htk HP4
    gi_wp2
    refine⟨fun h=>(by cases h),hR.mono ?_⟩;clear hR hy;rintro e w5 ⟨SY,hYS,hKY,⟨rfl,hJ5⟩|⟨rfl,hJx⟩⟩
    ·have hI5:=HI4.out.round hYS hKY;have hS5:=hYS.keep hKY HS4.out ⟨by decide,.inl (by decide)⟩;have hN5:=hYS.keep hKY HN4.out ⟨by decide,.inl (by decide)⟩;have hP5:=hYS.keep hKY HP5.out ⟨by decide,.inr (Nat.le_refl _)⟩;have hN5s:=ζ hN5;obtain⟨w6,hw6,hN6,hK6⟩:∃ w6,w6=w5.setCell ⟨Nx,0,none⟩ (.func (.func 143) #[] #[.pointer (some ⟨wr.heap.size,0,none⟩)])∧w6.heap[Nx]?=some (.cells #[.func (.func 143) #[] #[.pointer (some ⟨wr.heap.size,0,none⟩)]] 227)∧Kp [Nx] w5 w6:=⟨_,rfl,φ hN5 0 _,(Kp.refl _ _).sc _⟩;have hne6:∀ {k:Nat} {c:Array Value} {u:TypeId} {fr:Nat × Nat},w5.heap[k]?=some (.cells c u fr)→u≠227→k ∉ [Nx]:=fun hk hu hm=>qB7 hk hN5 hu (List.mem_singleton.1 hm);have hSt6:=hK6.heap hI5.live.hSt (hne6 hI5.live.hSt (by decide));have hd6:=E.keepX w5 w6 [Nx] hI5.live.dev hK6 (OffD.one hN5 (by decide));have hI6:=hI5.turn hK6 hSt6 hd6 (fun k hk=>by rw[List.mem_singleton.1 hk];exact .inr (.inr ⟨_,_,_,hN5,by decide⟩));have hJ6:=HJ.out _ _ _ _ [Nx] hJ5 hK6 (fun k hk=>by rw[List.mem_singleton.1 hk];exact .inr (.inr ⟨hNw,_,_,hN5⟩)) hSt6 hd6;have HA6:Hid (AllSt E x A n t s r B Lc Hc lo hi Sx Nx J (j+1) w6):=
      ⟨hI6,HTK.out.2,HAH1.out,hK6.heap hS5 (hne6 hS5 (by decide)),.inr ⟨q,wr.heap.size,by omega,HQ.out,hN6,hK6.heap hP5 (hne6 hP5 (by decide))⟩,by
       rw[HTK.out.1];exact HJN.out _ _ _ _ hJ6 hK6.size⟩
     have n0:=ξ hN5 0;simp only[zG,zH,zI] at n0;have fn0:=ψ hN5 0;clear hI5 hS5 hP5 hN6 hK6 hne6 hSt6 hd6 hI6 hJ6 hJ5 hYS hKY hN5
     gi_wp2
     rw[←hw6]
     gi_roundg (gk-1)
     ·exact⟨j+1,by omega,rfl,HA6⟩
     ·omega
    ·have HX:=zh hJx;clear hJx hYS hKY
     gi_wp2
     refine bodyPost_ret (results_none results138 _ _ _) rfl ?_;exact⟨⟨_,rfl⟩,.inr ⟨_,HPA.out,HX.out⟩⟩
end Go.Proofs.YtdohpenfkdckiabGreatDoor
namespace Go.Proofs.YtdohpenfkdckiabGreatDoor
open Go.Proofs.Tryz
open Go.RowKit
attribute [local go_sem] Oper.semAt_some
theorem Kp.putObj{S:List Nat}{a b:World}(h:Kp S a b){l:Nat}(hl:l∈S∨a.heap.size≤l)(o:Obj):Kp S a (b.putObj l o):=
 ⟨h.os,h.tape,h.output,by have:=h.size;simp[World.putObj];omega,fun k hk hn=>(World.putObj_heap_other (by
  rcases hl with hl|hl
  ·intro e;subst e;exact hn hl
  ·omega)).trans (h.block k hk hn)⟩
structure ScI(E:SEnv)(t:Tx)(s:Sto)(Ob M:Nat)(rec:LoopState→Option Code→Loop)(w:World)(N:Nat)(pre:List KV)(W:World):Prop where
 kp:Kp (t.St::Ob::E.S) w W
 hSt:W.heap[t.St]?=some (ν 0 s)
 dev:E.Dev W
 out:∃ v,W.heap[Ob]?=some (.cells #[v] 25)∧OPA W w.heap.size v pre∧∀ k,v.ownBlock=some k→k<N
 le:pre.length≤M
 lt:w.heap.size+1<N
 dfr:W.heap[w.heap.size]?=some (.deferred (some []))
 loop:W.heap[w.heap.size+1]?=some (.loop (rec .ready none))
def ScX(E:SEnv)(t:Tx)(s:Sto)(Ob M id:Nat)(rec:LoopState→Option Code→Loop)(w:World)(pre:List KV)(W:World):Prop:=
 ∃ q p v,pre=q++[p]∧q.length=M∧Kp (t.St::Ob::E.S) w W∧W.heap[t.St]?=some (ν 0 s)∧E.Dev W∧W.heap[Ob]?=some (.cells #[v] 25)∧OPA W w.heap.size v q∧W.heap[w.heap.size]?=some (.deferred (some []))∧W.heap[w.heap.size+1]?=some (.loop (rec .done (some (.exit id))))
theorem OPA.keep{S:List Nat}{w w':World}{base:Nat}{v:Value}{ps:List KV}(h:OPA w base v ps)(hK:Kp S w w')(hS:∀ k∈S,∀ c fr,w.heap[k]?≠some (.cells c 64 fr)):OPA w' base v ps:=by
 refine⟨h.1,?_⟩;rcases h.2 with h0|⟨g,cap,cur,h1,h2,h3,h4⟩
 ·exact .inl h0
 ·exact .inr ⟨g,cap,cur,h1,h2,hK.heap h3 (fun hm=>hS g hm _ _ h3),h4⟩
theorem xH7{nn:Nat}{g:Operand}{ps:Array Tmp}{assign body:Code}{Q:Exit→Act→World→Prop}{a:Act}{w:World}(E:SEnv)(x A n:Nat)(t:Tx)(s:Sto)(r:Root)(B Lc Hc Ob M id:Nat)(lo hi:ByteArray)(h1:1≤nn)
  (hg:a.eval g=.func (.func 138) #[] #[.pointer (some ⟨B,0,none⟩),.pointer (some ⟨Lc,0,none⟩),.pointer (some ⟨Hc,0,none⟩)]) (hps:ps.size=2)
  (hI:AllIn E x A n t s r B Lc Hc lo hi w) (hO:w.heap[Ob]?=some (.cells #[.slice none 0 0] 25))
  (a₁:KV→Nat→Act)
  (hassign:∀ (l:Nat) (p:KV) (W:World) (K:Act→World→Prop),K (a₁ p W.heap.size) (W.alloc (.cells #[.string p.k,.string p.v] 64))→
   assign.wpIn (Fence.wide.inRound l) (nn-1-1) prog (Exit.then K (fun _ _ _=>False)) { tmps:=(ps.zip #[.agg #[.string p.k,.string p.v],.nilIface]).foldl (fun t (p,v)=>t.setIfInBounds p v) a.tmps,defers:=[] } W)
  (hbody:∀ (l:Nat) (pre:List KV) (p:KV) (W:World) (v:Value) (Pb:Nat),W.heap[Ob]?=some (.cells #[v] 25)→OPA W w.heap.size v pre→W.heap[Pb]?=some (.cells #[.string p.k,.string p.v] 64)→w.heap.size≤Pb→v.ownBlock≠some Pb→Kp (t.St::Ob::E.S) w W→pre.length≤M→pre.length≤50000→
   body.wpIn (Fence.wide.inRound l) (nn-1-1) prog (fun e _ W3=>match e with
    | .normal=>pre.length<M∧∃ v3 S3,Kp S3 W W3∧(∀ k∈S3,k=Ob∨v.ownBlock=some k)∧W3.heap[Ob]?=some (.cells #[v3] 25)∧OPA W3 w.heap.size v3 (pre++[p])∧∀ k,v3.ownBlock=some k→k<W3.heap.size
    | .exit i=>i=id∧pre.length=M∧W3=W
    | _=>False) (a₁ p Pb) W)
  (hdone:∀ (W:World) (v:Value),Kp (t.St::Ob::E.S) w W→W.heap[t.St]?=some (ν 0 s)→E.Dev W→W.heap[Ob]?=some (.cells #[v] 25)→OPA W w.heap.size v (qG2 r.cont lo hi M)→W.heap[w.heap.size]?=some (.deferred (some []))→w.heap.size<W.heap.size→Q .normal { a with defers:={ target:=.collected w.heap.size,args:=#[] }::a.defers } W)
  (hstop:∀ (W:World) (v:Value),Kp (t.St::Ob::E.S) w W→W.heap[t.St]?=some (ν 0 s)→E.Dev W→W.heap[Ob]?=some (.cells #[v] 25)→OPA W w.heap.size v (qG2 r.cont lo hi M)→W.heap[w.heap.size]?=some (.deferred (some []))→w.heap.size<W.heap.size→(Code.exit id).wpIn Fence.wide nn prog Q { a with defers:={ target:=.collected w.heap.size,args:=#[] }::a.defers } W):
  (Code.rangeFunc g ps assign body).wpIn Fence.wide nn prog Q a w:=by
 refine wpIn_rangeFunc ?_;intro fn hfn;obtain⟨rec,hrec⟩:∃ rec:LoopState→Option Code→Loop,rec=fun st pe=>{ state:=st,pending:=pe,fn,tmps:=a.tmps,params:=ps,assign,body,defers:=w.heap.size }:=⟨_,rfl⟩;obtain⟨W1,hW1⟩:∃ W1,(w.alloc (.deferred (some []))).alloc (.loop (rec .ready none))=W1:=⟨_,rfl⟩;have hL1:W1.heap[w.heap.size+1]?=some (.loop (rec .ready none)):=by
  rw[←hW1];have:=World.alloc_heap_new (w.alloc (.deferred (some []))) (.loop (rec .ready none));rwa [World.size_alloc] at this
 have hD1:W1.heap[w.heap.size]?=some (.deferred (some [])):=by
  rw[←hW1];exact (Below.heap_alloc _ _ _ (by simp)).trans (World.alloc_heap_new w _)
 have hK1:Kp [] w W1:=by rw[←hW1];exact ((Kp.refl _ _).alloc _).alloc _
 have hs1:W1.heap.size=w.heap.size+2:=by rw[←hW1];simp
 have hI1:=hI.more hK1;refine⟨w.heap.size+1,[{ target:=.collected w.heap.size,args:=#[] }],W1,{ target:=.fn (.func 138) #[.pointer (some ⟨B,0,none⟩),.pointer (some ⟨Lc,0,none⟩),.pointer (some ⟨Hc,0,none⟩)],args:=#[.func (.yield (w.heap.size+1)) #[] #[]] },W1,138,
  #[.func (.yield (w.heap.size+1)) #[] #[],.pointer (some ⟨B,0,none⟩),.pointer (some ⟨Lc,0,none⟩),.pointer (some ⟨Hc,0,none⟩)],W1,?_,?_,?_,?_,fun h=>(by cases h),?_⟩
 ·rw[←hW1,hrec];exact run_enterLoop_outer _ _ _ _ _
 ·simp only[resolve,hg];simp[go_sem]
 ·intro f' hf';trivial
 ·simp[invoke,go_sem,xO8]
 ·have hObs:=ζ hO;have hSts:=ζ hI.live.hSt;have hObSt:Ob≠t.St:=qB7 hO hI.live.hSt (by decide);refine (xJ4 E x A n t s r B Lc Hc (w.heap.size+1) (nn-1) lo hi (ScI E t s Ob M rec w) (ScX E t s Ob M id rec w) W1 ?_ ?_ ?_ hI1 ?_).mono ?_
  ·
   intro N pre W W' S h hK hS hSt' hd';obtain⟨v,hv1,hv2,hv3⟩:=h.out;have hno:∀ k∈S,∀ c u fr,W.heap[k]?=some (.cells c u fr)→u=25∨u=64→False:=fun k hk c u fr e hu=>by
    rcases hS k hk with h1|h1|⟨_,c',fr',h1⟩
    ·rw[h1,h.hSt] at e;cases e;rcases hu with hu | hu<;>revert hu<;>decide
    ·exact E.nin h.dev e (by rcases hu with rfl | rfl<;>decide) h1
    ·rw[e] at h1;cases h1;rcases hu with hu | hu<;>revert hu<;>decide
   have hnl:∀ k∈S,∀ o,W.heap[k]?=some o→(∀ c u fr,o≠.cells c u fr)→False:=fun k hk o e ho=>by
    rcases hS k hk with h1|h1|⟨_,c',fr',h1⟩
    ·rw[h1,h.hSt] at e;cases e;exact ho _ _ _ rfl
    ·obtain⟨c',t',fr',h2,h3⟩:=E.offS W h.dev k h1;rw[e] at h2;cases h2;exact ho _ _ _ rfl
    ·rw[e] at h1;cases h1;exact ho _ _ _ rfl
   refine⟨h.kp.trans hK (fun i hi hlt=>?_),hSt',hd',⟨v,hK.heap hv1 (fun hm=>hno _ hm _ _ _ hv1 (.inl rfl)),hv2.keep hK (fun k hk c fr e=>hno k hk _ _ _ e (.inr rfl)),hv3⟩,h.le,h.lt,hK.heap h.dfr (fun hm=>hnl _ hm _ h.dfr (by intros;simp)),hK.heap h.loop (fun hm=>hnl _ hm _ h.loop (by intros;simp))⟩;rcases hS i hi with h1|h1|⟨h1,_⟩
   ·simp[h1]
   ·simp[h1]
   ·omega
  ·intro N N' pre W h hN;obtain⟨v,hv1,hv2,hv3⟩:=h.out;exact { h with out:=⟨v,hv1,hv2,fun k hk=>by have:=hv3 k hk;omega⟩,lt:=by have:=h.lt;omega }
  ·
   intro N pre p W h hNs hpre hA;obtain⟨v,hv1,hv2,hv3⟩:=h.out;have hlt:w.heap.size+1<W.heap.size:=ζ h.loop;have hy:=run_yield (P:=prog) (args:=#[.agg #[.string p.k,.string p.v],.nilIface]) h.loop (by rw[hrec];simp[hps]);rw[hrec] at hy;refine⟨fn,_,assign,body,hy,roundIn_of_wpIn hfn (hassign _ p W _ ?_)⟩;clear hy;have hKa:Kp [] W (W.alloc (.cells #[.string p.k,.string p.v] 64)):=(Kp.refl _ _).alloc _;have hLa:=hKa.hp h.loop;refine⟨_,run_beginRound hLa (by rw[hrec]),?_⟩;obtain⟨W2,hW2,hL2,hK2,hP2,hs2⟩:∃ W2,W2=(W.alloc (.cells #[.string p.k,.string p.v] 64)).putObj (w.heap.size+1) (.loop { rec .ready none with state:=.busy })∧W2.heap[w.heap.size+1]?=some (.loop { rec .ready none with state:=.busy })∧Kp [w.heap.size+1] W W2∧W2.heap[W.heap.size]?=some (.cells #[.string p.k,.string p.v] 64)∧W2.heap.size=W.heap.size+1:=
    ⟨_,rfl,World.putObj_heap_same (by simp;omega),((hKa.mono (by simp)).putObj (by simp) _),(World.putObj_heap_other (by omega)).trans (μ _ _),by simp[World.putObj]⟩
   rw[←hW2];clear hW2 hKa hLa;have hne2:∀ {k:Nat} {c:Array Value} {u:TypeId} {fr:Nat × Nat},W.heap[k]?=some (.cells c u fr)→k ∉ [w.heap.size+1]:=fun hk hm=>by
    rw[List.mem_singleton.1 hm,h.loop] at hk;cases hk
   have hO2:=hK2.heap hv1 (hne2 hv1);have hOP2:OPA W2 w.heap.size v pre:=hv2.keep hK2 (fun k hk c fr e=>by rw[List.mem_singleton.1 hk,h.loop] at e;cases e);have hkw2:Kp (t.St::Ob::E.S) w W2:=h.kp.trans hK2 (by intro i hi hlt;simp at hi;omega);have hown:∀ k,v.ownBlock=some k→k<N∧∃ cur,W.heap[k]?=some (.cells cur 64):=fun k hk=>⟨hv3 k hk,by
    rcases hv2.2 with⟨h0,_⟩|⟨gb,cap,cur,e1,e2,e3,_⟩
    ·rw[h0] at hk;cases hk
    ·rw[e1] at hk;cases hk;exact⟨cur,e3⟩⟩
   have hlen:pre.length≤50000:=by
    have h1:=List.IsPrefix.length_le hpre;have h2:=List.length_filter_le (inR lo hi) r.cont;have h3:=hI.live.sz;simp at h1;omega
   refine wpIn_mono (hbody _ pre p W2 v W.heap.size hO2 hOP2 hP2 (by omega) (fun e=>by have:=(hown _ e).1;omega) hkw2 h.le hlen) ?_;rintro e a3 W3 hp
   cases e with
   | normal=>
    obtain⟨hm,v3,S3,hK3,hS3,hO3,hOP3,hv33⟩:=hp;have hL3:W3.heap[w.heap.size+1]?=some (.loop { rec .ready none with state:=.busy }):=hK3.heap hL2 (fun hmm=>by
     rcases hS3 _ hmm with e|e
     ·rw[←e] at hv1;rw[h.loop] at hv1;cases hv1
     ·obtain⟨_,cur,e2⟩:=hown _ e;rw[h.loop] at e2;cases e2)
    have hr:=run_endRound (P:=prog) none hL3;rw[hrec] at hr;have hK13:Kp ((w.heap.size+1)::S3) W W3:=(hK2.mono (by simp +contextual)).trans hK3 (by simp +contextual);have hin3:∀ k∈S3,k∈[Ob]∨w.heap.size≤k:=fun k hk=>by
     rcases hS3 k hk with e|e
     ·exact .inl (by simp[e])
     ·exact .inr (hv2.low k e)
    have hs3:=hK3.size;have hYS:YS W N ((w.heap.size+1)::S3):=fun k hk=>by
     rcases List.mem_cons.1 hk with e|e
     ·rw[e];exact⟨h.lt,.inr ⟨_,h.loop⟩⟩
     ·rcases hS3 k e with e2|e2
      ·rw[e2];refine⟨?_,.inl ⟨_,_,_,hv1,.inl rfl⟩⟩;have:=h.lt;omega
      ·obtain⟨e3,cur,e4⟩:=hown k e2;exact⟨e3,.inl ⟨_,_,_,e4,.inr rfl⟩⟩
    have hKf:Kp ((w.heap.size+1)::S3) W (W3.putObj (w.heap.size+1) (.loop (rec .ready none))):=hK13.putObj (by simp) _;have hSt3:=hYS.keep hKf h.hSt ⟨by decide,.inl (by decide)⟩;have hneL:∀ {k:Nat} {c:Array Value} {u:TypeId} {fr:Nat × Nat},W3.heap[k]?=some (.cells c u fr)→k≠w.heap.size+1:=fun hk e=>by rw[e,hL3] at hk;cases hk
    refine⟨_,_,hr,((w.heap.size+1)::S3),hYS,?_,.inl ⟨rfl,?_⟩⟩
    ·rw[hrec] at hKf;exact hKf
    ·have hfin:ScI E t s Ob M rec w (W3.putObj (w.heap.size+1) (.loop (rec .ready none))).heap.size (pre++[p]) (W3.putObj (w.heap.size+1) (.loop (rec .ready none))):=by
      refine⟨h.kp.trans hKf (fun i hi hlt=>?_),hSt3,E.keepX _ _ _ h.dev hKf hYS.off,⟨v3,(World.putObj_heap_other (hneL hO3)).trans hO3,hOP3.keep ((Kp.refl [w.heap.size+1] W3).putObj (by simp) _) (fun k hk c fr e=>by rw[List.mem_singleton.1 hk,hL3] at e;cases e),fun k hk=>by have:=hv33 k hk;simp[World.putObj];omega⟩,by simp;omega,by simp[World.putObj];omega,?_,World.putObj_heap_same (ζ hL3)⟩
      ·rcases List.mem_cons.1 hi with e|e
       ·omega
       ·rcases hin3 i e with e2|e2
        ·simp at e2;simp[e2]
        ·omega
      ·refine (World.putObj_heap_other (by omega)).trans (hK13.heap h.dfr (fun hm=>?_));rcases List.mem_cons.1 hm with e|e
       ·omega
       ·rcases hS3 _ e with e2|e2
        ·rw[←e2] at hv1;rw[h.dfr] at hv1;cases hv1
        ·obtain⟨_,cur,e4⟩:=hown _ e2;rw[h.dfr] at e4;cases e4
     rw[hrec] at hfin ⊢;exact hfin
   | exit i=>
    obtain⟨rfl,hm,rfl⟩:=hp;have hr:=run_endRound (P:=prog) (some (.exit i)) hL2;rw[hrec] at hr;have hYS:YS W N [w.heap.size+1]:=fun k hk=>by rw[List.mem_singleton.1 hk];exact⟨h.lt,.inr ⟨_,h.loop⟩⟩
    have hKf:Kp [w.heap.size+1] W (W3.putObj (w.heap.size+1) (.loop (rec .done (some (.exit i))))):=hK2.putObj (by simp) _;refine⟨_,_,hr,[w.heap.size+1],hYS,?_,.inr ⟨rfl,?_⟩⟩
    ·rw[hrec] at hKf;exact hKf
    ·have hfin:ScX E t s Ob M i rec w (pre++[p]) (W3.putObj (w.heap.size+1) (.loop (rec .done (some (.exit i))))):=
      ⟨pre,p,v,rfl,hm,h.kp.trans hKf (by intro i hi hlt;simp at hi;omega),hYS.keep hKf h.hSt ⟨by decide,.inl (by decide)⟩,E.keepX _ _ _ h.dev hKf hYS.off,hKf.heap hv1 (hne2 hv1),hv2.keep hKf (fun k hk c fr e=>by rw[List.mem_singleton.1 hk,h.loop] at e;cases e),hKf.hp h.dfr,World.putObj_heap_same (ζ hL2)⟩
     rw[hrec] at hfin ⊢;exact hfin
   | ret=>exact hp.elim
   | goto l=>exact hp.elim
   | panic ch=>exact hp.elim
   | outgrown=>exact hp.elim
  ·exact⟨hK1.mono (by simp),hI1.live.hSt,hI1.live.dev,⟨_,hK1.hp hO,OPA.nil _ _,fun k hk=>by cases hk⟩,Nat.zero_le _,by omega,hD1,hL1⟩
  ·
   rintro e W2 ⟨⟨v,rfl⟩,⟨N,h⟩|⟨pre,hpre,q,p,v2,rfl,hM,hkp,hSt2,hd2,hO2,hOP2,hD2,hL2⟩⟩
   ·obtain⟨v2,hO2,hOP2,_⟩:=h.out;have hr:=run_endLoop (P:=prog) h.loop (by rw[hrec];simp);rw[hrec] at hr;have hKf:Kp [w.heap.size+1] W2 (W2.putObj (w.heap.size+1) (.loop { rec .ready none with state:=.exhausted })):=(Kp.refl _ _).putObj (by simp) _;have hsc:qG2 r.cont lo hi M=r.cont.filter (inR lo hi):=by
     rw[qG2];exact List.take_of_length_le (by have:=h.le;simp;omega)
    have hneL:∀ {k:Nat} {c:Array Value} {u:TypeId} {fr:Nat × Nat},W2.heap[k]?=some (.cells c u fr)→k ∉ [w.heap.size+1]:=fun hk hm=>by rw[List.mem_singleton.1 hm,h.loop] at hk;cases hk
    refine⟨none,_,hr,?_⟩;have:=hdone (W2.putObj (w.heap.size+1) (.loop { rec .ready none with state:=.exhausted })) v2 (h.kp.trans hKf (by intro i hi hlt;simp at hi;omega)) (hKf.heap h.hSt (hneL h.hSt)) (E.keepX _ _ _ h.dev hKf (fun k hk c u fr e=>by rw[List.mem_singleton.1 hk,h.loop] at e;cases e)) (hKf.heap hO2 (hneL hO2)) (by rw[hsc];exact hOP2.keep hKf (fun k hk c fr e=>by rw[List.mem_singleton.1 hk,h.loop] at e;cases e)) (hKf.hp h.dfr) (by have:=ζ h.loop;simp[World.putObj];omega);rw[hrec] at this;exact this
   ·have hr:=run_endLoop (P:=prog) hL2 (by rw[hrec];simp);rw[hrec] at hr;have hKf:Kp [w.heap.size+1] W2 (W2.putObj (w.heap.size+1) (.loop { rec .done (some (.exit id)) with state:=.exhausted })):=(Kp.refl _ _).putObj (by simp) _;have hsc:qG2 r.cont lo hi M=q:=by
     rw[qG2];obtain⟨z,hz⟩:=hpre;rw[←hz,Int.toNat_natCast,List.append_assoc,←hM,List.take_left'];rfl
    have hneL:∀ {k:Nat} {c:Array Value} {u:TypeId} {fr:Nat × Nat},W2.heap[k]?=some (.cells c u fr)→k ∉ [w.heap.size+1]:=fun hk hm=>by rw[List.mem_singleton.1 hm,hL2] at hk;cases hk
    refine⟨some (.exit id),_,hr,?_⟩;have:=hstop (W2.putObj (w.heap.size+1) (.loop { rec .done (some (.exit id)) with state:=.exhausted })) v2 (hkp.trans hKf (by intro i hi hlt;simp at hi;omega)) (hKf.heap hSt2 (hneL hSt2)) (E.keepX _ _ _ hd2 hKf (fun k hk c u fr e=>by rw[List.mem_singleton.1 hk,hL2] at e;cases e)) (hKf.heap hO2 (hneL hO2)) (by rw[hsc];exact hOP2.keep hKf (fun k hk c fr e=>by rw[List.mem_singleton.1 hk,hL2] at e;cases e)) (hKf.hp hD2) (by have:=ζ hL2;simp[World.putObj];omega);rw[hrec] at this;exact this
end Go.Proofs.YtdohpenfkdckiabGreatDoor
namespace Go.Proofs.YtdohpenfkdckiabGreatDoor
open Go.Proofs.Tryz
open Go.RowKit
attribute [local go_sem] Oper.semAt_some
theorem xG8(w:World)(a b:Value)(t:TypeId):∀ j u,[a,b][j]?=some u→(w.alloc (.cells #[a,b] t)).cell? ((⟨w.heap.size,0,none⟩:Addr).add j)=some u:=fun j u hj=>by
 rw[qM5,ξ (μ _ _)];simpa using hj
theorem zW8{W w5:World}{X:Obj}{row:Option Nat}{k:Nat}{o:Obj}(h:W.heap[k]?=some o)(hg:(W.alloc X).grownBy w5 row)(hn:row≠some k):w5.heap[k]?=some o:=
 (hg.block k (by have:=ζ h;simp;omega) (fun e=>hn e.symm)).trans (θ _ h)
theorem OPA.keepR{S:List Nat}{w w':World}{base n sz:Nat}{v:Value}{xs:List Value}(h:w.ownsRow base 64 sz v n xs)(hK:Kp S w w')(hS:∀ k∈S,∀ c fr,w.heap[k]?≠some (.cells c 64 fr)):w'.ownsRow base 64 sz v n xs:=by
 refine⟨h.1,?_⟩;rcases h.2 with h0|⟨g,cap,cur,h1,h2,h3,h4⟩
 ·exact .inl h0
 ·exact .inr ⟨g,cap,cur,h1,h2,hK.heap h3 (fun hm=>hS g hm _ _ h3),h4⟩
theorem jS3(E:SEnv)(x A n:Nat)(t:Tx)(s:Sto)(r:Root)(lo hi:ByteArray)(most:Int)(w:World)(hL:LiveT E w x A n t s r)(hm0:-9223372036854775808≤most)(hm1:most≤9223372036854775807):
  Calls prog 61 #[.pointer (some ⟨x,0,none⟩),.string lo,.string hi,.int .i64 most] w fun e w'=>∃ v,e=.returned (.tuple #[v,.nilIface])∧OPA w' w.heap.size v (qG2 r.cont lo hi most)∧BadT E w w' t s:=by
 have HL:=zh hL;have hxs:=ζ hL.hx;have hSs:=ζ hL.hSt;clear hL;obtain⟨M,hM⟩:∃ M:Nat,M=most.toNat:=⟨_,rfl⟩;have HSC:Hid (qG2 r.cont lo hi most=qG2 r.cont lo hi M):=by show _=_;rw[qG2,qG2,hM,Int.toNat_natCast]
 obtain⟨i0,hi0,hz0,hz1,hz2⟩:=info_parts xZ4;refine (callsIn_wide (n:=9)).1 ?_;refine callsIn_of_wp_marks func61 rfl trivial ?_ rfl;simp only[ntmps61,List.size_toArray,List.length_cons,List.length_nil,Nat.reduceAdd,Nat.reduceSub,Array.replicate_succ,Array.replicate_zero,List.push_toArray,List.append_toArray,List.nil_append,List.cons_append];obtain⟨w0,hw0,hM0,hR0,hE0,hO0,hK0,hs0⟩:∃ w0,w0=(((w.alloc (.cells #[.int .i64 (M:Int)] 3)).alloc (.cells #[.slice none 0 0] 25)).alloc (.cells #[.nilIface] 35)).alloc (.cells #[.slice none 0 0] 25)∧w0.heap[w.heap.size]?=some (.cells #[.int .i64 (M:Int)] 3)∧w0.heap[w.heap.size+1]?=some (.cells #[.slice none 0 0] 25)∧w0.heap[w.heap.size+1+1]?=some (.cells #[.nilIface] 35)∧w0.heap[w.heap.size+1+1+1]?=some (.cells #[.slice none 0 0] 25)∧Kp [] w w0∧w0.heap.size=w.heap.size+4:=by
  refine⟨_,rfl,θ _ (θ _ (θ _ (μ _ _))),θ _ (θ _ ?_),θ _ ?_,?_,((((Kp.refl _ _).alloc _).alloc _).alloc _).alloc _,by simp⟩
  ·have e:=μ (w.alloc (.cells #[.int .i64 (M:Int)] 3)) (.cells #[.slice none 0 0] 25);simpa using e
  ·have e:=μ ((w.alloc (.cells #[.int .i64 (M:Int)] 3)).alloc (.cells #[.slice none 0 0] 25)) (.cells #[.nilIface] 35);simpa using e
  ·have e:=μ (((w.alloc (.cells #[.int .i64 (M:Int)] 3)).alloc (.cells #[.slice none 0 0] 25)).alloc (.cells #[.nilIface] 35)) (.cells #[.slice none 0 0] 25);simpa using e
 have HW0:=zh hw0;have HS0:=zh hs0;clear hw0 hs0;by_cases hb:most<1
 ·have hM1:(0:Int)=(M:Int):=by omega
  have HM1:=zh hM1;clear hM1 hM
  gi_wp2_with fail
  refine⟨trivial,?_⟩;rw[HM1.out,←HW0.out];have hL0:=HL.out.more hK0;refine callsIn_wide.2 ((zO7 x lo hi w0).mono ?_);rintro e w1 ⟨rfl,hB1,hLc1,hHc1,hK1⟩;have hI1:AllIn E x A n t s r w0.heap.size (w0.heap.size+1) (w0.heap.size+2) lo hi w1:=⟨hL0.more hK1,hB1,hLc1,hHc1⟩;have hM1:=hK1.hp hM0;have hR1:=hK1.hp hR0;have hE1:=hK1.hp hE0;have hO1:=hK1.hp hO0;have HK1:Hid (Kp [] w w1):=hK0.tr hK1;have hs1:=hK1.size;clear hM0 hR0 hE0 hO0 hK0 hK1 hB1 hLc1 hHc1 hL0
  gi_wp2_with fail
  have hSo:t.St≠w.heap.size+1+1+1:=by omega
  refine xH7 E x A n t s r w0.heap.size (w0.heap.size+1) (w0.heap.size+2) (w.heap.size+1+1+1) M 0 lo hi (by decide) rfl rfl hI1 hO1 (fun p Pb=>{ tmps:=#[.pointer (some ⟨x,0,none⟩),.string lo,.string hi,.int .i64 most,undef,undef,undef,.pointer (some ⟨w.heap.size,0,none⟩),.pointer (some ⟨w.heap.size+1,0,none⟩),.pointer (some ⟨w.heap.size+1+1,0,none⟩),.pointer (some ⟨w.heap.size+1+1+1,0,none⟩),.pointer (some ⟨Pb,0,none⟩),.nilIface,.int .i64 most,.bool true,.pointer (some ⟨x,0,none⟩),.string lo,.string hi,.func (.func 138) #[] #[.pointer (some ⟨w0.heap.size,0,none⟩),.pointer (some ⟨w0.heap.size+1,0,none⟩),.pointer (some ⟨w0.heap.size+2,0,none⟩)],.agg #[.string p.k,.string p.v],.nilIface,undef,undef,undef,undef,undef,undef,undef,undef,undef,undef,undef,undef],defers:=[] }) ?assign ?body ?done ?stop
  case assign=>
   intro l p W K hK
   gi_wp2
   exact hK
  case body=>
   intro l pre p W v Pb hO hOP hP hPb hown hkp hle hlen;have hMW:=hkp.heap hM1 (by
    simp only[List.mem_cons,not_or];exact⟨by omega,by omega,fun h=>by have:=E.low w HL.out.dev _ h;omega⟩)
   have hObs:=ζ hO;have hPs:=ζ hP;have hMs:=ζ hMW;have o0:=ξ hO 0;simp only[zG,zH,zI] at o0;have fo0:=ψ hO 0;have p0:=ξ hP;have m0:=ξ hMW 0;simp only[zG,zH,zI] at m0;obtain⟨ob,oc,rfl⟩:=hOP.form;by_cases hq:pre.length=M
   ·have hqb:(pre.length:Int)=(M:Int):=by omega
    clear hM1 hR1 hE1 hO1 hI1 hO hP hMW
    gi_wp2
    all_goals exact⟨rfl,hq,rfl⟩
   ·have hqb:¬(pre.length:Int)=(M:Int):=by omega
    have HOO:Hid (W.heap[w.heap.size+1+1+1]?=some (.cells #[.slice ob pre.length oc] 25)∧OPA W w1.heap.size (.slice ob pre.length oc) pre∧Kp (t.St::(w.heap.size+1+1+1)::E.S) w1 W):=⟨hO,hOP,hkp⟩;have hsz:=hkp.size;have HNO:Hid ((Value.slice ob pre.length oc).ownBlock≠some (w.heap.size+1+1+1)):=fun e=>by
     rcases hOP.2 with⟨h0,_⟩|⟨gb,cap,cur,e1,e2,e3,_⟩
     ·rw[h0] at e;cases e
     ·rw[e1] at e;cases e;rw[hO] at e3;cases e3
    clear hM1 hR1 hE1 hO1 hI1 hO hP hMW hOP hkp
    gi_wp2_with (gi_at_builtin;refine wpListIn_append_own _ rfl _ _ 25 rfl w1.heap.size 64 i0 (.agg #[.string ⟨#[]⟩,.string ⟨#[]⟩]) 2 32 underlying25 hi0 hz0 hz1 hz2 rfl (by decide) _ _ _ rfl (World.ownsRow.alloc HOO.out.2.1 _) ⟨W.heap.size,0,none⟩ 1 1 [.string p.k,.string p.v] rfl rfl (xG8 _ _ _ _) (by simp[Value.oneCell']) (by unfold maxLen;omega) (by omega) (by simp;omega) ?_;intro v5 w5 hO5 hg5 _;obtain⟨g5,c5,rfl⟩:=qJ6 hO5;have hOb5:=zW8 HOO.out.1 hg5 HNO.out;have o5:=ξ hOb5 0;have fo5:=ψ hOb5 0;simp only[zG,zH] at o5)
    have hpl:pre.length<M:=by omega
    have hs5:=hg5.size;refine⟨hpl,.slice (some ⟨g5,0,none⟩) (pre.length+1) c5,[w.heap.size+1+1+1]++(Value.slice ob pre.length oc).ownBlock.toList,?_,?_,φ hOb5 0 _,?_,?_⟩
    ·refine ((((Kp.refl _ W).alloc _).grown hg5 (fun k hk=>.inl (List.mem_append.2 (.inr (by have hk2:(Value.slice ob pre.length oc).ownBlock=some k:=hk;rw[hk2];simp))))).sc _)
    ·intro k hk;rcases List.mem_append.1 hk with h|h
     ·exact .inl (List.mem_singleton.1 h)
     ·exact .inr (by simpa using h)
    ·have e:qB0 (pre++[p])=qB0 pre++[.string p.k,.string p.v]:=xE0 pre p;unfold OPA;rw[e,List.length_append];refine OPA.keepR hO5 ((Kp.refl [w.heap.size+1+1+1] w5).sc _) (fun k hk c fr e=>?_);rw[List.mem_singleton.1 hk,hOb5] at e;cases e
    ·intro k hk;have:=(World.ownsRow.lt hO5 k hk).2;simp[World.setCell];omega
  case done=>
   intro W v hkp hSt hd hO hOP hD hlt;have hlow:∀ k,w.heap.size≤k→k≠w.heap.size+1+1+1→k ∉ t.St::(w.heap.size+1+1+1)::E.S:=fun k hk hne hm=>by
    simp only[List.mem_cons] at hm;rcases hm with h|h|h
    ·omega
    ·omega
    ·have:=E.low w HL.out.dev _ h;omega
   have hRW:=hkp.heap hR1 (hlow _ (by omega) (by omega));have hEW:=hkp.heap hE1 (hlow _ (by omega) (by omega));have hObs:=ζ hO;have hRs:=ζ hRW;have hEs:=ζ hEW;obtain⟨ob,oc,hform⟩:=hOP.form;subst hform;have o0:=ξ hO 0;simp only[zG,zH,zI] at o0;have r0:=ξ hRW 0;simp only[zG,zH,zI] at r0;have fr0:=ψ hRW 0;have e0:=ξ hEW 0;simp only[zG,zH,zI] at e0;have fe0:=ψ hEW 0;obtain⟨sl,hsl⟩:∃ sl,sl=(qG2 r.cont lo hi M).length:=⟨_,rfl⟩;rw[←hsl] at o0;have HOP:Hid (OPA W w1.heap.size (.slice ob sl oc) (qG2 r.cont lo hi M)):=by rw[hsl];exact hOP
   have HW:Hid (W.heap[t.St]?=some (ν 0 s)∧E.Dev W∧Kp (t.St::(w.heap.size+1+1+1)::E.S) w1 W∧W.heap[w.heap.size+1]?=some (.cells #[.slice none 0 0] 25)∧W.heap[w.heap.size+1+1]?=some (.cells #[.nilIface] 35)∧W.heap[w1.heap.size]?=some (.deferred (some []))):=⟨hSt,hd,hkp,hRW,hEW,hD⟩;clear hM1 hR1 hE1 hO1 hI1 hSt hd hkp hRW hEW hD hO hOP hsl hlow
   gi_wp2
   obtain⟨hSt,hd,hkp,hRW,hEW,hD⟩:=HW.out;have hs0:=HS0.out;have hKw1:Kp (t.St::(w.heap.size+1+1+1)::E.S) w W:=(HK1.out.mono (by simp)).trans hkp (fun _ h _=>h);have hsw:=hKw1.size;have hEl:∀ k∈E.S,k<w.heap.size:=E.low w HL.out.dev;obtain⟨w4,hw4,hR4,hE4,hD4,hK4⟩:∃ w4,w4=(W.setCell ⟨w.heap.size+1,0,none⟩ (.slice ob sl oc)).setCell ⟨w.heap.size+1+1,0,none⟩ .nilIface∧w4.heap[w.heap.size+1]?=some (.cells #[.slice ob sl oc] 25)∧w4.heap[w.heap.size+1+1]?=some (.cells #[.nilIface] 35)∧w4.heap[w1.heap.size]?=some (.deferred (some []))∧Kp [w.heap.size+1,w.heap.size+1+1] W w4:=
    ⟨_,rfl,(qA9 (by omega) _ _).trans (φ hRW 0 _),φ ((qA9 (by omega) _ _).trans hEW) 0 _,(qA9 (by omega) _ _).trans ((qA9 (by omega) _ _).trans hD),((Kp.refl _ _).sc _).sc _⟩
   rw[←hw4];clear hw4;refine⟨by simp,.inl ⟨_,_,rfl,run_takeDeferred hD4,?_⟩⟩;obtain⟨w5,hw5,hR5,hE5,hK5⟩:∃ w5,w5=w4.putObj w1.heap.size (.deferred none)∧w5.heap[w.heap.size+1]?=some (.cells #[.slice ob sl oc] 25)∧w5.heap[w.heap.size+1+1]?=some (.cells #[.nilIface] 35)∧Kp [w.heap.size+1,w.heap.size+1+1,w1.heap.size] W w5:=
    ⟨_,rfl,(World.putObj_heap_other (by omega)).trans hR4,(World.putObj_heap_other (by omega)).trans hE4,(hK4.mono (by simp +contextual)).putObj (by simp) _⟩
   rw[←hw5];clear hw5;have r0:=ξ hR5 0;have e0:=ξ hE5 0;simp only[zG,zH] at r0 e0;have hoff:OffD W [w.heap.size+1,w.heap.size+1+1,w1.heap.size]:=(OffD.one hRW (by decide)).cons ((OffD.one hEW (by decide)).cons (fun k hk c t fr e=>by rw[List.mem_singleton.1 hk,hD] at e;cases e));have hop5:OPA w5 w1.heap.size (.slice ob sl oc) (qG2 r.cont lo hi M):=HOP.out.keep hK5 (fun k hk c fr e=>by
    simp only[List.mem_cons,List.not_mem_nil,or_false] at hk;rcases hk with h|h|h
    ·rw[h,hRW] at e;cases e
    ·rw[h,hEW] at e;cases e
    ·rw[h,hD] at e;cases e)
   refine⟨.tuple #[.slice ob sl oc,.nilIface],?_,.slice ob sl oc,rfl,?_,E.keepX _ _ _ hd hK5 hoff,hK5.heap hSt ?_,hKw1.trans hK5 ?_ |>.mono ?_⟩
   ·simp[results,results61,go_sem,r0,e0]
   ·rw[HSC.out];exact qH4 hop5 (by omega)
   ·simp only[List.mem_cons,List.not_mem_nil,or_false,not_or];exact⟨by omega,by omega,by omega⟩
   ·intro i hi hlt;simp at hi;omega
   ·intro i hi hlt;simp only[List.mem_cons] at hi ⊢;rcases hi with h|h|h
    ·exact .inl h
    ·omega
    ·exact .inr h
  case stop=>
   intro W v hkp hSt hd hO hOP hD hlt;have hlow:∀ k,w.heap.size≤k→k≠w.heap.size+1+1+1→k ∉ t.St::(w.heap.size+1+1+1)::E.S:=fun k hk hne hm=>by
    simp only[List.mem_cons] at hm;rcases hm with h|h|h
    ·omega
    ·omega
    ·have:=E.low w HL.out.dev _ h;omega
   have hRW:=hkp.heap hR1 (hlow _ (by omega) (by omega));have hEW:=hkp.heap hE1 (hlow _ (by omega) (by omega));have hObs:=ζ hO;have hRs:=ζ hRW;have hEs:=ζ hEW;obtain⟨ob,oc,hform⟩:=hOP.form;subst hform;have o0:=ξ hO 0;simp only[zG,zH,zI] at o0;have r0:=ξ hRW 0;simp only[zG,zH,zI] at r0;have fr0:=ψ hRW 0;have e0:=ξ hEW 0;simp only[zG,zH,zI] at e0;have fe0:=ψ hEW 0;obtain⟨sl,hsl⟩:∃ sl,sl=(qG2 r.cont lo hi M).length:=⟨_,rfl⟩;rw[←hsl] at o0;have HOP:Hid (OPA W w1.heap.size (.slice ob sl oc) (qG2 r.cont lo hi M)):=by rw[hsl];exact hOP
   have HW:Hid (W.heap[t.St]?=some (ν 0 s)∧E.Dev W∧Kp (t.St::(w.heap.size+1+1+1)::E.S) w1 W∧W.heap[w.heap.size+1]?=some (.cells #[.slice none 0 0] 25)∧W.heap[w.heap.size+1+1]?=some (.cells #[.nilIface] 35)∧W.heap[w1.heap.size]?=some (.deferred (some []))):=⟨hSt,hd,hkp,hRW,hEW,hD⟩;clear hM1 hR1 hE1 hO1 hI1 hSt hd hkp hRW hEW hD hO hOP hsl hlow
   gi_wp2
   obtain⟨hSt,hd,hkp,hRW,hEW,hD⟩:=HW.out;have hs0:=HS0.out;have hKw1:Kp (t.St::(w.heap.size+1+1+1)::E.S) w W:=(HK1.out.mono (by simp)).trans hkp (fun _ h _=>h);have hsw:=hKw1.size;have hEl:∀ k∈E.S,k<w.heap.size:=E.low w HL.out.dev;obtain⟨w4,hw4,hR4,hE4,hD4,hK4⟩:∃ w4,w4=(W.setCell ⟨w.heap.size+1,0,none⟩ (.slice ob sl oc)).setCell ⟨w.heap.size+1+1,0,none⟩ .nilIface∧w4.heap[w.heap.size+1]?=some (.cells #[.slice ob sl oc] 25)∧w4.heap[w.heap.size+1+1]?=some (.cells #[.nilIface] 35)∧w4.heap[w1.heap.size]?=some (.deferred (some []))∧Kp [w.heap.size+1,w.heap.size+1+1] W w4:=
    ⟨_,rfl,(qA9 (by omega) _ _).trans (φ hRW 0 _),φ ((qA9 (by omega) _ _).trans hEW) 0 _,(qA9 (by omega) _ _).trans ((qA9 (by omega) _ _).trans hD),((Kp.refl _ _).sc _).sc _⟩
   rw[←hw4];clear hw4;refine⟨by simp,.inl ⟨_,_,rfl,run_takeDeferred hD4,?_⟩⟩;obtain⟨w5,hw5,hR5,hE5,hK5⟩:∃ w5,w5=w4.putObj w1.heap.size (.deferred none)∧w5.heap[w.heap.size+1]?=some (.cells #[.slice ob sl oc] 25)∧w5.heap[w.heap.size+1+1]?=some (.cells #[.nilIface] 35)∧Kp [w.heap.size+1,w.heap.size+1+1,w1.heap.size] W w5:=
    ⟨_,rfl,(World.putObj_heap_other (by omega)).trans hR4,(World.putObj_heap_other (by omega)).trans hE4,(hK4.mono (by simp +contextual)).putObj (by simp) _⟩
   rw[←hw5];clear hw5;have r0:=ξ hR5 0;have e0:=ξ hE5 0;simp only[zG,zH] at r0 e0;have hoff:OffD W [w.heap.size+1,w.heap.size+1+1,w1.heap.size]:=(OffD.one hRW (by decide)).cons ((OffD.one hEW (by decide)).cons (fun k hk c t fr e=>by rw[List.mem_singleton.1 hk,hD] at e;cases e));have hop5:OPA w5 w1.heap.size (.slice ob sl oc) (qG2 r.cont lo hi M):=HOP.out.keep hK5 (fun k hk c fr e=>by
    simp only[List.mem_cons,List.not_mem_nil,or_false] at hk;rcases hk with h|h|h
    ·rw[h,hRW] at e;cases e
    ·rw[h,hEW] at e;cases e
    ·rw[h,hD] at e;cases e)
   refine⟨.tuple #[.slice ob sl oc,.nilIface],?_,.slice ob sl oc,rfl,?_,E.keepX _ _ _ hd hK5 hoff,hK5.heap hSt ?_,hKw1.trans hK5 ?_ |>.mono ?_⟩
   ·simp[results,results61,go_sem,r0,e0]
   ·rw[HSC.out];exact qH4 hop5 (by omega)
   ·simp only[List.mem_cons,List.not_mem_nil,or_false,not_or];exact⟨by omega,by omega,by omega⟩
   ·intro i hi hlt;simp at hi;omega
   ·intro i hi hlt;simp only[List.mem_cons] at hi ⊢;rcases hi with h|h|h
    ·exact .inl h
    ·omega
    ·exact .inr h
 ·have hM1:most=(M:Int):=by omega
  have HM1:=zh hM1;clear hM1 hM
  gi_wp2_with fail
  refine⟨trivial,?_⟩;have e0:(((w.alloc (.cells #[.int .i64 most] 3)).alloc (.cells #[.slice none 0 0] 25)).alloc (.cells #[.nilIface] 35)).alloc (.cells #[.slice none 0 0] 25)=w0:=by rw[HW0.out,←HM1.out]
  rw[e0];clear e0;have hL0:=HL.out.more hK0;refine callsIn_wide.2 ((zO7 x lo hi w0).mono ?_);rintro e w1 ⟨rfl,hB1,hLc1,hHc1,hK1⟩;have hI1:AllIn E x A n t s r w0.heap.size (w0.heap.size+1) (w0.heap.size+2) lo hi w1:=⟨hL0.more hK1,hB1,hLc1,hHc1⟩;have hM1:=hK1.hp hM0;have hR1:=hK1.hp hR0;have hE1:=hK1.hp hE0;have hO1:=hK1.hp hO0;have HK1:Hid (Kp [] w w1):=hK0.tr hK1;have hs1:=hK1.size;clear hM0 hR0 hE0 hO0 hK0 hK1 hB1 hLc1 hHc1 hL0
  gi_wp2_with fail
  have hSo:t.St≠w.heap.size+1+1+1:=by omega
  refine xH7 E x A n t s r w0.heap.size (w0.heap.size+1) (w0.heap.size+2) (w.heap.size+1+1+1) M 0 lo hi (by decide) rfl rfl hI1 hO1 (fun p Pb=>{ tmps:=#[.pointer (some ⟨x,0,none⟩),.string lo,.string hi,.int .i64 most,undef,undef,undef,.pointer (some ⟨w.heap.size,0,none⟩),.pointer (some ⟨w.heap.size+1,0,none⟩),.pointer (some ⟨w.heap.size+1+1,0,none⟩),.pointer (some ⟨w.heap.size+1+1+1,0,none⟩),.pointer (some ⟨Pb,0,none⟩),.nilIface,.int .i64 most,.bool false,.pointer (some ⟨x,0,none⟩),.string lo,.string hi,.func (.func 138) #[] #[.pointer (some ⟨w0.heap.size,0,none⟩),.pointer (some ⟨w0.heap.size+1,0,none⟩),.pointer (some ⟨w0.heap.size+2,0,none⟩)],.agg #[.string p.k,.string p.v],.nilIface,undef,undef,undef,undef,undef,undef,undef,undef,undef,undef,undef,undef],defers:=[] }) ?assign ?body ?done ?stop
  case assign=>
   intro l p W K hK
   gi_wp2
   exact hK
  case body=>
   intro l pre p W v Pb hO hOP hP hPb hown hkp hle hlen;have hMW:=hkp.heap hM1 (by
    simp only[List.mem_cons,not_or];exact⟨by omega,by omega,fun h=>by have:=E.low w HL.out.dev _ h;omega⟩)
   have hObs:=ζ hO;have hPs:=ζ hP;have hMs:=ζ hMW;have o0:=ξ hO 0;simp only[zG,zH,zI] at o0;have fo0:=ψ hO 0;have p0:=ξ hP;have m0:=ξ hMW 0;simp only[zG,zH,zI] at m0;obtain⟨ob,oc,rfl⟩:=hOP.form;by_cases hq:pre.length=M
   ·have hqb:(pre.length:Int)=(M:Int):=by omega
    clear hM1 hR1 hE1 hO1 hI1 hO hP hMW
    gi_wp2
    all_goals exact⟨rfl,hq,rfl⟩
   ·have hqb:¬(pre.length:Int)=(M:Int):=by omega
    have HOO:Hid (W.heap[w.heap.size+1+1+1]?=some (.cells #[.slice ob pre.length oc] 25)∧OPA W w1.heap.size (.slice ob pre.length oc) pre∧Kp (t.St::(w.heap.size+1+1+1)::E.S) w1 W):=⟨hO,hOP,hkp⟩;have hsz:=hkp.size;have HNO:Hid ((Value.slice ob pre.length oc).ownBlock≠some (w.heap.size+1+1+1)):=fun e=>by
     rcases hOP.2 with⟨h0,_⟩|⟨gb,cap,cur,e1,e2,e3,_⟩
     ·rw[h0] at e;cases e
     ·rw[e1] at e;cases e;rw[hO] at e3;cases e3
    clear hM1 hR1 hE1 hO1 hI1 hO hP hMW hOP hkp
    gi_wp2_with (gi_at_builtin;refine wpListIn_append_own _ rfl _ _ 25 rfl w1.heap.size 64 i0 (.agg #[.string ⟨#[]⟩,.string ⟨#[]⟩]) 2 32 underlying25 hi0 hz0 hz1 hz2 rfl (by decide) _ _ _ rfl (World.ownsRow.alloc HOO.out.2.1 _) ⟨W.heap.size,0,none⟩ 1 1 [.string p.k,.string p.v] rfl rfl (xG8 _ _ _ _) (by simp[Value.oneCell']) (by unfold maxLen;omega) (by omega) (by simp;omega) ?_;intro v5 w5 hO5 hg5 _;obtain⟨g5,c5,rfl⟩:=qJ6 hO5;have hOb5:=zW8 HOO.out.1 hg5 HNO.out;have o5:=ξ hOb5 0;have fo5:=ψ hOb5 0;simp only[zG,zH] at o5)
    have hpl:pre.length<M:=by omega
    have hs5:=hg5.size;refine⟨hpl,.slice (some ⟨g5,0,none⟩) (pre.length+1) c5,[w.heap.size+1+1+1]++(Value.slice ob pre.length oc).ownBlock.toList,?_,?_,φ hOb5 0 _,?_,?_⟩
    ·refine ((((Kp.refl _ W).alloc _).grown hg5 (fun k hk=>.inl (List.mem_append.2 (.inr (by have hk2:(Value.slice ob pre.length oc).ownBlock=some k:=hk;rw[hk2];simp))))).sc _)
    ·intro k hk;rcases List.mem_append.1 hk with h|h
     ·exact .inl (List.mem_singleton.1 h)
     ·exact .inr (by simpa using h)
    ·have e:qB0 (pre++[p])=qB0 pre++[.string p.k,.string p.v]:=xE0 pre p;unfold OPA;rw[e,List.length_append];refine OPA.keepR hO5 ((Kp.refl [w.heap.size+1+1+1] w5).sc _) (fun k hk c fr e=>?_);rw[List.mem_singleton.1 hk,hOb5] at e;cases e
    ·intro k hk;have:=(World.ownsRow.lt hO5 k hk).2;simp[World.setCell];omega
  case done=>
   intro W v hkp hSt hd hO hOP hD hlt;have hlow:∀ k,w.heap.size≤k→k≠w.heap.size+1+1+1→k ∉ t.St::(w.heap.size+1+1+1)::E.S:=fun k hk hne hm=>by
    simp only[List.mem_cons] at hm;rcases hm with h|h|h
    ·omega
    ·omega
    ·have:=E.low w HL.out.dev _ h;omega
   have hRW:=hkp.heap hR1 (hlow _ (by omega) (by omega));have hEW:=hkp.heap hE1 (hlow _ (by omega) (by omega));have hObs:=ζ hO;have hRs:=ζ hRW;have hEs:=ζ hEW;obtain⟨ob,oc,hform⟩:=hOP.form;subst hform;have o0:=ξ hO 0;simp only[zG,zH,zI] at o0;have r0:=ξ hRW 0;simp only[zG,zH,zI] at r0;have fr0:=ψ hRW 0;have e0:=ξ hEW 0;simp only[zG,zH,zI] at e0;have fe0:=ψ hEW 0;obtain⟨sl,hsl⟩:∃ sl,sl=(qG2 r.cont lo hi M).length:=⟨_,rfl⟩;rw[←hsl] at o0;have HOP:Hid (OPA W w1.heap.size (.slice ob sl oc) (qG2 r.cont lo hi M)):=by rw[hsl];exact hOP
   have HW:Hid (W.heap[t.St]?=some (ν 0 s)∧E.Dev W∧Kp (t.St::(w.heap.size+1+1+1)::E.S) w1 W∧W.heap[w.heap.size+1]?=some (.cells #[.slice none 0 0] 25)∧W.heap[w.heap.size+1+1]?=some (.cells #[.nilIface] 35)∧W.heap[w1.heap.size]?=some (.deferred (some []))):=⟨hSt,hd,hkp,hRW,hEW,hD⟩;clear hM1 hR1 hE1 hO1 hI1 hSt hd hkp hRW hEW hD hO hOP hsl hlow
   gi_wp2
   obtain⟨hSt,hd,hkp,hRW,hEW,hD⟩:=HW.out;have hs0:=HS0.out;have hKw1:Kp (t.St::(w.heap.size+1+1+1)::E.S) w W:=(HK1.out.mono (by simp)).trans hkp (fun _ h _=>h);have hsw:=hKw1.size;have hEl:∀ k∈E.S,k<w.heap.size:=E.low w HL.out.dev;obtain⟨w4,hw4,hR4,hE4,hD4,hK4⟩:∃ w4,w4=(W.setCell ⟨w.heap.size+1,0,none⟩ (.slice ob sl oc)).setCell ⟨w.heap.size+1+1,0,none⟩ .nilIface∧w4.heap[w.heap.size+1]?=some (.cells #[.slice ob sl oc] 25)∧w4.heap[w.heap.size+1+1]?=some (.cells #[.nilIface] 35)∧w4.heap[w1.heap.size]?=some (.deferred (some []))∧Kp [w.heap.size+1,w.heap.size+1+1] W w4:=
    ⟨_,rfl,(qA9 (by omega) _ _).trans (φ hRW 0 _),φ ((qA9 (by omega) _ _).trans hEW) 0 _,(qA9 (by omega) _ _).trans ((qA9 (by omega) _ _).trans hD),((Kp.refl _ _).sc _).sc _⟩
   rw[←hw4];clear hw4;refine⟨by simp,.inl ⟨_,_,rfl,run_takeDeferred hD4,?_⟩⟩;obtain⟨w5,hw5,hR5,hE5,hK5⟩:∃ w5,w5=w4.putObj w1.heap.size (.deferred none)∧w5.heap[w.heap.size+1]?=some (.cells #[.slice ob sl oc] 25)∧w5.heap[w.heap.size+1+1]?=some (.cells #[.nilIface] 35)∧Kp [w.heap.size+1,w.heap.size+1+1,w1.heap.size] W w5:=
    ⟨_,rfl,(World.putObj_heap_other (by omega)).trans hR4,(World.putObj_heap_other (by omega)).trans hE4,(hK4.mono (by simp +contextual)).putObj (by simp) _⟩
   rw[←hw5];clear hw5;have r0:=ξ hR5 0;have e0:=ξ hE5 0;simp only[zG,zH] at r0 e0;have hoff:OffD W [w.heap.size+1,w.heap.size+1+1,w1.heap.size]:=(OffD.one hRW (by decide)).cons ((OffD.one hEW (by decide)).cons (fun k hk c t fr e=>by rw[List.mem_singleton.1 hk,hD] at e;cases e));have hop5:OPA w5 w1.heap.size (.slice ob sl oc) (qG2 r.cont lo hi M):=HOP.out.keep hK5 (fun k hk c fr e=>by
    simp only[List.mem_cons,List.not_mem_nil,or_false] at hk;rcases hk with h|h|h
    ·rw[h,hRW] at e;cases e
    ·rw[h,hEW] at e;cases e
    ·rw[h,hD] at e;cases e)
   refine⟨.tuple #[.slice ob sl oc,.nilIface],?_,.slice ob sl oc,rfl,?_,E.keepX _ _ _ hd hK5 hoff,hK5.heap hSt ?_,hKw1.trans hK5 ?_ |>.mono ?_⟩
   ·simp[results,results61,go_sem,r0,e0]
   ·rw[HSC.out];exact qH4 hop5 (by omega)
   ·simp only[List.mem_cons,List.not_mem_nil,or_false,not_or];exact⟨by omega,by omega,by omega⟩
   ·intro i hi hlt;simp at hi;omega
   ·intro i hi hlt;simp only[List.mem_cons] at hi ⊢;rcases hi with h|h|h
    ·exact .inl h
    ·omega
    ·exact .inr h
  case stop=>
   intro W v hkp hSt hd hO hOP hD hlt;have hlow:∀ k,w.heap.size≤k→k≠w.heap.size+1+1+1→k ∉ t.St::(w.heap.size+1+1+1)::E.S:=fun k hk hne hm=>by
    simp only[List.mem_cons] at hm;rcases hm with h|h|h
    ·omega
    ·omega
    ·have:=E.low w HL.out.dev _ h;omega
   have hRW:=hkp.heap hR1 (hlow _ (by omega) (by omega));have hEW:=hkp.heap hE1 (hlow _ (by omega) (by omega));have hObs:=ζ hO;have hRs:=ζ hRW;have hEs:=ζ hEW;obtain⟨ob,oc,hform⟩:=hOP.form;subst hform;have o0:=ξ hO 0;simp only[zG,zH,zI] at o0;have r0:=ξ hRW 0;simp only[zG,zH,zI] at r0;have fr0:=ψ hRW 0;have e0:=ξ hEW 0;simp only[zG,zH,zI] at e0;have fe0:=ψ hEW 0;obtain⟨sl,hsl⟩:∃ sl,sl=(qG2 r.cont lo hi M).length:=⟨_,rfl⟩;rw[←hsl] at o0;have HOP:Hid (OPA W w1.heap.size (.slice ob sl oc) (qG2 r.cont lo hi M)):=by rw[hsl];exact hOP
   have HW:Hid (W.heap[t.St]?=some (ν 0 s)∧E.Dev W∧Kp (t.St::(w.heap.size+1+1+1)::E.S) w1 W∧W.heap[w.heap.size+1]?=some (.cells #[.slice none 0 0] 25)∧W.heap[w.heap.size+1+1]?=some (.cells #[.nilIface] 35)∧W.heap[w1.heap.size]?=some (.deferred (some []))):=⟨hSt,hd,hkp,hRW,hEW,hD⟩;clear hM1 hR1 hE1 hO1 hI1 hSt hd hkp hRW hEW hD hO hOP hsl hlow
   gi_wp2
   obtain⟨hSt,hd,hkp,hRW,hEW,hD⟩:=HW.out;have hs0:=HS0.out;have hKw1:Kp (t.St::(w.heap.size+1+1+1)::E.S) w W:=(HK1.out.mono (by simp)).trans hkp (fun _ h _=>h);have hsw:=hKw1.size;have hEl:∀ k∈E.S,k<w.heap.size:=E.low w HL.out.dev;obtain⟨w4,hw4,hR4,hE4,hD4,hK4⟩:∃ w4,w4=(W.setCell ⟨w.heap.size+1,0,none⟩ (.slice ob sl oc)).setCell ⟨w.heap.size+1+1,0,none⟩ .nilIface∧w4.heap[w.heap.size+1]?=some (.cells #[.slice ob sl oc] 25)∧w4.heap[w.heap.size+1+1]?=some (.cells #[.nilIface] 35)∧w4.heap[w1.heap.size]?=some (.deferred (some []))∧Kp [w.heap.size+1,w.heap.size+1+1] W w4:=
    ⟨_,rfl,(qA9 (by omega) _ _).trans (φ hRW 0 _),φ ((qA9 (by omega) _ _).trans hEW) 0 _,(qA9 (by omega) _ _).trans ((qA9 (by omega) _ _).trans hD),((Kp.refl _ _).sc _).sc _⟩
   rw[←hw4];clear hw4;refine⟨by simp,.inl ⟨_,_,rfl,run_takeDeferred hD4,?_⟩⟩;obtain⟨w5,hw5,hR5,hE5,hK5⟩:∃ w5,w5=w4.putObj w1.heap.size (.deferred none)∧w5.heap[w.heap.size+1]?=some (.cells #[.slice ob sl oc] 25)∧w5.heap[w.heap.size+1+1]?=some (.cells #[.nilIface] 35)∧Kp [w.heap.size+1,w.heap.size+1+1,w1.heap.size] W w5:=
    ⟨_,rfl,(World.putObj_heap_other (by omega)).trans hR4,(World.putObj_heap_other (by omega)).trans hE4,(hK4.mono (by simp +contextual)).putObj (by simp) _⟩
   rw[←hw5];clear hw5;have r0:=ξ hR5 0;have e0:=ξ hE5 0;simp only[zG,zH] at r0 e0;have hoff:OffD W [w.heap.size+1,w.heap.size+1+1,w1.heap.size]:=(OffD.one hRW (by decide)).cons ((OffD.one hEW (by decide)).cons (fun k hk c t fr e=>by rw[List.mem_singleton.1 hk,hD] at e;cases e));have hop5:OPA w5 w1.heap.size (.slice ob sl oc) (qG2 r.cont lo hi M):=HOP.out.keep hK5 (fun k hk c fr e=>by
    simp only[List.mem_cons,List.not_mem_nil,or_false] at hk;rcases hk with h|h|h
    ·rw[h,hRW] at e;cases e
    ·rw[h,hEW] at e;cases e
    ·rw[h,hD] at e;cases e)
   refine⟨.tuple #[.slice ob sl oc,.nilIface],?_,.slice ob sl oc,rfl,?_,E.keepX _ _ _ hd hK5 hoff,hK5.heap hSt ?_,hKw1.trans hK5 ?_ |>.mono ?_⟩
   ·simp[results,results61,go_sem,r0,e0]
   ·rw[HSC.out];exact qH4 hop5 (by omega)
   ·simp only[List.mem_cons,List.not_mem_nil,or_false,not_or];exact⟨by omega,by omega,by omega⟩
   ·intro i hi hlt;simp at hi;omega
   ·intro i hi hlt;simp only[List.mem_cons] at hi ⊢;rcases hi with h|h|h
    ·exact .inl h
    ·omega
    ·exact .inr h
end Go.Proofs.YtdohpenfkdckiabGreatDoor
namespace Go.Proofs.YtdohpenfkdckiabGreatDoor
open Go.Proofs.Tryz
open Go.RowKit
theorem LiveT.next{E:SEnv}{w w':World}{x A n:Nat}{t:Tx}{s:Sto}{r r':Root}{h':HL}(h:LiveT E w x A n t s r)(hF:FineT E w w' x t s r' h')(hg:RGood r')(hz:r'.cont.length≤50000)(hc:t.ch≤99999999):LiveT E w' x A n { t with h:=h',ch:=t.ch+1 } s r':=
 { hx:=hF.hx,over:=h.over,on:=h.on,hSt:=hF.hSt,po:=h.po,sV:=h.sV,hV:=hF.kp.heap h.hV (by
   simp only[List.mem_cons,not_or];exact⟨qB7 h.hV h.hSt (by decide),qB7 h.hV h.hx (by decide),h.vS⟩),n1:=h.n1,bl0:=h.bl0,bl1:=h.bl1,dev:=hF.dev,vS:=h.vS,rr:=hF.rr,good:=hg,sz:=hz,ch0:=by show 0≤t.ch+1;have:=h.ch0;omega,ch1:=by show t.ch+1≤_;omega }
theorem LiveT.stay{E:SEnv}{w w':World}{x A n:Nat}{t:Tx}{s:Sto}{r:Root}(h:LiveT E w x A n t s r)(hB:BadT E w w' t s):LiveT E w' x A n t s r:=
 { h with hx:=hB.kp.heap h.hx (by simp only[List.mem_cons,not_or];exact⟨h.xS,E.nin h.dev h.hx (by decide)⟩),hSt:=hB.hSt,hV:=hB.kp.heap h.hV (by simp only[List.mem_cons,not_or];exact⟨qB7 h.hV h.hSt (by decide),h.vS⟩),dev:=hB.dev,rr:=h.rr.keepT hB.kp ((Apt.one h.hSt (by decide)).cons (E.apt w h.dev)) }
theorem xZ8{p q:KV}{l:List KV}(h:q∈l)(hne:q.k≠p.k):q∈ins p l:=by
 simp only[ins,List.mem_append,List.mem_cons,List.mem_filter];have h1:q∈l.takeWhile (fun q=>kl q.k p.k)++l.dropWhile (fun q=>kl q.k p.k):=by rw[List.takeWhile_append_dropWhile];exact h
 rcases List.mem_append.1 h1 with h2|h2
 ·exact .inl h2
 ·exact .inr (.inr ⟨h2,by simp[hne]⟩)
structure Chd(E:SEnv)(w:World)(x A n:Nat)(t:Tx)(s:Sto)(r:Root)(j:Nat)(w':World)(t':Tx)(r':Root):Prop where
 live:LiveT E w' x A n t' s r'
 st:t'.St=t.St
 nr:t'.nr=t.nr
 wrt:t'.wrt=t.wrt
 ch:t'.ch≤t.ch+j
 len:r'.cont.length≤r.cont.length+j
 keep:∀ p∈r.cont,p.k=qG4→p∈r'.cont
 kp:Kp (t.St::x::E.S) w w'
theorem jB7(E:SEnv)(x A n:Nat)(t:Tx)(s:Sto)(r:Root)(a:Int)(m:Nat)(w:World)(hL:LiveT E w x A n t s r)(hwr:t.wrt=true)(ha0:-9223372036854775808≤a)(ha1:a≤9223372036854775807)(hm:m≤1000)(hr:r.cont.length≤1000)(hch:t.ch≤10000000)
  (hroom:∀ r':Root,RGood r'→r'.cont.length≤r.cont.length+m→(r'.news:Int)≤(n:Int)-2-s.bl):
  Calls prog 37 #[.pointer (some ⟨x,0,none⟩),.int .i64 a,.int .i64 m,.int .i64 20] w fun e w'=>e=.returned (.bool true)∧∃ t' r',Chd E w x A n t s r m w' t' r':=by
 have HROOM:=zh hroom;have H0:Hid (Chd E w x A n t s r 0 w t r):=⟨hL,rfl,rfl,rfl,by omega,by omega,fun _ h _=>h,Kp.refl _ _⟩;clear hroom hL;go_enter func37,ntmps37;go_wp2_with fail;refine (qU1 a 2147483648 ha0 ha1 (by omega) (by omega) w).mono ?_;rintro e w1 ⟨⟨v0,rfl,hv0,hv1⟩,rfl⟩;go_wp2_with fail
 go_loopw [9,10] (fun v i wr=>∃ (j:Nat) (vi:Int) (t':Tx) (r':Root),j≤m∧i=.int .i64 j∧v=.int .i64 vi∧0≤vi∧vi<2147483648∧Hid (Chd E w1 x A n t s r j wr t' r')) (fun _ i _=>m-(intOf i).toNat)
 case atStart=>exact⟨0,v0,t,r,Nat.zero_le _,rfl,rfl,hv0,hv1,H0⟩
 case round=>
  obtain⟨j,vi,t',r',hjm,rfl,rfl,hi0,hi1,HC⟩:=hrel;by_cases hlt:j<m
  ·have hjb:(j:Int)<(m:Int):=by omega
   go_wp2_with fail;refine (jE7 vi hi0 hi1 wr).mono ?_;rintro e w2 ⟨⟨u,rfl,hu0,hu1⟩,rfl⟩;go_wp2_with fail;refine (jE0 _ (by omega) (by omega) w2).mono ?_;rintro e w3 ⟨⟨k,rfl,hk1,hk8,hkf⟩,hK3⟩;have hl:=HC.out.live.more hK3;have hwr':t'.wrt=true:=HC.out.wrt.trans hwr;have hxs:=HC.out.live.xS;have hsum:=HC.out.len;have hcs:=HC.out.ch;have HK3:Hid (Kp (t.St::x::E.S) w1 w3):=HC.out.kp.tr hK3;have HLV:=zh hl;have HT:Hid (t'.St=t.St∧t'.nr=t.nr):=⟨HC.out.st,HC.out.nr⟩;have HFIN:Hid (∀ (w4:World) (r4:Root) (h4:HL),FineT E w3 w4 x t' s r4 h4→RGood r4→r4.cont.length≤r'.cont.length+1→(∀ p∈r'.cont,p.k=qG4→p∈r4.cont)→Chd E w1 x A n t s r (j+1) w4 { t' with h:=h4,ch:=t'.ch+1 } r4):=fun w4 r4 h4 hF hg hz hkp=>
    ⟨HLV.out.next hF hg (by omega) (by omega),HT.out.1,HT.out.2,hwr'.trans hwr.symm,by show t'.ch+1≤_;omega,by omega,fun p h1 h2=>hkp p (HC.out.keep p h1 h2) h2,HK3.out.trans hF.kp (fun i hi _=>by rw[HT.out.1] at hi;exact hi)⟩
   clear hl hxs hsum hcs hK3;by_cases hd:u / 4 % 4=0
   ·have HD:Hid (Calls prog 27 #[.pointer (some ⟨x,0,none⟩),.string k] w3 fun e w'=>e=.returned .nilIface∧∃ h',FineT E w3 w' x t' s (r'.del k) h'):=xR3 E x A n t' s r' k w3 HLV.out hwr' ((zY1 k).2 ⟨hk1,hk8⟩);have HG:Hid (RGood (r'.del k)∧(r'.del k).cont.length≤r'.cont.length+1∧∀ p∈r'.cont,p.k=qG4→p∈(r'.del k).cont):=by
     obtain⟨g1,g2⟩:=xR4 (k:=k) HLV.out.good;exact⟨g1,by rw[g2];have:=xR5 k r'.cont;omega,fun p hp hf=>by rw[g2];exact qX3.2 ⟨hp,by rw[hf];exact hkf.symm⟩⟩
    go_wp2_with fail;refine (show Calls _ _ _ _ _ from HD.out).mono ?_;rintro e w4 ⟨rfl,h4,hF⟩;have HE:=Hid.mk' (HFIN.out w4 _ h4 hF HG.out.1 HG.out.2.1 HG.out.2.2);clear hF;go_wp2;exact⟨⟨j+1,u,_,_,by omega,by go_num,rfl,hu0,hu1,HE⟩,by simp[intOf];omega⟩
   ·go_wp2_with fail;refine (jE9 _ (by omega) (by omega) w3).mono ?_;rintro e w4 ⟨⟨val,rfl,hval⟩,rfl⟩;have HG:Hid (RGood (r'.put ⟨k,val⟩)∧(r'.put ⟨k,val⟩).cont.length≤r'.cont.length+1∧∀ p∈r'.cont,p.k=qG4→p∈(r'.put ⟨k,val⟩).cont):=by
     obtain⟨g1,g2⟩:=qT2 (p:=⟨k,val⟩) HLV.out.good ⟨hk1,hk8,hval⟩;exact⟨g1,by rw[g2];exact qR3 _ _,fun p hp hf=>by rw[g2];exact xZ8 hp (by rw[hf];exact hkf.symm)⟩
    have HD:Hid (Calls prog 28 #[.pointer (some ⟨x,0,none⟩),.string k,.string val] w4 fun e w'=>e=.returned .nilIface∧∃ h',FineT E w4 w' x t' s (r'.put ⟨k,val⟩) h'):=xE2 E x A n t' s r' ⟨k,val⟩ w4 HLV.out hwr' ⟨hk1,hk8,hval⟩ (HROOM.out _ HG.out.1 (by have:=HG.out.2.1;have:=HC.out.len;omega));go_wp2_with fail;refine (show Calls _ _ _ _ _ from HD.out).mono ?_;rintro e w5 ⟨rfl,h4,hF⟩;have HE:=Hid.mk' (HFIN.out w5 _ h4 hF HG.out.1 HG.out.2.1 HG.out.2.2);clear hF;go_wp2;exact⟨⟨j+1,u,_,_,by omega,by go_num,rfl,hu0,hu1,HE⟩,by simp[intOf];omega⟩
  ·have hjb:¬(j:Int)<(m:Int):=by omega
   have hjm':j=m:=by omega
   subst hjm';go_wp2;go_ret;exact⟨rfl,t',r',HC.out⟩
end Go.Proofs.YtdohpenfkdckiabGreatDoor
namespace Go.Proofs.YtdohpenfkdckiabGreatDoor
open Go.Proofs.Tryz
open Go.RowKit
open Go.Maps (Keyed)
section
variable {w:World} {kc db St A C N nM:Nat} {s:Sto} {D:DataW Unit} {l:List UInt8} {wr:Int} {nw:Root}
theorem Shop.turn(hS:Shop w kc db St A C N nM s D l wr nw){w':World}{L:List Nat}(hK:Kp L w w')(hdb:db ∉ L)(hdev:Devq s.V A N C l wr w'){s':Sto}{nM':Nat}{D':DataW Unit}(e:s'.V=s.V∧s'.N=s.N∧s'.rb=s.rb∧s'.rs=s.rs∧s'.bl=s.bl∧s'.po=s.po)
  (hSt:w'.heap[St]?=some (ν 0 s')) (hM:RM w' s'.V s'.M nM' D') (m4:Maps.size D'≤4) (n1:nM'≤1000000) (bg0:0≤s'.bg) (kb:∀ k,Maps.has D' k=true→∃ x,k=ι x∧1≤x∧x≤s'.bg)
  (rd:∀ x h,Maps.has D' (ι x)=true→(∀ zd,D'.atKey (ι x) zd=qE4 h)→h.p=none→h.key=⟨#[]⟩∧∃ r,Lie N l h.b h.s r∧RGood r∧r.cont.length≤kc):Shop w' kc db St A C N nM' s' D' l wr nw:=by
 obtain⟨e1,e2,e3,e4,e5,e6⟩:=e;exact { hDb:=hK.heap hS.hDb hdb,hSt:=hSt,po:=by rw[e6];exact hS.po,hM:=hM,m4:=m4,n1:=n1,dev:=by rw[e1];exact hdev,N8:=hS.N8,N4:=hS.N4,len:=hS.len,lie:=by rw[e3,e4];exact hS.lie,good:=hS.good,heads:=by rw[e2,e3,e4];exact hS.heads,kc1:=hS.kc1,sz:=hS.sz,bl0:=by rw[e5];exact hS.bl0,bl1:=by rw[e5];exact hS.bl1,sN0:=by rw[e2];exact hS.sN0,bg0:=bg0,kb:=kb,rd:=rd }
theorem Shop.neDb(hS:Shop w kc db St A C N nM s D l wr nw):db≠St∧db≠A∧db≠C∧db≠s.M:=by
 obtain⟨c,h⟩:=hS.hA;exact⟨qB7 hS.hDb hS.hSt (by decide),qB7 hS.hDb h (by decide),qB7 hS.hDb hS.dev.hC (by decide),qE0 hS.hDb hS.hM⟩
theorem Shop.quiet(hS:Shop w kc db St A C N nM s D l wr nw){w':World}{x:Nat}{c:Array Value}(hx:w.heap[x]?=some (.cells c 85))(hK:Kp [St,x,A] w w')(hdev:Devq s.V A N C l wr w')(hSt:w'.heap[St]?=some (ν 0 s)):Shop w' kc db St A C N nM s D l wr nw:=by
 obtain⟨n1,n2,n3,n4⟩:=hS.neDb;obtain⟨cA,hA⟩:=hS.hA;have h1:s.M≠St:=(qE0 hS.hSt hS.hM).symm;have h2:s.M≠x:=(qE0 hx hS.hM).symm;have h3:s.M≠A:=(qE0 hA hS.hM).symm;exact hS.turn hK (by simp[n1,n2];exact qB7 hS.hDb hx (by decide)) hdev ⟨rfl,rfl,rfl,rfl,rfl,rfl⟩ hSt (hS.hM.kp hK (by simp[h1,h2,h3])) hS.m4 hS.n1 hS.bg0 hS.kb hS.rd
theorem Shop.live(hS:Shop w kc db St A C N nM s D l wr nw){x:Nat}{t:Tx}(hx:w.heap[x]?=some (qA3 t))(ho:t.over=false)(hon:t.on=some ⟨s.V,0,none⟩)(hst:t.St=St)(hh:t.h=⟨⟨#[]⟩,s.rb,s.rs,none⟩)(hc:t.ch=0):LiveT hS.E w x A N t s nw:=
 { hx:=hx,over:=ho,on:=hon,hSt:=by rw[hst];exact hS.hSt,po:=hS.po,sV:=rfl,hV:=hS.dev.hV,n1:=hS.N1,bl0:=hS.bl0,bl1:=by have:=hS.bl1;have:=hS.sz;have:=hS.kc1;omega,dev:=hS.dev,vS:=by show s.V ∉ [A];simpa using hS.VA,rr:=by rw[hh];exact Lie.rr (V:=s.V) (C:=C) (wr:=wr) (hN:=hS.N1) (hs:=hS.len) (hAC:=hS.AC) (hVA:=hS.VA) hS.lie hS.good w,good:=hS.good,sz:=by have:=hS.sz;have:=hS.kc1;omega,ch0:=by omega,ch1:=by omega }
theorem Shop.beginW(hS:Shop w kc db St A C N nM s D l wr nw)(hw:s.wr=0)(hbg:s.bg≤100000000):
  Calls prog 22 #[.pointer (some ⟨db,0,none⟩),.bool true] w fun e w'=>∃ x t,e=.returned (.tuple #[.pointer (some ⟨x,0,none⟩),.nilIface])∧w.heap.size≤x∧t.St=St∧t.nr=s.bg+1∧t.wrt=true∧t.ch=0∧Kp [St] w w'∧∃ hS':Shop w' kc db St A C N nM s.wrote D l wr nw,LiveT hS'.E w' x A N t s.wrote nw:=by
 obtain⟨n1,n2,n3,n4⟩:=hS.neDb;have h1:s.M≠St:=(qE0 hS.hSt hS.hM).symm;refine (xM2 db St nM s D w hS.hDb hS.hSt hS.hM hS.po n1 h1 hS.hM.lt hw hS.bg0 hbg).mono ?_;rintro e w' ⟨x,rfl,hxs,hx,hSt,hM,hK⟩;have hS':Shop w' kc db St A C N nM s.wrote D l wr nw:=hS.turn hK (by simpa using n1) (qP4 hS.dev hK (OffD.one hS.hSt (by decide))) ⟨rfl,rfl,rfl,rfl,rfl,rfl⟩ hSt hM hS.m4 hS.n1 (by show 0≤s.bg+1;have:=hS.bg0;omega) (fun k hk=>by obtain⟨y,e1,e2,e3⟩:=hS.kb k hk;exact⟨y,e1,e2,by show y≤s.bg+1;omega⟩) hS.rd;exact⟨x,_,rfl,hxs,rfl,rfl,rfl,rfl,hK,hS',hS'.live hx rfl rfl rfl rfl rfl⟩
theorem Shop.beginR(hS:Shop w kc db St A C N nM s D l wr nw)(h4:Maps.size D<4)(hnM:nM≤999999)(hbg:s.bg≤100000000):
  Calls prog 22 #[.pointer (some ⟨db,0,none⟩),.bool false] w fun e w'=>∃ x t D',e=.returned (.tuple #[.pointer (some ⟨x,0,none⟩),.nilIface])∧w.heap.size≤x∧t.St=St∧t.nr=s.bg+1∧t.wrt=false∧t.ch=0∧Kp [St,s.M] w w'∧D'=D.put (ι (s.bg+1)) (qE4 ⟨⟨#[]⟩,s.rb,s.rs,none⟩)∧∃ hS':Shop w' kc db St A C N (nM+1) s.read D' l wr nw,LiveT hS'.E w' x A N t s.read nw:=by
 obtain⟨n1,n2,n3,n4⟩:=hS.neDb;have h1:s.M≠St:=(qE0 hS.hSt hS.hM).symm;refine (xL9 db St nM s D w hS.hDb hS.hSt hS.hM hS.po n1 h1 n4 hS.hM.lt h4 (by omega) hS.bg0 hbg).mono ?_;rintro e w' ⟨x,rfl,hxs,hx,hSt,hM,hK⟩;have hoff:OffD w [St,s.M]:=(OffD.one hS.hSt (by decide)).cons (fun k hk c ty fr e=>by rw[List.mem_singleton.1 hk] at e;exact absurd rfl (qE0 e hS.hM));have hno:Maps.has D (ι (s.bg+1))=false:=by
  cases hh:Maps.has D (ι (s.bg+1)) with
  | false=>rfl
  | true=>obtain⟨y,e1,e2,e3⟩:=hS.kb _ hh;cases e1;omega
 have htd:=hS.hM.tidy qO0;have hS':Shop w' kc db St A C N (nM+1) s.read (D.put (ι (s.bg+1)) (qE4 ⟨⟨#[]⟩,s.rb,s.rs,none⟩)) l wr nw:=by
  refine hS.turn hK (by simp[n1,n4]) (qP4 hS.dev hK hoff) ⟨rfl,rfl,rfl,rfl,rfl,rfl⟩ hSt hM ?_ (by omega) (by show 0≤s.bg+1;have:=hS.bg0;omega) (fun k hk=>?_) (fun y h g1 g2 g3=>?_)
  ·rw[Maps.size_put htd,if_neg (by simp[hno])];omega
  ·by_cases e:k=ι (s.bg+1)
   ·exact⟨s.bg+1,e,by have:=hS.bg0;omega,Int.le_refl _⟩
   ·rw[Maps.has_put_other e] at hk;obtain⟨y,e1,e2,e3⟩:=hS.kb k hk;exact⟨y,e1,e2,by show y≤s.bg+1;omega⟩
  ·by_cases e:ι y=ι (s.bg+1)
   ·rw[e] at g2;have g4:=g2 (.lit (.int .i64 0));rw[Maps.atKey_put_same htd.isMap (show WideAt.IsKeyLit (ι _) from trivial)] at g4;have g5:=zM8 g4.symm g3 rfl;rw[g5];exact⟨rfl,nw,hS.lie,hS.good,hS.sz⟩
   ·rw[Maps.has_put_other e] at g1;exact hS.rd y h g1 (fun zd=>by rw[←g2 zd,Maps.atKey_put_other e]) g3
 exact⟨x,_,_,rfl,hxs,rfl,rfl,rfl,rfl,hK,rfl,hS',hS'.live hx rfl rfl rfl rfl rfl⟩
theorem Shop.abort(hS:Shop w kc db St A C N nM s D l wr nw){x:Nat}{t:Tx}{r:Root}(hL:LiveT hS.E w x A N t s r)(hst:t.St=St)(h0:0≤t.nr)(h1:t.nr≤1000000000):
  Calls prog 29 #[.pointer (some ⟨x,0,none⟩)] w fun e w'=>e=.returned .nilIface∧w'.heap[x]?=some (qA3 t.ended)∧Shop w' kc db St A C N nM (s.left t.nr) (D.del (ι t.nr)) l wr nw∧Kp [St,x,s.M] w w':=by
 subst hst;obtain⟨n1,n2,n3,n4⟩:=hS.neDb;have hMS:s.M≠t.St:=(qE0 hS.hSt hS.hM).symm;have hxM:x≠s.M:=qE0 hL.hx hS.hM;have hoff:OffD w [t.St,x,s.M]:=(OffD.one hL.hSt (by decide)).cons ((OffD.one hL.hx (by decide)).cons (fun k hk c ty fr e=>by rw[List.mem_singleton.1 hk] at e;exact absurd rfl (qE0 e hS.hM)));refine (xI8 x nM t s D w hL.hx hL.over hS.hSt hS.po hS.hM h0 h1 hMS hL.xS hxM hS.hM.lt).mono ?_;rintro e w' ⟨rfl,hx,hSt,hM,hK⟩;have htd:=hS.hM.tidy qO0;refine⟨rfl,hx,hS.turn hK (by simp[n1,n4];exact qB7 hS.hDb hL.hx (by decide)) (qP4 hS.dev hK hoff) ⟨rfl,rfl,rfl,rfl,rfl,rfl⟩ hSt hM ?_ hS.n1 hS.bg0 (fun k hk=>?_) (fun y h g1 g2 g3=>?_),hK⟩
 ·have:=Maps.size_del (k:=ι t.nr) htd;have:=hS.m4;omega
 ·by_cases e:k=ι t.nr
  ·rw[e,Maps.has_del_same] at hk;cases hk
  ·rw[Maps.has_del_other e] at hk;exact hS.kb k hk
 ·by_cases e:ι y=ι t.nr
  ·rw[e,Maps.has_del_same] at g1;cases g1
  ·rw[Maps.has_del_other e] at g1;exact hS.rd y h g1 (fun zd=>by rw[←g2 zd,Maps.atKey_del_other e]) g3
theorem Shop.commit(hS:Shop w kc db St A C N nM s D l wr nw){x q:Nat}{t:Tx}{r:Root}(hL:LiveT hS.E w x A N t s r)(hst:t.St=St)(hwr:t.wrt=true)(h0:0≤t.nr)(h1:t.nr≤1000000000)(hp:t.h.p=some q)(hrk:r.cont.length≤kc)(hN9:s.N≤999999999)
  (hfit:qC4 r+r.news+Maps.size D*kc+qC4 nw+2≤N):
  Calls prog 14 #[.pointer (some ⟨x,0,none⟩)] w fun e w'=>e=.returned .nilIface∧∃ s' l' nt,Shop w' kc db St A C N nM s' (D.del (ι t.nr)) l' (nx (nk (nx wr) r.news)) nt∧nt.cont=r.cont∧s'.N=s.N+2∧s'.bg=s.bg∧s'.wr=(s.left t.nr).wr∧s'.V=s.V∧s'.M=s.M∧w'.heap[x]?=some (qA3 t.ended)∧Kp [St,x,s.M,A,C] w w'∧Thn N (D.del (ι t.nr)) l l' nw r:=by
 have htd:=hS.hM.tidy qO0;have hsd:=Maps.size_del (k:=ι t.nr) htd;have hle:Maps.size (D.del (ι t.nr))≤Maps.size D:=by omega
 refine jT3 hS x t r hL hst hwr h0 h1 (fun W=>zM9 s.V q t.h s.rb s.rs hp hL.key W) hrk hN9 (fun k hk=>?_) (by have:=hS.m4;omega) (by have:=Nat.mul_le_mul_right kc hle;omega);by_cases e:k=ι t.nr
 ·rw[e,Maps.has_del_same] at hk;cases hk
 ·rw[Maps.has_del_other e] at hk;exact⟨hk,fun zd=>Maps.atKey_del_other e zd⟩
end
end Go.Proofs.YtdohpenfkdckiabGreatDoor
namespace Go.Proofs.YtdohpenfkdckiabGreatDoor
open Go.Proofs.Tryz
open Go.RowKit
def qS5:ByteArray:=⟨#[255,255,255,255,255,255,255,255,255]⟩
def qA6(ps:List KV):List KV:=qG2 ps ⟨#[]⟩ qS5 1048576
theorem BadT.tail{E:SEnv}{w w' w2:World}{t:Tx}{s:Sto}(h:BadT E w w' t s)(hK:Kp [] w' w2):BadT E w w2 t s:=
 ⟨(Env.To.of0 h.dev hK).dev,hK.hp h.hSt,h.kp.tr hK⟩
theorem zB0(E:SEnv)(x A n:Nat)(t:Tx)(s:Sto)(r:Root)(w:World)(hL:LiveT E w x A n t s r):
  Calls prog 36 #[.pointer (some ⟨x,0,none⟩)] w fun e w'=>∃ v,e=.returned (.tuple #[v,.bool true])∧OPA w' w.heap.size v (qA6 r.cont)∧BadT E w w' t s:=by
 have HC:Hid (Calls prog 61 #[.pointer (some ⟨x,0,none⟩),.string ⟨#[]⟩,.string ⟨#[255,255,255,255,255,255,255,255,255]⟩,.int .i64 1048576] w fun e w'=>∃ v,e=.returned (.tuple #[v,.nilIface])∧OPA w' w.heap.size v (qA6 r.cont)∧BadT E w w' t s):=jS3 E x A n t s r ⟨#[]⟩ qS5 1048576 w hL (by decide) (by decide);clear hL;go_enter func36,ntmps36;go_wp2_with fail;refine (show Calls _ _ _ _ _ from HC.out).mono ?_;rintro e w1 ⟨v,rfl,ho,hb⟩;have HE:Hid (OPA w1 w.heap.size v (qA6 r.cont)∧BadT E w w1 t s):=⟨ho,hb⟩;clear ho hb HC;go_wp2_with fail
 go_quiet (fail)
 go_wp2
 go_ret2
 exact⟨v,rfl,HE.out.1.keep ((Kp.refl [] w1).drewN _) (by simp),HE.out.2.tail ((Kp.refl [] w1).drewN _)⟩
theorem Slc.pairT{T:TypeId}{w:World}{v:Value}{ps:List KV}(h:Slc w T 2 v ps.length (qB0 ps))(hn:1≤ps.length):
  ∃ g off cap cur fr,v=.slice (some ⟨g,off,none⟩) ps.length cap∧ps.length≤cap∧w.heap[g]?=some (.cells cur T fr)∧∀ i (h:i<ps.length),cur[off+i*2]?=some (.string ps[i].k)∧cur[off+i*2+1]?=some (.string ps[i].v):=by
 rcases h.val with⟨h0,_⟩|⟨g,off,cap,cur,fr,h1,h2,h3,h4,h5⟩
 ·omega
 ·exact⟨g,off,cap,cur,fr,h1,h3,h4,fun i hi=>⟨h5 _ _ (zC5 hi).1,h5 _ _ (zC5 hi).2⟩⟩
theorem jE8(ba bb:Nat)(va vb:Value)(ps:List KV)(w:World)(ha:OPA w ba va ps)(hb:OPA w bb vb ps)(hn:ps.length≤1000000):
  Calls prog 18 #[va,vb] w fun e w'=>e=.returned (.bool true)∧Kp [] w w':=by
 have sa:=qF7 ha;have sb:=qF7 hb;obtain⟨abs,acp,rfl⟩:=qJ7 ha;obtain⟨bbs,bcp,rfl⟩:=qJ7 hb;obtain⟨ln,hln⟩:∃ ln,ln=ps.length:=⟨_,rfl⟩;have HA:Hid (Slc w 64 2 (.slice abs ln acp) ps.length (qB0 ps)):=by rw[hln];exact sa
 have HB:Hid (Slc w 64 2 (.slice bbs ln bcp) ps.length (qB0 ps)):=by rw[hln];exact sb
 have HLN:=zh hln;rw[←hln] at hn ⊢;clear ha hb sa sb hln;go_enter func18,ntmps18;go_wp2_with fail
 go_loopw [5] (fun i wr=>∃ (j:Nat),j≤ln∧i=.int .i64 j∧Hid (Kp [] w wr)) (fun i _=>ln-(intOf i).toNat)
 case atStart=>exact⟨0,Nat.zero_le _,rfl,Kp.refl _ _⟩
 case round=>
  obtain⟨j,hj,rfl,HK⟩:=hrel;by_cases hlt:j<ln
  ·have hjb:(j:Int)<(ln:Int):=by omega
   have hjp:j<ps.length:=by have:=HLN.out;omega
   obtain⟨ga,oa,ca,cua,fra,e1,e2,e3,e4⟩:=(HA.out.keep0 HK.out).pairT (by omega);obtain⟨gb,ob,cb,cub,frb,f1,f2,f3,f4⟩:=(HB.out.keep0 HK.out).pairT (by omega);cases e1;cases f1;have a0:=ξ e3 (oa+j*2);rw[(e4 j hjp).1] at a0;have a1:=ξ e3 (oa+j*2+1);rw[(e4 j hjp).2] at a1;have b0:=ξ f3 (ob+j*2);rw[(f4 j hjp).1] at b0;have b1:=ξ f3 (ob+j*2+1);rw[(f4 j hjp).2] at b1;have hga:=ζ e3;have hgb:=ζ f3;clear e3 f3 e4 f4;go_wp2_with fail
   go_quiet (fail)
   go_wp2;exact⟨⟨j+1,by omega,by go_num,HK.out.drewN _⟩,by simp[intOf];omega⟩
  ·have hjb:¬(j:Int)<(ln:Int):=by omega
   go_wp2;go_ret;exact⟨rfl,HK.out⟩
section
variable {w:World} {kc db St A C N nM:Nat} {s:Sto} {D:DataW Unit} {l:List UInt8} {wr:Int} {nw:Root}
theorem zI2(hS:Shop w kc db St A C N nM s D l wr nw)(h4:Maps.size D<4)(hnM:nM≤999999)(hbg:s.bg≤100000000)(hwb:s.wr≤s.bg):
  Calls prog 17 #[.pointer (some ⟨db,0,none⟩)] w fun e w'=>∃ v,e=.returned (.tuple #[v,.bool true])∧OPA w' w.heap.size v (qA6 nw.cont)∧Shop w' kc db St A C N (nM+1) s.read ((D.put (ι (s.bg+1)) (qE4 ⟨⟨#[]⟩,s.rb,s.rs,none⟩)).del (ι (s.bg+1))) l wr nw∧Kp [St,s.M,A] w w':=by
 have HB:Hid (Calls prog 22 #[.pointer (some ⟨db,0,none⟩),.bool false] w fun e w'=>∃ x t D',e=.returned (.tuple #[.pointer (some ⟨x,0,none⟩),.nilIface])∧w.heap.size≤x∧t.St=St∧t.nr=s.bg+1∧t.wrt=false∧t.ch=0∧Kp [St,s.M] w w'∧D'=D.put (ι (s.bg+1)) (qE4 ⟨⟨#[]⟩,s.rb,s.rs,none⟩)∧∃ hS':Shop w' kc db St A C N (nM+1) s.read D' l wr nw,LiveT hS'.E w' x A N t s.read nw):=hS.beginR h4 hnM hbg;have hbg0:=hS.bg0;obtain⟨cA,hA⟩:=hS.hA;have hAs:=ζ hA;clear hS hA;go_enter func17,ntmps17;go_wp2_with fail;refine (show Calls _ _ _ _ _ from HB.out).mono ?_;rintro e w1 ⟨x,t,D',rfl,hx,ht1,ht2,ht3,ht4,hK1,rfl,hS1,hL1⟩;have HALL:Hid (Calls prog 36 #[.pointer (some ⟨x,0,none⟩)] w1 fun e w'=>∃ v,e=.returned (.tuple #[v,.bool true])∧OPA w' w1.heap.size v (qA6 nw.cont)∧BadT hS1.E w1 w' t s.read):=zB0 hS1.E x A N t s.read nw w1 hL1;have HL1:=zh hL1;have HS1:=zh hS1;have HK1:=zh hK1;have hs1:=hK1.size;clear hL1 hK1 HB;go_wp2_with fail;refine (show Calls _ _ _ _ _ from HALL.out).mono ?_;rintro e w2 ⟨v,rfl,ho2,hb2⟩;have hL2:=HL1.out.stay hb2;have hK2:Kp [St,x,A] w1 w2:=hb2.kp.mono (by
  intro i hi _;rw[ht1] at hi;rcases List.mem_cons.1 hi with h|h
  ·simp[h]
  ·have h':i∈[A]:=h;simp at h';simp[h'])
 have hS2:=HS1.out.quiet HL1.out.hx hK2 hb2.dev (by have:=hb2.hSt;rw[ht1] at this;exact this);have HAB:Hid (Calls prog 29 #[.pointer (some ⟨x,0,none⟩)] w2 fun e w'=>e=.returned .nilIface∧w'.heap[x]?=some (qA3 t.ended)∧Shop w' kc db St A C N (nM+1) (s.read.left t.nr) ((D.put (ι (s.bg+1)) (qE4 ⟨⟨#[]⟩,s.rb,s.rs,none⟩)).del (ι t.nr)) l wr nw∧Kp [St,x,s.M] w2 w'):=hS2.abort hL2 ht1 (by omega) (by omega);have HO2:=zh ho2;have HK2:Hid (Kp [St,s.M,A] w w2):=(HK1.out.mono (by simp +contextual)).trans hK2 (by intro i hi hlt;simp at hi ⊢;omega);have HN:Hid (∀ k∈[St,x,s.M],∀ c fr,w2.heap[k]?≠some (.cells c 64 fr)):=by
  show ∀ k∈[St,x,s.M],∀ c fr,w2.heap[k]?≠some (.cells c 64 fr);intro k hk c fr e;simp only[List.mem_cons,List.not_mem_nil,or_false] at hk;rcases hk with rfl|rfl|rfl
  ·rw[hS2.hSt] at e;simp[ν] at e
  ·rw[hL2.hx] at e;simp[qA3] at e
  ·exact absurd rfl (qE0 e hS2.hM)
 obtain⟨ob,oc,rfl⟩:=qJ7 ho2;obtain⟨sl,hsl⟩:∃ sl,sl=(qA6 nw.cont).length:=⟨_,rfl⟩;rw[←hsl] at HO2 ⊢;clear ho2 hb2 hL2 hK2 hS2 HALL hsl;go_wp2_with fail;refine (show Calls _ _ _ _ _ from HAB.out).mono ?_;rintro e w3 ⟨rfl,_,hS3,hK3⟩;have HE:Hid (OPA w3 w.heap.size (.slice ob sl oc) (qA6 nw.cont)∧Shop w3 kc db St A C N (nM+1) s.read ((D.put (ι (s.bg+1)) (qE4 ⟨⟨#[]⟩,s.rb,s.rs,none⟩)).del (ι (s.bg+1))) l wr nw∧Kp [St,s.M,A] w w3):=by
  refine⟨qH4 (OPA.keep HO2.out hK3 HN.out) (by omega),?_,HK2.out.trans hK3 (by intro i hi hlt;simp at hi ⊢;omega)⟩;have e:s.read.left t.nr=s.read:=by
   have hne:¬t.nr=s.read.wr:=by show ¬t.nr=s.wr;omega
   simp[Sto.left,if_neg hne]
  rw[e,ht2] at hS3;exact hS3
 clear hS3 hK3 HAB;go_wp2_with fail
 go_quiet (fail)
 go_wp2
 go_ret2
 obtain⟨e1,e2,e3⟩:=HE.out;have hd:=(Kp.refl [] w3).drewN nq;exact⟨_,rfl,e1.keep hd (by simp),e2.turn (hd.mono (S':=[]) (by simp)) (by simp) (qP4 e2.dev hd (by intro k hk;cases hk)) ⟨rfl,rfl,rfl,rfl,rfl,rfl⟩ (hd.hp e2.hSt) (e2.hM.kp hd (by simp)) e2.m4 e2.n1 e2.bg0 e2.kb e2.rd,e3.tr hd⟩
end
section
variable {w:World} {kc db St A C N nM:Nat} {s:Sto} {D:DataW Unit} {l:List UInt8} {wr:Int} {nw:Root}
structure Wrt(w:World)(kc db St A C N nM:Nat)(s:Sto)(D:DataW Unit)(l:List UInt8)(wr:Int)(nw:Root)(x:Nat)(t:Tx)(r:Root)(nr:Int):Prop where
 shop:Shop w kc db St A C N nM s D l wr nw
 live:LiveT shop.E w x A N t s r
 st:t.St=St
 nr:t.nr=nr
 wrt:t.wrt=true
theorem Wrt.stay{x:Nat}{t:Tx}{r:Root}{nr:Int}(h:Wrt w kc db St A C N nM s D l wr nw x t r nr){w':World}(hb:BadT h.shop.E w w' t s):Wrt w' kc db St A C N nM s D l wr nw x t r nr∧Kp [St,A] w w':=by
 have hK:Kp [St,A] w w':=hb.kp.mono (by
  intro i hi _;rw[h.st] at hi;rcases List.mem_cons.1 hi with h|h
  ·simp[h]
  ·have h':i∈[A]:=h;simp at h';simp[h'])
 have hS:=h.shop.quiet h.live.hx (hK.mono (by simp +contextual)) hb.dev (by have:=hb.hSt;rw[h.st] at this;exact this);exact⟨⟨hS,h.live.stay hb,h.st,h.nr,h.wrt⟩,hK⟩
theorem Wrt.turn{x:Nat}{t:Tx}{r:Root}{nr:Int}(h:Wrt w kc db St A C N nM s D l wr nw x t r nr){w':World}{t':Tx}{r':Root}(hl:LiveT h.shop.E w' x A N t' s r')(e1:t'.St=t.St)(e2:t'.nr=t.nr)(e3:t'.wrt=t.wrt)(hk:Kp (t.St::x::h.shop.E.S) w w'):Wrt w' kc db St A C N nM s D l wr nw x t' r' nr∧Kp [St,x,A] w w':=by
 have hK:Kp [St,x,A] w w':=hk.mono (by
  intro i hi _;rw[h.st] at hi;rcases List.mem_cons.1 hi with h|hi
  ·simp[h]
  ·rcases List.mem_cons.1 hi with h|h
   ·simp[h]
   ·have h':i∈[A]:=h;simp at h';simp[h'])
 have hS:=h.shop.quiet h.live.hx hK hl.dev (by have:=hl.hSt;rw[e1,h.st] at this;exact this);exact⟨⟨hS,hl,e1.trans h.st,e2.trans h.nr,e3.trans h.wrt⟩,hK⟩
theorem Wrt.chd{x:Nat}{t:Tx}{r:Root}{nr:Int}(h:Wrt w kc db St A C N nM s D l wr nw x t r nr){w':World}{t':Tx}{r':Root}{j:Nat}(hc:Chd h.shop.E w x A N t s r j w' t' r'):Wrt w' kc db St A C N nM s D l wr nw x t' r' nr∧Kp [St,x,A] w w':=
 h.turn hc.live hc.st hc.nr hc.wrt hc.kp
theorem zI3(hS:Shop w kc db St A C N nM s D l wr nw)(hw:s.wr=0)(hbg:s.bg≤100000000)(a:Int)(ha0:-9223372036854775808≤a)(ha1:a≤9223372036854775807)(m:Nat)(hm:m≤1000)
  (hroom:∀ r':Root,RGood r'→r'.cont.length≤nw.cont.length+m→(r'.news:Int)≤(N:Int)-2-s.bl):
  Calls prog 11 #[.pointer (some ⟨db,0,none⟩),.int .i64 a,.int .i64 m] w fun e w'=>∃ x t r v,e=.returned (.tuple #[.pointer (some ⟨x,0,none⟩),v])∧w.heap.size≤x∧OPA w' w.heap.size v (qA6 r.cont)∧r.cont.length≤nw.cont.length+m∧t.ch≤(m:Int)∧(∀ p∈nw.cont,p.k=qG4→p∈r.cont)∧Kp [St,A] w w'∧Wrt w' kc db St A C N nM s.wrote D l wr nw x t r (s.bg+1):=by
 have HB:Hid (Calls prog 22 #[.pointer (some ⟨db,0,none⟩),.bool true] w fun e w'=>∃ x t,e=.returned (.tuple #[.pointer (some ⟨x,0,none⟩),.nilIface])∧w.heap.size≤x∧t.St=St∧t.nr=s.bg+1∧t.wrt=true∧t.ch=0∧Kp [St] w w'∧∃ hS':Shop w' kc db St A C N nM s.wrote D l wr nw,LiveT hS'.E w' x A N t s.wrote nw):=hS.beginW hw hbg;have HROOM:=zh hroom;have hsz:=hS.sz;have hkc:=hS.kc1;clear hS hroom;go_enter func11,ntmps11;go_wp2_with fail;refine (show Calls _ _ _ _ _ from HB.out).mono ?_;rintro e w1 ⟨x,t,rfl,hx,ht1,ht2,ht3,ht4,hK1,hS1,hL1⟩;have HW1:Hid (Wrt w1 kc db St A C N nM s.wrote D l wr nw x t nw (s.bg+1)):=⟨hS1,hL1,ht1,ht2,ht3⟩;have HC:Hid (Calls prog 37 #[.pointer (some ⟨x,0,none⟩),.int .i64 a,.int .i64 m,.int .i64 20] w1 fun e w'=>e=.returned (.bool true)∧∃ t' r',Chd HW1.out.shop.E w1 x A N t s.wrote nw m w' t' r'):=jB7 hS1.E x A N t s.wrote nw a m w1 hL1 ht3 ha0 ha1 hm (by omega) (by omega) HROOM.out;have HK1:=zh hK1;have hs1:=hK1.size;clear hS1 hL1 hK1 HB;go_wp2_with fail;refine (show Calls _ _ _ _ _ from HC.out).mono ?_;rintro e w2 ⟨rfl,t',r',hc⟩;obtain⟨hW2,hK2⟩:=HW1.out.chd hc;have HALL:Hid (Calls prog 36 #[.pointer (some ⟨x,0,none⟩)] w2 fun e w'=>∃ v,e=.returned (.tuple #[v,.bool true])∧OPA w' w2.heap.size v (qA6 r'.cont)∧BadT hW2.shop.E w2 w' t' s.wrote):=zB0 hW2.shop.E x A N t' s.wrote r' w2 hW2.live;have HW2:=zh hW2;have HLE:Hid (r'.cont.length≤nw.cont.length+m∧t'.ch≤(m:Int)∧∀ p∈nw.cont,p.k=qG4→p∈r'.cont):=⟨hc.len,by have:=hc.ch;omega,hc.keep⟩;have HK2:Hid (Kp [St,A] w w2):=(HK1.out.mono (by simp)).trans hK2 (by intro i hi hlt;simp at hi ⊢;omega);have hs2:=hK2.size;clear hc hK2 HC;go_wp2_with fail;refine (show Calls _ _ _ _ _ from HALL.out).mono ?_;rintro e w3 ⟨v,rfl,ho,hb⟩;obtain⟨hW3,hK3⟩:=HW2.out.stay hb;have HE:Hid (OPA w3 w.heap.size v (qA6 r'.cont)∧r'.cont.length≤nw.cont.length+m∧t'.ch≤(m:Int)∧(∀ p∈nw.cont,p.k=qG4→p∈r'.cont)∧Kp [St,A] w w3∧Wrt w3 kc db St A C N nM s.wrote D l wr nw x t' r' (s.bg+1)):=⟨qH4 ho (by omega),HLE.out.1,HLE.out.2.1,HLE.out.2.2,HK2.out.tr hK3,hW3⟩;obtain⟨ob,oc,rfl⟩:=qJ7 ho;obtain⟨sl,hsl⟩:∃ sl,sl=(qA6 r'.cont).length:=⟨_,rfl⟩;rw[←hsl] at HE ⊢;clear ho hb hW3 hK3 hW2 HALL hsl;go_wp2
 go_ret2
 exact⟨x,t',r',_,rfl,hx,HE.out⟩
end
theorem xH1{n:Nat}{l:Lnk (Tn n)}{W:List (Lnk (Tn n))}(hW:Row0 n l.key W)(hM:Made n l 0 W)(hd:min n 1<cnt n l.sub):∃ m L,qF4 n W=.at m L∧L.ref=none:=by
 rcases hM with⟨a,rfl,e1,e2,e3⟩|⟨a,b,rfl,e1,e2,e3,e4,e5⟩
 ·have e:qF4 n [a]=qT3 n a:=rfl;rw[e]
  cases n with
  | zero=>
   have hc:0<(prs a.sub).length:=by
    have h1:0<(prs l.sub).length:=hd;have h2:(prs l.sub).length≤(prs a.sub).length+0:=e3;omega
   refine⟨0,a,?_,e2⟩;show (match prs a.sub with | []=>Root.none | _::_=>.at 0 a)=_
   cases hp:prs a.sub with
   | nil=>rw[hp] at hc;simp at hc
   | cons x r=>rfl
  | succ n=>
   have hc:(η l.sub).length≤(η a.sub).length+0:=e3;have hc2:1<(η l.sub).length:=by have h2:min (n+1) 1<(η l.sub).length:=hd;omega
   refine⟨n+1,a,?_,e2⟩;show (match η a.sub with | []=>Root.none | [m]=>.at n m | _::_::_=>.at (n+1) a)=_
   cases hp:η a.sub with
   | nil=>rw[hp,List.length_nil] at hc;omega
   | cons x r=>
    cases r with
    | nil=>rw[hp,List.length_cons,List.length_nil] at hc;omega
    | cons y r=>rfl
 ·have h2:meas qA4 [a,b]≤126:=by
   have:=(hW.all a (by simp)).2;have hb:=hW.all b (by simp);simp[meas,qA4];omega
  have e:qD5 n ⟨#[]⟩ [a,b]=[⟨⟨#[]⟩,none,[a,b]⟩]:=by
   unfold qD5 qB8;rw[if_pos h2];rfl
  refine⟨n+1,⟨⟨#[]⟩,none,[a,b]⟩,?_,rfl⟩;show (match qD5 n ⟨#[]⟩ [a,b] with | []=>Root.none | r::_=>qT3 (n+1) r)=_;rw[e];rfl
theorem jQ1{r:Root}{p:KV}(h:RGood r)(hp:qD0 p):∃ m L,r.put p=.at m L∧L.ref=none:=by
 cases r with
 | none=>
  have hs:Sorted [p]:=by simp[Sorted]
  have hz:(⟨#[]⟩:ByteArray).size≤8:=by decide
  obtain⟨r1,r2,r3⟩:=qU4 (lo:=⟨#[]⟩) (ps:=[p]) hs (fun q hq=>by rw[List.mem_singleton.1 hq];exact⟨hp,qO8 _⟩) (by obtain⟨h1,h2,h3⟩:=hp;simp[meas,ρ];omega) hz;have hM:Made 0 ⟨⟨#[]⟩,none,[p]⟩ 0 (qE7 ⟨#[]⟩ [p]):=by
   rcases r3 with⟨a,e1,e2,e3,e4⟩|⟨a,b,e1,e2,e3,e4,e5,e6⟩
   ·exact .inl ⟨a,e1,e2,e3,by rw[e4];exact Nat.le_refl _⟩
   ·exact .inr ⟨a,b,e1,e2,e3,e4,e5,e6⟩
  exact xH1 (n:=0) (l:=(⟨⟨#[]⟩,none,[p]⟩:Lnk (List KV))) r1 hM (by show 0<1;omega)
 | «at» n l=>
  obtain⟨h1,h2,h3⟩:=h;obtain⟨w1,w2,w3⟩:=qY1 n l p h2 hp (by rw[h1];exact qO8 _) (by rw[h1];decide) (by omega);exact xH1 w1 w3 h3
theorem jR8{E:Env}{w:World}{h:HL}{m:Nat}{L:Lnk (Tn m)}(hr:RR E w h (.at m L))(hn:L.ref=none):∃ q,h.p=some q:=by
 have h2:=hr.2;rw[hn] at h2;obtain⟨_,_,q,e,_⟩:=h2;exact⟨q,e⟩
def qN1:ByteArray:=⟨#[111,102,32,97,108,108]⟩
theorem zX3(p:KV)(l:List KV):p∈ins p l:=by simp[ins]
theorem xJ5{ps:List KV}{p:KV}(h:p∈ps)(hp:inR ⟨#[]⟩ qS5 p=true):0<(qA6 ps).length:=by
 have h1:p∈ps.filter (inR ⟨#[]⟩ qS5):=List.mem_filter.2 ⟨h,hp⟩;have h2:0<(ps.filter (inR ⟨#[]⟩ qS5)).length:=List.length_pos_of_mem h1;unfold qA6 qG2;rw[List.length_take];have:(1048576:Int).toNat=1048576:=rfl;omega
theorem jF0(Z:Array Value)(n:Nat)(h:Z.size=n)(h0:∀ v∈Z.toList,v=.int .u8 0):Z=enc (List.replicate n 0):=by
 apply Array.ext';have e:Z.toList=List.replicate n (.int .u8 0):=List.eq_replicate_iff.2 ⟨by simpa using h,h0⟩;rw[e];simp[enc,qD8]
theorem jE4(m:Nat)(h:8≤m):Fresh (List.replicate (m*128) 0):=by
 have e0:min 128 (m*128-0*128)=128:=by omega
 have e1:min 128 (m*128-1*128)=128:=by omega
 exact⟨by rw[χ,List.drop_replicate,List.take_replicate,e0];rfl,by rw[χ,List.drop_replicate,List.take_replicate,e1];rfl⟩
theorem jT4{w:World}{kc db St V M A C N:Nat}{Nh:Int}{l:List UInt8}{calls wr:Int}(hA:w.heap[A]?=some (qT7 N C (.slice none 0 0) calls wr))(hV:w.heap[V]?=some (qC8 A N))(hM:w.heap[M]?=some (.map #[] 0))(hSt:w.heap[St]?=some (ν 0 (qJ8 V M Nh)))(hDb:w.heap[db]?=some (.cells #[.pointer (some ⟨St,0,none⟩)] 95))(hC:w.heap[C]?=some (.cells (enc l) 87))(h8:8≤N)(h4:N≤400)(hl:l.length=N*128)(hfm:Formatted l Nh)(hk:kc≤900)(hN:0≤Nh):
  Shop w kc db St A C N 0 (qJ8 V M Nh) (.map []) l wr .none:=
 { hDb:=hDb,hSt:=hSt,po:=rfl,hM:=⟨#[],0,hM,⟨by simp,MapKept.stamped_empty 0,by simp⟩,Nat.le_refl _,rfl⟩,m4:=by simp[Maps.size],n1:=by omega,dev:=⟨hV,⟨⟨kq N,calls,zY7 N⟩,hA⟩,hC⟩,N8:=h8,N4:=h4,len:=Nat.le_of_eq hl.symm,lie:=⟨rfl,rfl⟩,good:=trivial,heads:=Heads.new hfm,sz:=by simp[Root.cont],kc1:=hk,bl0:=Int.le_refl _,bl1:=by simp[Root.cont,qJ8],sN0:=hN,bg0:=Int.le_refl _,kb:=fun k hk=>by simp[Maps.has] at hk,rd:=fun x h hk=>by simp[Maps.has] at hk }
theorem jU7(V A N C:Nat)(l:Dvw)(writes:Int)(hN:N≤1000)(hln:N*128≤l.l.length)(hAC:C≠A)(hVA:V≠A)(rb rs:Int)(r:Root)(w:World)(hd:Devv V A N C l writes w)(hlie:Lie N l.l rb rs r)(hg:RGood r)(hc:r.cont.length≤1000):
  Calls prog 75 #[τ V ⟨⟨#[]⟩,rb,rs,none⟩] w fun e w'=>e=.returned (.int .i64 (qC4 r))∧Devv V A N C l writes w'∧Kp [A] w w':=by
 have hrn:=qQ6 hg
 cases r with
 | none=>
  obtain⟨rfl,rfl⟩:=hlie;refine (zT0 V w).mono ?_;rintro e w' ⟨rfl,hK⟩;exact⟨rfl,qG3 hd hK (by intro k hk;cases hk),hK.mono (by simp)⟩
 | «at» n L=>
  obtain⟨b,rfl,h2,h3⟩:=hlie;exact jU6 V A N C l writes hN hln hAC hVA n b rs L w hd h3 h2 hg (by have h4:qC4 (.at n L)=qB9 n L.sub:=rfl;omega)
theorem jN9(D X A n C:Nat)(δ:Dvw)(writes:Int)(N rb rs:Int)(r:Root)(w:World)(hD:w.heap[D]?=some (.cells #[.iface 23 (.pointer (some ⟨A,0,none⟩))] 129))(hX:w.heap[X]?=some (.cells #[.pointer none] 24))(h:Devn A n C δ writes w)
  (h8:8≤n) (h400:n≤400) (hXA:X≠A) (hXC:X≠C) (hh:Heads δ.l N rb rs) (hlie:Lie n δ.l rb rs r) (hg:RGood r) (hc:r.cont.length≤1000):
  Calls prog 71 #[.pointer (some ⟨D,0,none⟩),.pointer (some ⟨X,0,none⟩)] w fun e w'=>e=.returned (.tuple #[])∧
   (∃ V M St Db,w.heap.size≤V∧w.heap.size≤M∧w.heap.size≤St∧w.heap.size≤Db∧Devq V A n C δ.l writes w'∧w'.heap[M]?=some (.map #[] 0)∧w'.heap[St]?=some (ν 0 ⟨V,M,N,rb,rs,qC4 r,false,0,0⟩)∧w'.heap[Db]?=some (.cells #[.pointer (some ⟨St,0,none⟩)] 95)∧w'.heap[X]?=some (.cells #[.pointer (some ⟨Db,0,none⟩)] 24))∧Kp [A,C,X] w w':=by
 have hDs:=ζ hD;have hXs:=ζ hX;have hA:=h.sA;have hCs:=h.sC;have hs:n*128≤δ.l.length:=qQ2 n δ.ws δ.l0 h.len h.fit;have hAC:=h.AC;have HCHK:Hid (∀ V W,V≠A→Devv V A n C δ writes W→Calls prog 75 #[τ V ⟨⟨#[]⟩,rb,rs,none⟩] W fun e w'=>e=.returned (.int .i64 (qC4 r))∧Devv V A n C δ writes w'∧Kp [A] W w'):=fun V W hv hd=>jU7 V A n C δ writes (by omega) hs hAC hv rb rs r W hd hlie hg hc;have HH:=zh hh;have HDN:=zh h;clear hh hlie hg hc;have c0:=ξ hD 0;simp at c0;go_enter func71,ntmps71;go_wp2_with fail;refine (jJ9 h h8 h400).mono ?_;rintro e w1 ⟨V,rfl,hVs,hV1,hK1⟩;have hD1:Devv V A n C δ writes w1:=(HDN.out.keep0 hK1).v hV1;have hX1:=hK1.hp hX;have hK1':Kp [A,C,X] w w1:=hK1.mono (by simp);have HVA:Hid (V≠A):=by show V≠A;omega
 have HXA:Hid (X≠A∧X≠C):=⟨hXA,hXC⟩;clear hK1 hXA hXC h HDN;go_wp2_with fail;refine (jI9 hD1 h8 HH.out).mono ?_;rintro e w2 ⟨rfl,hD2,hK2⟩;have hX2:=hK2.heap hX1 (by simp[HXA.out.1]);have hK2':Kp [A,C,X] w w2:=hK1'.trans hK2 (by simp +contextual);have hs1:=hK1'.size;have hs2:=hK2.size;have hVl:=ζ hV1;clear hK2 hK1' hD1 hV1 hX1 c0;go_wp2_with fail;obtain⟨H,hHd⟩:∃ H,H=w2.heap.size:=⟨_,rfl⟩;rw[←hHd];obtain⟨W3,hW3,hK3,hD3,hX3,hH3⟩:∃ W3,W3=w2.alloc (.cells #[.int .u64 N,.int .i64 rb,.int .u64 rs] 116)∧Kp [A,C,X] w W3∧Devv V A n C δ writes W3∧W3.heap[X]?=some (.cells #[.pointer none] 24)∧W3.heap[H]?=some (.cells #[.int .u64 N,.int .i64 rb,.int .u64 rs] 116):=
  ⟨_,rfl,hK2'.alloc _,qG3 hD2 ((Kp.refl [] _).alloc _) (by intro k hk;cases hk),θ _ hX2,by rw[hHd];exact μ _ _⟩
 rw[←hW3];have hHb:w2.heap.size≤H:=by omega
 clear hW3 hK2' hD2 hX2 hHd;have hHs:=ζ hH3;refine (zR1 V rb rs _).mono ?_;rintro e W4 ⟨rfl,hK40⟩;have hX4:=hK40.hp hX3;have hD4:Devv V A n C δ writes W4:=qG3 hD3 hK40 (by intro k hk;cases hk);have hH4:=hK40.hp hH3;have hK4:Kp [A,C,X] w W4:=hK3.tr hK40;have hs4:=hK40.size;clear hK40 hX3 hD3 hH3 hK3;go_wp2_with fail;refine (HCHK.out V W4 HVA.out hD4).mono ?_;rintro e W5 ⟨rfl,hD5,hK50⟩;have hX5:=hK50.heap hX4 (by simp[HXA.out.1]);have hH5:=hK50.ho hH4;have hK5:Kp [A,C,X] w W5:=hK4.tr hK50;have hs5:=hK50.size;clear hK50 hX4 hD4 hH4 hK4;go_wp2_with fail;refine (zM0 hD5.dk).mono ?_;rintro e W6 (⟨hio,_⟩|⟨rfl,hd6,hK60⟩)
 ·exact absurd δ.q hio.1
 have hQ6:Devq V A n C δ.l writes W6:=hd6.q δ.q;have hVC:V≠C:=by omega
 have hX6:=hK60.heap hX5 (by simp[HXA.out.1,HXA.out.2]);have hH6:=hK60.ho hH5;have hK6:Kp [A,C,X] w W6:=hK5.trans hK60 (by simp +contextual);have hs6:=hK60.size;have HXH:Hid (X≠H):=by show X≠H;omega
 have HXV:Hid (X≠V):=by show X≠V;omega
 have hsW6:=hK6.size;clear hK60 hX5 hD5 hH5 hK5 hd6;have hmm:=@run_makeMap prog;have z0:=ξ hH6;have x0:=ξ hX6 0;simp only[zG,zH,zI] at x0;have fx0:=ψ hX6 0;have hX6s:=ζ hX6;have hX6a:X<W6.heap.size+1:=by omega
 have hX6b:X<W6.heap.size+1+1:=by omega
 go_wp2
 go_end0
 obtain⟨U,hU,hKU,hQU,hXU,hsU⟩:∃ U,U=W6.setCell ⟨X,0,none⟩ (.pointer (some ⟨W6.heap.size+1+1,0,none⟩))∧Kp [A,C,X] w U∧Devq V A n C δ.l writes U∧U.heap[X]?=some (.cells #[.pointer (some ⟨W6.heap.size+1+1,0,none⟩)] 24)∧U.heap.size=W6.heap.size:=
  ⟨_,rfl,hK6.sc _,qP4 hQ6 ((Kp.refl [X] _).sc _) (OffD.one hX6 (by decide)),φ hX6 0 _,by simp[World.setCell]⟩
 rw[←hU];have e1:=μ U (.map #[] 0);have e2:=μ (U.alloc (.map #[] 0)) (ν 0 ⟨V,W6.heap.size,N,rb,rs,qC4 r,false,0,0⟩);have e3:=μ ((U.alloc (.map #[] 0)).alloc (ν 0 ⟨V,W6.heap.size,N,rb,rs,qC4 r,false,0,0⟩)) (.cells #[.pointer (some ⟨W6.heap.size+1,0,none⟩)] 95);rw[hsU] at e1;rw[show (U.alloc (.map #[] 0)).heap.size=W6.heap.size+1 from by simp[hsU]] at e2;rw[show ((U.alloc (.map #[] 0)).alloc (ν 0 ⟨V,W6.heap.size,N,rb,rs,qC4 r,false,0,0⟩)).heap.size=W6.heap.size+1+1 from by simp[hsU]] at e3;exact⟨rfl,⟨V,W6.heap.size,W6.heap.size+1,W6.heap.size+1+1,hVs,by omega,by omega,by omega,qP4 hQU ((((Kp.refl [] _).alloc _).alloc _).alloc _) (by intro k hk;cases hk),θ _ (θ _ e1),θ _ e2,e3,θ _ (θ _ (θ _ hXU))⟩,((hKU.alloc _).alloc _).alloc _⟩
end Go.Proofs.YtdohpenfkdckiabGreatDoor
