import Derived.Test.YtdohpenfkdckiabGreatDoorB05
set_option linter.all false
set_option maxRecDepth 100000
set_option maxHeartbeats 20000000
namespace Go.Proofs.YtdohpenfkdckiabGreatDoor
open Go.Proofs.Tryz
open Go.RowKit
theorem zJ4{W:World}{k:Nat}{a b c d:Value}(v0 v1 v2 v3:Value)(h:W.heap[k]?=some (.cells #[a,b,c,d] 81)):
  ((((W.setCell ⟨k,0,none⟩ v0).setCell ⟨k,1,none⟩ v1).setCell ⟨k,2,none⟩ v2).setCell ⟨k,3,none⟩ v3).heap[k]?=some (.cells #[v0,v1,v2,v3] 81)∧Kp [k] W ((((W.setCell ⟨k,0,none⟩ v0).setCell ⟨k,1,none⟩ v1).setCell ⟨k,2,none⟩ v2).setCell ⟨k,3,none⟩ v3):=
 ⟨ω (ω (ω (ω h 0 _) 1 _) 2 _) 3 _,((((Kp.refl _ W).sc _).sc _).sc _).sc _⟩
theorem jR9(E:Env)(r:HL)(v:Value)(l:Lnk (Tn 0))(w:World)(hd:E.Dev w)(hr:RLs E.O 0 w v [l])(hnew:l.ref=none)(hc:cnt 0 l.sub=0):
  Calls prog 91 #[φ E.V r,v] w fun e w'=>e=.returned (φ E.V ⟨⟨#[]⟩,0,0,none⟩)∧E.To w w':=by
 obtain⟨hs,hsl,hb⟩:=hr;have hl1:hs.length=1:=hb.1;obtain⟨gb,off,cp,cur,fr,rfl,hcp,hrow,hcur⟩:=hsl.link (by omega);obtain⟨x,hx⟩:∃ x,hs=[x]:=by
  match hs,hl1 with
  | [x],_=>exact⟨x,rfl⟩
 subst hx;obtain⟨c0,c1,c2,c3⟩:=hcur 0 (by simp);have hrl:RL E.O 0 w x l:=hb.2 0 (by simp) (by simp);rcases hrl.new with⟨_,q,hq1,hq2⟩|⟨hx,_⟩
 ·have hptr:x.ptr=some ⟨q,0,none⟩:=by simp[HL.ptr,hq1]
  simp only[zF,Nat.zero_mul,Nat.add_zero] at c0 c1 c2 c3;rw[hptr] at c3;have HRL:=zh hrl;have HD:=zh hd;have HQ:=zh hq2;have HPT:=zh hptr;have hgs:=ζ hrow;have a0:=ξ hrow off;rw[c0] at a0;have a1:=ξ hrow (off+1);rw[c1] at a1;have a2:=ξ hrow (off+2);rw[c2] at a2;have a3:=ξ hrow (off+3);rw[c3] at a3;have hcz:((cnt 0 l.sub:Nat):Int)=0:=by omega
  have hci:cnt 0 l.sub≤1000000:=by omega
  clear hb hsl hcur hrl hq2 hd hptr hq1 hl1;rw[φ];go_enter func91,ntmps91;go_wp2_with fail;obtain⟨w0,hw0,hB0,hR0,hL0,hK0,hs0⟩:∃ w0,w0=((w.alloc (.cells #[.pointer (some ⟨E.V,0,none⟩),.string r.key,.int .i64 r.b,.int .u64 r.s,.pointer r.ptr] 83)).alloc (.cells #[.pointer none,.string ⟨#[]⟩,.int .i64 0,.int .u64 0,.pointer none] 83)).alloc (.cells #[.string x.key,.int .i64 x.b,.int .u64 x.s,.pointer (some ⟨q,0,none⟩)] 81)∧w0.heap[w.heap.size]?=some (.cells #[.pointer (some ⟨E.V,0,none⟩),.string r.key,.int .i64 r.b,.int .u64 r.s,.pointer r.ptr] 83)∧w0.heap[w.heap.size+1]?=some (.cells #[.pointer none,.string ⟨#[]⟩,.int .i64 0,.int .u64 0,.pointer none] 83)∧w0.heap[w.heap.size+1+1]?=some (.cells #[.string x.key,.int .i64 x.b,.int .u64 x.s,.pointer (some ⟨q,0,none⟩)] 81)∧Kp [] w w0∧w0.heap.size=w.heap.size+3:=by
   refine⟨_,rfl,θ _ (θ _ (μ _ _)),θ _ ?_,?_,(((Kp.refl _ _).alloc _).alloc _).alloc _,by simp⟩
   ·have e:=μ (w.alloc (.cells #[.pointer (some ⟨E.V,0,none⟩),.string r.key,.int .i64 r.b,.int .u64 r.s,.pointer r.ptr] 83)) (.cells #[.pointer none,.string ⟨#[]⟩,.int .i64 0,.int .u64 0,.pointer none] 83);simpa using e
   ·have e:=μ ((w.alloc (.cells #[.pointer (some ⟨E.V,0,none⟩),.string r.key,.int .i64 r.b,.int .u64 r.s,.pointer r.ptr] 83)).alloc (.cells #[.pointer none,.string ⟨#[]⟩,.int .i64 0,.int .u64 0,.pointer none] 83)) (.cells #[.string x.key,.int .i64 x.b,.int .u64 x.s,.pointer (some ⟨q,0,none⟩)] 81);simpa using e
  rw[←hw0];clear hw0;refine (qT1 E.O 0 q l.sub w0 (RN.keep hK0 (Apt.nil _ _) 0 q _ HQ.out) hci).mono ?_;rintro e w1 ⟨rfl,hK1⟩;have hK1':Kp [] w w1:=hK0.tr hK1;rw[hc];clear hc hcz hci;have hT1:=Env.To.of0 HD.out hK1';have hB1:=hK1.hp hB0;have hR1:=hK1.hp hR0;have hL1:=hK1.hp hL0;have hBs:=ζ hB1;have hRs:=ζ hR1;have hLs:=ζ hL1;have b0:=ξ hB1 0;simp only[zG,zH,zI] at b0;have l0:=ξ hL1;have fl0:=ρ hL1;have r0:=ξ hR1;have fr0:=ρ hR1;have HR1:=zh hR1;have HL1:=zh hL1;have HB1:=zh hB1;have HT1:=zh hT1;clear hB1 hR1 hL1 hK1 hK0 hB0 hR0 hL0 hT1 hK1' a0 a1 a2 a3;go_wp2;have hls:=zJ4 (.string ⟨#[]⟩) (.int .i64 0) (.int .u64 0) (.pointer none) HL1.out;have hR2:=hls.2.hp HR1.out;have hts:=qK8 (.pointer (some ⟨E.V,0,none⟩)) (.string ⟨#[]⟩) (.int .i64 0) (.int .u64 0) (.pointer none) hR2;have hT2:=HT1.out.store' (by omega) HL1.out (by decide) hls.2;have hT3:=hT2.store' (by omega) hR2 (by decide) hts.2;exact bodyPost_ret (results_cell_row results91 _ _ (w.heap.size+1) 83 #[.pointer (some ⟨E.V,0,none⟩),.string ⟨#[]⟩,.int .i64 0,.int .u64 0,.pointer none] (0,0) _ rfl hts.1 underlying83 rfl (by kernel_rfl)) rfl ⟨rfl,hT3⟩
 ·rw[hnew] at hx;cases hx
theorem jS0(E:Env)(n:Nat)(r:HL)(v:Value)(l:Lnk (Tn (n+1)))(m:Lnk (Tn n))(w:World)(hd:E.Dev w)(hr:RLs E.O (n+1) w v [l])(hnew:l.ref=none)(hm:η l.sub=[m]):
  Calls prog 91 #[φ E.V r,v] w fun e w'=>∃ h,e=.returned (φ E.V h)∧RL E.O n w' h m∧E.To w w':=by
 obtain⟨hs,hsl,hb⟩:=hr;have hl1:hs.length=1:=hb.1;obtain⟨gb,off,cp,cur,fr,rfl,hcp,hrow,hcur⟩:=hsl.link (by omega);obtain⟨x,hx⟩:∃ x,hs=[x]:=by
  match hs,hl1 with
  | [x],_=>exact⟨x,rfl⟩
 subst hx;obtain⟨c0,c1,c2,c3⟩:=hcur 0 (by simp);have hrl:RL E.O (n+1) w x l:=hb.2 0 (by simp) (by simp);rcases hrl.new with⟨_,q,hq1,hq2⟩|⟨hx,_⟩
 ·have hptr:x.ptr=some ⟨q,0,none⟩:=by simp[HL.ptr,hq1]
  simp only[zF,Nat.zero_mul,Nat.add_zero] at c0 c1 c2 c3;rw[hptr] at c3;have HRL:=zh hrl;have HD:=zh hd;have HQ:=zh hq2;have HPT:=zh hptr;have hgs:=ζ hrow;have a0:=ξ hrow off;rw[c0] at a0;have a1:=ξ hrow (off+1);rw[c1] at a1;have a2:=ξ hrow (off+2);rw[c2] at a2;have a3:=ξ hrow (off+3);rw[c3] at a3;have HC:Hid (cnt (n+1) l.sub=1):=by show (η l.sub).length=1;rw[hm];rfl
  have HM:=zh hm;clear hb hsl hcur hrl hq2 hd hptr hq1 hl1 hm;rw[φ];go_enter func91,ntmps91;go_wp2_with fail;obtain⟨w0,hw0,hB0,hR0,hL0,hK0,hs0⟩:∃ w0,w0=((w.alloc (.cells #[.pointer (some ⟨E.V,0,none⟩),.string r.key,.int .i64 r.b,.int .u64 r.s,.pointer r.ptr] 83)).alloc (.cells #[.pointer none,.string ⟨#[]⟩,.int .i64 0,.int .u64 0,.pointer none] 83)).alloc (.cells #[.string x.key,.int .i64 x.b,.int .u64 x.s,.pointer (some ⟨q,0,none⟩)] 81)∧w0.heap[w.heap.size]?=some (.cells #[.pointer (some ⟨E.V,0,none⟩),.string r.key,.int .i64 r.b,.int .u64 r.s,.pointer r.ptr] 83)∧w0.heap[w.heap.size+1]?=some (.cells #[.pointer none,.string ⟨#[]⟩,.int .i64 0,.int .u64 0,.pointer none] 83)∧w0.heap[w.heap.size+1+1]?=some (.cells #[.string x.key,.int .i64 x.b,.int .u64 x.s,.pointer (some ⟨q,0,none⟩)] 81)∧Kp [] w w0∧w0.heap.size=w.heap.size+3:=by
   refine⟨_,rfl,θ _ (θ _ (μ _ _)),θ _ ?_,?_,(((Kp.refl _ _).alloc _).alloc _).alloc _,by simp⟩
   ·have e:=μ (w.alloc (.cells #[.pointer (some ⟨E.V,0,none⟩),.string r.key,.int .i64 r.b,.int .u64 r.s,.pointer r.ptr] 83)) (.cells #[.pointer none,.string ⟨#[]⟩,.int .i64 0,.int .u64 0,.pointer none] 83);simpa using e
   ·have e:=μ ((w.alloc (.cells #[.pointer (some ⟨E.V,0,none⟩),.string r.key,.int .i64 r.b,.int .u64 r.s,.pointer r.ptr] 83)).alloc (.cells #[.pointer none,.string ⟨#[]⟩,.int .i64 0,.int .u64 0,.pointer none] 83)) (.cells #[.string x.key,.int .i64 x.b,.int .u64 x.s,.pointer (some ⟨q,0,none⟩)] 81);simpa using e
  rw[←hw0];clear hw0;refine (qT1 E.O (n+1) q l.sub w0 (RN.keep hK0 (Apt.nil _ _) (n+1) q _ HQ.out) (by rw[HC.out];omega)).mono ?_;rintro e w1 ⟨rfl,hK1⟩;have hK1':Kp [] w w1:=hK0.tr hK1;have hT1:=Env.To.of0 HD.out hK1';have hB1:=hK1.hp hB0;have hR1:=hK1.hp hR0;have hL1:=hK1.hp hL0;rw[HC.out];obtain⟨vl,hobw,hs,hsl,hb⟩:=HQ.out;have hob:=hK1'.hp hobw;rw[HM.out] at hb;obtain⟨y,hy⟩:∃ y,hs=[y]:=by
   have hl1:hs.length=1:=hb.1
   match hs,hl1 with
   | [y],_=>exact⟨y,rfl⟩
  subst hy;obtain⟨gy,oy,cy,cury,fry,rfl,hcy,hrowyw,hcury⟩:=hsl.link (by simp);have hrowy:=hK1'.hp hrowyw;obtain⟨y0,y1,y2,y3⟩:=hcury 0 (by simp);simp only[zF,Nat.zero_mul,Nat.add_zero] at y0 y1 y2 y3;have hry:RL E.O n w y m:=hb.2 0 (by simp) (by simp);have HRY:=zh hry;obtain⟨lv,hlv⟩:∃ lv:Int,((n+1:Nat):Int)=lv:=⟨_,rfl⟩;rw[hlv] at hob;have hgy:=ζ hrowy;have s0:=ξ hrowy oy;rw[y0] at s0;have s1:=ξ hrowy (oy+1);rw[y1] at s1;have s2:=ξ hrowy (oy+2);rw[y2] at s2;have s3:=ξ hrowy (oy+3);rw[y3] at s3;clear hsl hb hcury hry hlv hobw hrowyw;have hqs:=ζ hob;have hBs:=ζ hB1;have hRs:=ζ hR1;have hLs:=ζ hL1;have o2:=ξ hob 2;simp only[υ,zG,zH,zI] at o2;have b0:=ξ hB1 0;simp only[zG,zH,zI] at b0;have l0:=ξ hL1;have fl0:=ρ hL1;have r0:=ξ hR1;have fr0:=ρ hR1;have HR1:=zh hR1;have HL1:=zh hL1;have HT1:=zh hT1;have HGY:=zh hrowy;have HS0:Hid (w.heap.size+3≤w1.heap.size):=by have:=hK1.size;show _≤_;omega
  clear hB1 hR1 hL1 hob hK1 hK0 hB0 hR0 hL0 hT1 hK1' a0 a1 a2 a3 hrowy;go_wp2;have hls:=zJ4 (.string y.key) (.int .i64 y.b) (.int .u64 y.s) (.pointer y.ptr) HL1.out;have hR2:=hls.2.hp HR1.out;have hts:=qK8 (.pointer (some ⟨E.V,0,none⟩)) (.string y.key) (.int .i64 y.b) (.int .u64 y.s) (.pointer y.ptr) hR2;have hT2:=HT1.out.store' (by omega) HL1.out (by decide) hls.2;have hT3:=hT2.store' (by omega) hR2 (by decide) hts.2;exact bodyPost_ret (results_cell_row results91 _ _ (w.heap.size+1) 83 #[.pointer (some ⟨E.V,0,none⟩),.string y.key,.int .i64 y.b,.int .u64 y.s,.pointer y.ptr] (0,0) _ rfl hts.1 underlying83 rfl (by kernel_rfl)) rfl ⟨y,rfl,Env.RL HRY.out HD.out hT3,hT3⟩
 ·rw[hnew] at hx;cases hx
def qS4:(n:Nat)→Tn n→Prop
 | 0,_=>True
 | n+1,t=>2≤(η t).length∧∀ l∈η t,qS4 n l.sub
theorem zH5:∀ (n:Nat) (lo:ByteArray) (t:Tn n),Good n lo t→min n 1<cnt n t→qS4 n t
 | 0,_,_,_,_=>trivial
 | n+1,lo,t,h,hc=>by
  have h2:min (n+1) 1<(η t).length:=hc;exact⟨by omega,fun l hl=>zH5 n l.key l.sub (h.all l hl).1 (by have:=(h.all l hl).2.1;omega)⟩
def qZ8(w:World)(S:List Nat):Prop:=∀ k∈S,∀ c t fr,w.heap[k]?=some (.cells c t fr)→t ∉ qF9∨(t=81∧c.size≤4)
theorem jP5{S:List Nat}{w w':World}(hK:Kp S w w')(hS:qZ8 w S){v:Value}{hs:List HL}(h:Slc w 81 4 v hs.length (qA5 hs))(h2:2≤hs.length):Slc w' 81 4 v hs.length (qA5 hs):=by
 refine⟨h.len,?_⟩;rcases h.val with h|⟨g,off,cap,cur,fr,h1,_,h3,h4,h5⟩
 ·exact .inl h
 ·refine .inr ⟨g,off,cap,cur,fr,h1,by omega,h3,hK.heap h4 (fun hm=>?_),h5⟩;rcases hS g hm _ _ _ h4 with hx|⟨_,hx⟩
  ·exact hx (by decide)
  ·obtain⟨e0,_⟩:=qU7 (ls:=hs) (i:=1) (by omega);have d0:=(Array.getElem?_eq_some_iff.1 (h5 _ _ e0)).1;omega
theorem RN.keepW{O:qF0}{S:List Nat}{w w':World}(hK:Kp S w w')(hS:qZ8 w S):∀ (n:Nat) (q:Nat) (t:Tn n),qS4 n t→RN O n w q t→RN O n w' q t
 | 0,q,t,_,h=>by
  obtain⟨vp,h1,h2⟩:=h;have hn:∀ (k:Nat) (c:Array Value) (t:TypeId) (fr:Nat × Nat),w.heap[k]?=some (.cells c t fr)→t∈qF9→t≠81→k ∉ S:=fun k c t fr e ht hne hm=>by
   rcases hS k hm c t fr e with hx|⟨hx,_⟩
   ·exact hx ht
   ·exact hne hx
  refine⟨vp,hK.heap h1 (hn q _ _ _ h1 (by decide) (by decide)),h2.len,?_⟩;rcases h2.val with h|⟨g,off,cap,cur,fr,k1,k2,k3,k4,k5⟩
  ·exact .inl h
  ·exact .inr ⟨g,off,cap,cur,fr,k1,k2,k3,hK.heap k4 (hn g _ _ _ k4 (by decide) (by decide)),k5⟩
 | n+1,q,t,hw,h=>by
  obtain⟨vl,h1,hs,h2,h3⟩:=h;refine⟨vl,hK.heap h1 (fun hm=>?_),hs,jP5 hK hS h2 (by rw[h3.1];exact hw.1),h3.1,fun i hi hi'=>(h3.2 i hi hi').mono (fun q hq=>RN.keepW hK hS n q _ (hw.2 _ (List.getElem_mem hi')) hq) (fun _ _ h=>h)⟩;rcases hS q hm _ _ _ h1 with hx|⟨hx,_⟩
  ·exact hx (by decide)
  ·cases hx
theorem RL.keepW{O:qF0}{S:List Nat}{w w':World}{n:Nat}{h:HL}{l:Lnk (Tn n)}(hr:RL O n w h l)(hK:Kp S w w')(hS:qZ8 w S)(hw:qS4 n l.sub):RL O n w' h l:=hr.mono (fun q hq=>RN.keepW hK hS n q _ hw hq) (fun _ _ h=>h)
theorem jS1(E:Env)(n:Nat)(r:HL)(v:Value)(l m:Lnk (Tn n))(w:World)(hd:E.Dev w)(hr:RLs E.O n w v [l,m])(hn:n≤100000)(hnew:l.ref=none)(hk:l.key.size≤8∧m.key.size≤8)(hwl:qS4 n l.sub)(hwm:qS4 n m.sub):
  Calls prog 91 #[φ E.V r,v] w fun e w'=>∃ h,e=.returned (φ E.V h)∧RL E.O (n+1) w' h ⟨⟨#[]⟩,none,[l,m]⟩∧E.To w w':=by
 have hfit:meas qA3 [l,m]≤126:=by simp[meas,qA3];omega
 have hbr:qD7 n ⟨#[]⟩ [l,m]=[⟨⟨#[]⟩,none,[l,m]⟩]:=by
  unfold qD7 qB6;rw[if_pos hfit];rfl
 have hlz:∀ x∈[l,m],qA3 x≤21:=by
  intro x hx;simp only[List.mem_cons,List.not_mem_nil,or_false] at hx;unfold qA3;rcases hx with rfl|rfl<;>omega
 have HRR:=zh hr;obtain⟨hs,hsl,hb⟩:=hr;have hl1:hs.length=2:=hb.1;obtain⟨gb,off,cp,cur,fr,rfl,hcp,hrow,hcur⟩:=hsl.link (by omega);obtain⟨x,x2,hx⟩:∃ x x2,hs=[x,x2]:=by
  match hs,hl1 with
  | [x,x2],_=>exact⟨x,x2,rfl⟩
 subst hx;obtain⟨c0,c1,c2,c3⟩:=hcur 0 (by simp);have hrl:RL E.O n w x l:=hb.2 0 (by simp) (by simp);rcases hrl.new with⟨_,q,hq1,hq2⟩|⟨hx,_⟩
 ·have hptr:x.ptr=some ⟨q,0,none⟩:=by simp[HL.ptr,hq1]
  simp only[zF,Nat.zero_mul,Nat.add_zero] at c0 c1 c2 c3;rw[hptr] at c3;have HD:=zh hd;have HBR:=zh hbr;have HFIT:Hid ((∀ x∈[l,m],qA3 x≤21)∧meas qA3 [l,m]≤210):=⟨hlz,by omega⟩;have HW:Hid (qS4 (n+1) [l,m]):=⟨by show 2≤2;omega,fun z hz=>by
   have hz:z∈[l,m]:=hz;simp only[List.mem_cons,List.not_mem_nil,or_false] at hz;rcases hz with rfl|rfl<;>assumption⟩
  obtain⟨pb,pl,pc,lb,ll,lc,hobw,_⟩:=hq2.obj;obtain⟨lv,hlv⟩:∃ lv:Int,(n:Int)=lv:=⟨_,rfl⟩;rw[hlv] at hobw;have hlv1:0≤lv∧lv≤100000:=by omega
  have HLV:Hid (lv+1=((n+1:Nat):Int)):=by show _=_;omega
  have hqs:=ζ hobw;have o0:∀ A B C:Obj,(((w.alloc A).alloc B).alloc C).cell? ⟨q,0,none⟩=some (.int .i64 lv):=fun A B C=>(ξ (θ _ (θ _ (θ _ hobw))) 0).trans (by simp);have hlw:IntKind.i64.wrap (lv+1)=lv+1:=by rw[IntKind.wrap_i64];omega
  have hgs:=ζ hrow;have a0:=ξ hrow off;rw[c0] at a0;have a1:=ξ hrow (off+1);rw[c1] at a1;have a2:=ξ hrow (off+2);rw[c2] at a2;have a3:=ξ hrow (off+3);rw[c3] at a3;clear hb hsl hcur hrl hq2 hd hptr hq1 hl1 hlv hbr hlz hfit hk hwl hwm;rw[φ];go_enter func91,ntmps91;go_wp2_with fail;obtain⟨w0,hw0,hB0,hR0,hL0,hK0,hs0⟩:∃ w0,w0=((w.alloc (.cells #[.pointer (some ⟨E.V,0,none⟩),.string r.key,.int .i64 r.b,.int .u64 r.s,.pointer r.ptr] 83)).alloc (.cells #[.pointer none,.string ⟨#[]⟩,.int .i64 0,.int .u64 0,.pointer none] 83)).alloc (.cells #[.string x.key,.int .i64 x.b,.int .u64 x.s,.pointer (some ⟨q,0,none⟩)] 81)∧w0.heap[w.heap.size]?=some (.cells #[.pointer (some ⟨E.V,0,none⟩),.string r.key,.int .i64 r.b,.int .u64 r.s,.pointer r.ptr] 83)∧w0.heap[w.heap.size+1]?=some (.cells #[.pointer none,.string ⟨#[]⟩,.int .i64 0,.int .u64 0,.pointer none] 83)∧w0.heap[w.heap.size+1+1]?=some (.cells #[.string x.key,.int .i64 x.b,.int .u64 x.s,.pointer (some ⟨q,0,none⟩)] 81)∧Kp [] w w0∧w0.heap.size=w.heap.size+3:=by
   refine⟨_,rfl,θ _ (θ _ (μ _ _)),θ _ ?_,?_,(((Kp.refl _ _).alloc _).alloc _).alloc _,by simp⟩
   ·have e:=μ (w.alloc (.cells #[.pointer (some ⟨E.V,0,none⟩),.string r.key,.int .i64 r.b,.int .u64 r.s,.pointer r.ptr] 83)) (.cells #[.pointer none,.string ⟨#[]⟩,.int .i64 0,.int .u64 0,.pointer none] 83);simpa using e
   ·have e:=μ ((w.alloc (.cells #[.pointer (some ⟨E.V,0,none⟩),.string r.key,.int .i64 r.b,.int .u64 r.s,.pointer r.ptr] 83)).alloc (.cells #[.pointer none,.string ⟨#[]⟩,.int .i64 0,.int .u64 0,.pointer none] 83)) (.cells #[.string x.key,.int .i64 x.b,.int .u64 x.s,.pointer (some ⟨q,0,none⟩)] 81);simpa using e
  rw[←hw0];clear hw0;have hT0:=Env.To.of0 HD.out hK0;refine (qU1 E.O n (lv+1) HLV.out ⟨#[]⟩ _ [l,m] w0 (Env.RLs HRR.out HD.out hT0) (by simp) HFIT.out.1 HFIT.out.2).mono ?_;rintro e w1 ⟨v1,rfl,hR1',hK1⟩;rw[HBR.out] at hR1';obtain⟨hs1,hsl1,hb1⟩:=hR1';obtain⟨y,hy⟩:∃ y,hs1=[y]:=by
   have hl1:hs1.length=1:=hb1.1
   match hs1,hl1 with
   | [y],_=>exact⟨y,rfl⟩
  subst hy;obtain⟨gy,oy,cy,cury,fry,rfl,hcy,hrowy,hcury⟩:=hsl1.link (by simp);obtain⟨y0,y1,y2,y3⟩:=hcury 0 (by simp);simp only[zF,Nat.zero_mul,Nat.add_zero] at y0 y1 y2 y3;have hry:RL E.O (n+1) w1 y ⟨⟨#[]⟩,none,[l,m]⟩:=hb1.2 0 (by simp) (by simp);obtain⟨hk0,hry2⟩:=id hry;obtain⟨hb0,hs0',q',hq',hN'⟩:=hry2;have hyeq:y=⟨⟨#[]⟩,0,0,some q'⟩:=by
   obtain⟨ya,yb,yc,yd⟩:=y;simp only at hk0 hb0 hs0' hq';subst hk0 hb0 hs0' hq';rfl
  subst hyeq;have hptr':HL.ptr ⟨⟨#[]⟩,0,0,some q'⟩=some ⟨q',0,none⟩:=rfl;rw[hptr'] at y3;simp only at y0 y1 y2;have hgy:=ζ hrowy;have s0:=ξ hrowy oy;rw[y0] at s0;have s1:=ξ hrowy (oy+1);rw[y1] at s1;have s2:=ξ hrowy (oy+2);rw[y2] at s2;have s3:=ξ hrowy (oy+3);rw[y3] at s3;have hK1':Kp [] w w1:=hK0.tr hK1;have hT1:=Env.To.of0 HD.out hK1';have hB1:=hK1.hp hB0;have hR1:=hK1.hp hR0;have hL1:=hK1.hp hL0;have hBs:=ζ hB1;have hRs:=ζ hR1;have hLs:=ζ hL1;have b0:=ξ hB1 0;simp only[zG,zH,zI] at b0;have l0:=ξ hL1;have fl0:=ρ hL1;have r0:=ξ hR1;have fr0:=ρ hR1;have HRY:=zh hry;have HNY:=zh hN';have HT1:=zh hT1;have HR1:=zh hR1;have HL1:=zh hL1;have HB1:=zh hB1;clear hsl1 hb1 hcury hry hN' hq' hptr' hk0 hb0 hs0' hB1 hR1 hL1 hT1 hK1' hK1 hT0 hK0 hB0 hR0 hL0 a0 a1 a2 a3 o0 hobw hrowy;go_wp2_with fail;have hls:=zJ4 (.string ⟨#[]⟩) (.int .i64 0) (.int .u64 0) (.pointer (some ⟨q',0,none⟩)) HL1.out;obtain⟨w2,hw2,hL2,hK2⟩:∃ w2,w2=(((w1.setCell ⟨w.heap.size+1+1,0,none⟩ (.string ⟨#[]⟩)).setCell ⟨w.heap.size+1+1,1,none⟩ (.int .i64 0)).setCell ⟨w.heap.size+1+1,2,none⟩ (.int .u64 0)).setCell ⟨w.heap.size+1+1,3,none⟩ (.pointer (some ⟨q',0,none⟩))∧w2.heap[w.heap.size+1+1]?=some (.cells #[.string ⟨#[]⟩,.int .i64 0,.int .u64 0,.pointer (some ⟨q',0,none⟩)] 81)∧Kp [w.heap.size+1+1] w1 w2:=⟨_,rfl,hls.1,hls.2⟩;rw[←hw2];clear hw2 hls b0 l0 fl0 r0 fr0 s0 s1 s2 s3;have hAW:qZ8 w1 [w.heap.size+1+1]:=fun i hi c t fr' e=>by
   rw[List.mem_singleton.1 hi,HL1.out] at e;cases e;exact .inr ⟨rfl,by simp⟩
  have hN2:RN E.O (n+1) w2 q' [l,m]:=RN.keepW hK2 hAW (n+1) q' _ HW.out HNY.out;have hR2:=hK2.hp HR1.out;have hB2:=hK2.ho HB1.out;have hT2:=HT1.out.store' (by omega) HL1.out (by decide) hK2;have hRY2:=RL.keepW HRY.out hK2 hAW HW.out;refine (qT1 E.O (n+1) q' [l,m] w2 hN2 (by show 2≤1000000;omega)).mono ?_;rintro e w3 ⟨rfl,hK3⟩;rw[show cnt (n+1) [l,m]=2 from rfl];obtain⟨pb',pl',pc',lb',ll',lc',hob,hcn,_,hn1⟩:=(RN.keep hK3 (Apt.nil _ _) (n+1) q' _ hN2).obj2;have hll':ll'=2:=(hn1 (by omega)).trans rfl;have hR3:=hK3.hp hR2;have hB3:=hK3.hp hB2;have hL3:=hK3.hp hL2;have hT3:=hT2.tail hK3;have hRY3:=RL.keep hRY2 hK3 (Apt.nil _ _);subst hll';have hqs3:=ζ hob;have hBs3:=ζ hB3;have hRs3:=ζ hR3;have hLs3:=ζ hL3;have o2:=ξ hob 2;simp only[υ,zG,zH,zI] at o2;have b0:=ξ hB3 0;simp only[zG,zH,zI] at b0;have l0:=ξ hL3;have r0:=ξ hR3;have fr0:=ρ hR3;have HR3:=zh hR3;have HT3:=zh hT3;have HRY3:=zh hRY3;clear hob hB3 hL3 hR3 hT3 hRY3 hRY2 hT2 hN2 hR2 hB2 hL2 hK2 hK3 hAW hcn hn1;go_wp2;have hts:=qK8 (.pointer (some ⟨E.V,0,none⟩)) (.string ⟨#[]⟩) (.int .i64 0) (.int .u64 0) (.pointer (some ⟨q',0,none⟩)) HR3.out;have hT4:=HT3.out.store' (by omega) HR3.out (by decide) hts.2;have hAT:Apt w3 [w.heap.size+1] qF9:=fun i hi c t fr' e=>by
   rw[List.mem_singleton.1 hi,HR3.out] at e;cases e;decide
  exact bodyPost_ret (results_cell_row results91 _ _ (w.heap.size+1) 83 #[.pointer (some ⟨E.V,0,none⟩),.string ⟨#[]⟩,.int .i64 0,.int .u64 0,.pointer (some ⟨q',0,none⟩)] (0,0) _ rfl hts.1 underlying83 rfl (by kernel_rfl)) rfl ⟨⟨⟨#[]⟩,0,0,some q'⟩,rfl,RL.keep HRY3.out hts.2 hAT,hT4⟩
 ·rw[hnew] at hx;cases hx
end Go.Proofs.YtdohpenfkdckiabGreatDoor
