import Derived.Test.YtdohpenfkdckiabGreatDoorP06
set_option linter.all false
set_option maxRecDepth 100000
set_option maxHeartbeats 20000000
namespace Go.Proofs.YtdohpenfkdckiabGreatDoor
open Go.Proofs.Tryz
open Go.RowKit
theorem Good.row{n:Nat}{lo:ByteArray}{t:Tn (n+1)}(h:Good (n+1) lo t):Row0 n lo (η t):=⟨h.head,fun m hm=>⟨(h.all m hm).1,(h.all m hm).2.2⟩,h.pair⟩
theorem zC7{O:qE1}{n:Nat}{w:World}{hs:List HL}{ls:List (Lnk (Tn n))}(hb:Both (RL O n w) hs ls)(hp:ls.Pairwise (qQ8 n)):Rise hs:=by
 unfold Rise;rw[List.pairwise_iff_getElem];intro i j hi hj hij;have h1:=hb.1;have:=List.pairwise_iff_getElem.1 hp i j (by omega) (by omega) hij;rw[(hb.2 i hi (by omega)).1,(hb.2 j hj (by omega)).1];exact this.1
theorem zN3{O:qE1}{n:Nat}{w:World}{hs:List HL}{ls:List (Lnk (Tn n))}(hb:Both (RL O n w) hs ls)(k:ByteArray):hs.findIdx (fun l=>kl k l.key)=ls.findIdx (fun l=>kl k l.key):=by
 have e:hs.map HL.key=ls.map Lnk.key:=hb.map_eq fun x y hr=>hr.1;have h1:∀ (l:List HL),l.findIdx (fun l=>kl k l.key)=(l.map HL.key).findIdx (fun x=>kl k x):=fun l=>by rw[List.findIdx_map];rfl
 have h2:∀ (l:List (Lnk (Tn n))),l.findIdx (fun l=>kl k l.key)=(l.map Lnk.key).findIdx (fun x=>kl k x):=fun l=>by rw[List.findIdx_map];rfl
 rw[h1,h2,e]
def qU6(w:World)(s:Value):Nat:=match s with
 | .pointer (some a)=>match w.cell? ⟨a.block,0,none⟩ with
  | some (.int _ i)=>i.toNat
  | _=>0
 | _=>0
theorem zJ8{O:qE1}{n:Nat}{w:World}{q:Nat}{t:Tn n}(h:RN O n w q t):qU6 w (.pointer (some ⟨q,0,none⟩))=n:=by
 obtain⟨pb,pl,pc,lb,ll,lc,h1,h2⟩:=h.obj;have:=ξ h1 0;simp only[υ,zG,zH] at this;simp[qU6,this]
theorem xH4{n:Nat}{lo k:ByteArray}{t:Tn (n+1)}(hg:Good (n+1) lo t)(hk:kl k lo=false)(hc:1≤cnt (n+1) t):
  ∃ (h:qB3 (η t) k<(η t).length),Good n (η t)[qB3 (η t) k].key (η t)[qB3 (η t) k].sub∧3≤cnt n (η t)[qB3 (η t) k].sub∧kl k (η t)[qB3 (η t) k].key=false∧qH9 (cont (n+1) t) k=qH9 (cont n (η t)[qB3 (η t) k].sub) k:=by
 have hne:η t≠[]:=fun e=>by
  have h4:1≤(η t).length:=hc;rw[e] at h4;simp at h4
 obtain⟨A,m,B,e,hA,hkm,hqA,hqB⟩:=zE3 hg.row hne hk;have hlt:qB3 (η t) k<(η t).length:=by rw[←hA,e];simp
 have hm:(η t)[qB3 (η t) k]=m:=by
  have:(η t)[qB3 (η t) k]?=some m:=by rw[←hA,e];simp
  rw[List.getElem?_eq_getElem hlt] at this;exact Option.some.inj this
 have hall:=hg.all m (by show m∈η t;rw[e];simp);refine⟨hlt,?_⟩;rw[hm];refine⟨hall.1,hall.2.1,hkm,?_⟩;show qH9 ((η t).flatMap fun l=>cont n l.sub) k=_;rw[e,List.flatMap_append,List.flatMap_cons,←List.append_assoc];refine xW7 (fun q hq=>?_) (fun q hq=>?_)
 ·obtain⟨a,ha,hq⟩:=List.mem_flatMap.1 hq;exact qJ4 (hqA a ha q hq)
 ·obtain⟨b,hb,hq⟩:=List.mem_flatMap.1 hq;have gb:=hg.all b (by show b∈η t;rw[e];simp[hb]);exact (qJ4 (qO1 (hqB b hb) ((qN9 n b.key b.sub gb.1).2 q hq).2)).symm
def zN8(E:Env)(w0 w:World)(k:ByteArray)(all:List KV)(s:Value):Prop:=
 ∃ (m:Nat) (t:Tn m) (lo:ByteArray) (q:Nat),s=.pointer (some ⟨q,0,none⟩)∧RN E.O m w q t∧Good m lo t∧kl k lo=false∧1≤cnt m t∧qH9 all k=qH9 (cont m t) k∧m≤1000000
theorem zW2(E:Env)(r:Root)(h:HL)(k:ByteArray)(w:World)(hd:E.Dev w)(hR:RR E w h r)(hg:RGood r)(hsz:r.cont.length≤1000000):
  Calls prog 50 #[τ E.V h,.string k] w fun e w'=>e=.returned (.tuple #[.string (zH1 r.cont k),.bool (qH9 r.cont k).isSome])∧E.To w w':=by
 cases r with
 | none=>
  have hR:h=⟨⟨#[]⟩,0,0,none⟩:=hR;subst hR;have HD:=zh hd;clear hd;rw[τ];go_enter func50,ntmps50;go_wp2_with fail;refine (qZ9 E.V _).mono ?_;rintro e w1 ⟨rfl,hK1⟩;have hK1':Kp [] w w1:=((Kp.refl _ _).alloc _).tr hK1;go_wp2
  go_ret2
  exact⟨rfl,Env.To.of0 HD.out hK1'⟩
 | «at» n l=>
  have hR:RL E.O n w h l:=hR;obtain⟨g1,g2,g3⟩:=hg;have hlv:=zL6 ⟨g1,g2,g3⟩;have hsz:(cont n l.sub).length≤1000000:=hsz;obtain⟨all,hall⟩:∃ all,all=cont n l.sub:=⟨_,rfl⟩;have HA:Hid (Root.cont (.at n l)=all):=hall.symm;have HD:=zh hd;have HG:=zh g2;clear hd;obtain⟨tc,htc,htv⟩:∃ tc:Array Value,tc=#[.pointer (some ⟨E.V,0,none⟩),.string h.key,.int .i64 h.b,.int .u64 h.s,.pointer h.ptr]∧τ E.V h=.agg tc:=⟨_,rfl,rfl⟩;rw[τ];go_enter func50,ntmps50;go_wp2_with fail;obtain⟨w0,hw0,hB0,hK0⟩:∃ w0,w0=w.alloc (.cells #[.pointer (some ⟨E.V,0,none⟩),.string h.key,.int .i64 h.b,.int .u64 h.s,.pointer h.ptr] 83)∧w0.heap[w.heap.size]?=some (.cells #[.pointer (some ⟨E.V,0,none⟩),.string h.key,.int .i64 h.b,.int .u64 h.s,.pointer h.ptr] 83)∧Kp [] w w0:=⟨_,rfl,μ _ _,(Kp.refl _ _).alloc _⟩;rw[←hw0];clear hw0;have hT0:=Env.To.of0 HD.out hK0;refine (qW2 E n h l w0 (Env.RL hR HD.out hT0) g1).mono ?_;rintro e w1 ⟨rfl,hK1⟩;have hT1:=hT0.tail hK1;have hB1:=hK1.hp hB0;have hBs:=ζ hB1;have b0:=ξ hB1;go_wp2_with fail;refine (zD8 E n h l w1 hT1.dev (Env.RL hR HD.out hT1)).mono ?_;rintro e w2 ⟨q,rfl,hN2,hT2⟩;have hT2':=hT1.trans hT2;have hB2:=hT2.new HD.out (Nat.le_refl _) hB1;have HT2:=zh hT2';have HB2:=zh hB2;have HN2:=zh hN2;clear hT2 hT2' hB2 hN2 hK1 hT1 hB1 hK0 hT0 hB0 b0 hBs;go_wp2
  go_loopw [6] (fun s wr=>zN8 E w wr k all s∧E.To w wr∧wr.heap[w.heap.size]?=some (.cells #[.pointer (some ⟨E.V,0,none⟩),.string h.key,.int .i64 h.b,.int .u64 h.s,.pointer h.ptr] 83)) (fun s wr=>qU6 wr s)
  case atStart=>exact⟨⟨n,l.sub,l.key,q,rfl,HN2.out,HG.out,by rw[g1];exact qO8 _,by omega,by rw[hall],by omega⟩,HT2.out,HB2.out⟩
  case round=>
   obtain⟨⟨m,t,lo,q',rfl,hN,hgd,hklo,hc1,hget,hm⟩,hT,hB⟩:=hrel
   cases m with
   | zero=>
    have hlv0:qU6 wr (.pointer (some ⟨q',0,none⟩))=0:=zJ8 hN;obtain⟨vp,hq,hsl⟩:=hN;have hqs:=ζ hq;have q0:=ξ hq 0;simp only[υ,zG,zH,zI] at q0;have hcl:(prs t).length≤10000:=qJ9 0 lo t hgd;clear hlv0;go_wp2_with fail;refine (zD4 q' 0 vp _ (prs t) k wr hq hsl (by omega) hgd.sorted).mono ?_;rintro e w3 ⟨rfl,hK3⟩;have hT3:=hT.tail hK3;have hq3:=hK3.hp hq;have hs3:=hsl.keep0 hK3;have HE:Hid (qH9 all k=if qG0 (prs t) (qC3 (prs t) k) k then (prs t)[qC3 (prs t) k]? else none):=by
     show _=_;rw[hget];exact xW8 (l:=prs t) hgd.sorted k
    have HT3:=zh hT3;have hqs3:=ζ hq3;have r1:=ξ hq3 1;simp only[υ,zG,zH,zI] at r1;obtain⟨i,hi0⟩:∃ i,qC3 (prs t) k=i:=⟨_,rfl⟩;rw[hi0] at HE ⊢;by_cases hat:qG0 (prs t) i k=true
    ·have hit:i<(prs t).length:=by
      unfold qG0 at hat;by_cases h:i<(prs t).length
      ·exact h
      ·rw[List.getElem?_eq_none (by omega)] at hat;cases hat
     have he:=HE.out;rw[if_pos hat,List.getElem?_eq_getElem hit] at he;have HE2:=zh he;obtain⟨gb,off,cp,cur,fr,rfl,hcp,hrow,hcur⟩:=hs3.pair (by omega);obtain⟨_,c1⟩:=hcur i hit;have a1:=ξ hrow (off+i*2+1);rw[c1] at a1;have hgs:=ζ hrow;have hib:(i:Int)<((prs t).length:Int):=by omega
     rw[hat];clear hcur hs3 hsl he HE hget hgd hq hT hK3 hT3 hi0 q0 hqs;go_wp2
     go_ret2
     refine⟨?_,HT3.out⟩;rw[HA.out,zH1,HE2.out];rfl
    ·have hat0:qG0 (prs t) i k=false:=by simpa using hat
     have he:=HE.out;rw[hat0] at he;have he2:qH9 all k=none:=by simpa using he
     have HE2:=zh he2;rw[hat0];clear hs3 hsl he he2 HE hget hgd hq hT hK3 hT3 hi0 q0 hqs;go_wp2
     go_ret2
     refine⟨?_,HT3.out⟩;rw[HA.out,zH1,HE2.out];rfl
   | succ m=>
    have hlv1:qU6 wr (.pointer (some ⟨q',0,none⟩))=m+1:=zJ8 hN;have HLV:=zh hlv1;obtain⟨vl,hq,hs,hsl,hb⟩:=hN;obtain⟨hwlt,hw1,hw2,hw3,hw4⟩:=xH4 hgd hklo hc1;have hcl:(η t).length≤10000:=(qJ9 (m+1) lo t hgd).1;have hbl:=hb.1;have hwb:hs.findIdx (fun l=>kl k l.key)-1=qB3 (η t) k:=by unfold qB3;rw[zN3 hb]
    have hrise:Rise hs:=zC7 hb hgd.pair;obtain⟨gb,off,cp,cur,fr,rfl,hcp,hrow,hcur⟩:=hsl.link (by omega);obtain⟨i,hi0⟩:∃ i,qB3 (η t) k=i:=⟨_,rfl⟩;simp only[hi0] at hwlt hw1 hw2 hw3 hw4 hwb;have hil:i<hs.length:=by omega
    obtain⟨c0,c1,c2,c3⟩:=hcur i hil;have HRL:Hid (RL E.O m wr hs[i] (η t)[i]):=hb.2 i hil hwlt;have hqs:=ζ hq;have q0:=ξ hq 0;simp only[υ,zG,zH,zI] at q0;have hlp:(0:Int)<((m+1:Nat):Int):=by omega
    have HEND:Hid (∀ (W:World) (q2:Nat),RN E.O m W q2 (η t)[i].sub→E.To w W→W.heap[w.heap.size]?=some (.cells #[.pointer (some ⟨E.V,0,none⟩),.string h.key,.int .i64 h.b,.int .u64 h.s,.pointer h.ptr] 83)→(zN8 E w W k all (.pointer (some ⟨q2,0,none⟩))∧E.To w W∧W.heap[w.heap.size]?=some (.cells #[.pointer (some ⟨E.V,0,none⟩),.string h.key,.int .i64 h.b,.int .u64 h.s,.pointer h.ptr] 83))∧qU6 W (.pointer (some ⟨q2,0,none⟩))<m+1):=by
     show ∀ (W:World) (q2:Nat),_;intro W q2 h1 h2 h3;refine⟨⟨⟨m,_,_,q2,rfl,h1,hw1,hw3,by omega,by rw[hget,hw4],by omega⟩,h2,h3⟩,?_⟩;rw[zJ8 h1];omega
    have HWAY:Hid (∀ W:World,Kp [] wr W→Calls prog 88 #[.pointer (some ⟨q',0,none⟩),.string k] W fun e w'=>e=.returned (.int .i64 (i:Nat))∧Kp [] W w'):=by
     show ∀ W:World,_;intro W hKW;have:=zN4 q' _ _ _ hs k W (hKW.hp hq) (hsl.keep0 hKW) (by omega) hrise;rw[hwb] at this;exact this
    clear hget hw1 hw2 hw3 hw4 hwb hrise hcur hb hgd hi0;go_wp2_with fail;have hS0:wr.heap[q']?=some (υ ((m+1:Nat):Int) (.slice none 0 0) (.slice (some ⟨gb,off,none⟩) hs.length cp))∧wr.heap[gb]?=some (.cells cur 81 fr)∧wr.heap[w.heap.size]?=some (.cells #[.pointer (some ⟨E.V,0,none⟩),.string h.key,.int .i64 h.b,.int .u64 h.s,.pointer h.ptr] 83):=⟨hq,hrow,hB⟩;refine wp_region_held_drew (S:=fun W=>W.heap[q']?=some (υ ((m+1:Nat):Int) (.slice none 0 0) (.slice (some ⟨gb,off,none⟩) hs.length cp))∧W.heap[gb]?=some (.cells cur 81 fr)∧W.heap[w.heap.size]?=some (.cells #[.pointer (some ⟨E.V,0,none⟩),.string h.key,.int .i64 h.b,.int .u64 h.s,.pointer h.ptr] 83)) (by kernel_rfl) hS0 (fun _=>?_);refine zW 0 (.agg #[.pointer (some ⟨E.V,0,none⟩),.string h.key,.int .i64 h.b,.int .u64 h.s,.pointer h.ptr]) hS0 (·.2.2) ?_;refine zP 1 q' 0 hS0 ?_;refine zP 2 q' 0 hS0 ?_;refine zP 3 q' 2 hS0 ?_;refine zV 4 (.slice (some ⟨gb,off,none⟩) hs.length cp) rfl (fun W hS=>by have a0:=ξ hS.1 2;simp only[υ,zG,zH,zI] at a0;clear hS;go_simp) hS0 ?_;refine zP 5 q' 0 hS0 ?_;refine zU 6 (.string k) hS0 ?_;refine zP 10 q' 0 hS0 ?_;refine zP 11 q' 0 hS0 ?_;refine zP 12 q' 0 hS0 ?_;refine zV 13 (.int .i64 ((m+1:Nat):Int)) rfl (fun W hS=>by have a0:=ξ hS.1 0;simp only[υ,zG,zH,zI] at a0;clear hS;go_simp) hS0 ?_;refine zq 7 fun K hK=>?_;go_simp;refine (HWAY.out wr.drew ((Kp.refl _ _).drew)).mono ?_;rintro e w3 ⟨rfl,hK3⟩;have hK3':Kp [] wr w3:=((Kp.refl _ wr).drew).tr hK3;have hS1:=And.intro (hK3'.hp hq) (And.intro (hK3'.hp hrow) (hK3'.hp hB));have hT3:=hT.tail hK3';refine hK.out _ _ hS1 (fun _=>?_);clear hK K hK3 hS0
    try simp only[zZ]
    refine zU 8 (.pointer (some ⟨gb,off+i*4,none⟩)) hS1 ?_;refine zV 9 (.agg #[.string hs[i].key,.int .i64 hs[i].b,.int .u64 hs[i].s,.pointer hs[i].ptr]) rfl (fun W hS=>by have a0:=ξ hS.2.1 (off+i*4);have a1:=ξ hS.2.1 (off+i*4+1);have a2:=ξ hS.2.1 (off+i*4+2);have a3:=ξ hS.2.1 (off+i*4+3);rw[c0] at a0;rw[c1] at a1;rw[c2] at a2;rw[c3] at a3;clear hS;go_simp) hS1 ?_;refine zq 14 fun K hK=>?_;go_simp;refine (qK4 E m hs[i] h (η t)[i] ((m+1:Nat):Int) w3 hT3.dev (RL.keep HRL.out hK3' (Apt.nil _ _)) (by omega)).mono ?_;rintro e w4 ⟨q2,rfl,hN4,hT4⟩;have hT4':=hT3.trans hT4;have hB4:=hT4.new HD.out (Nat.le_refl _) hS1.2.2;have hS2:w4.heap[q']?=some (υ ((m+1:Nat):Int) (.slice none 0 0) (.slice (some ⟨gb,off,none⟩) hs.length cp))∧w4.heap[gb]?=some (.cells cur 81 fr)∧w4.heap[w.heap.size]?=some (.cells #[.pointer (some ⟨E.V,0,none⟩),.string h.key,.int .i64 h.b,.int .u64 h.s,.pointer h.ptr] 83):=
     ⟨hT4.kp.heap hS1.1 (fun hm=>E.apt w3 hT3.dev _ hm _ _ _ hS1.1 (by decide)),hT4.kp.heap hS1.2.1 (fun hm=>E.apt w3 hT3.dev _ hm _ _ _ hS1.2.1 (by decide)),hB4⟩
    refine hK.out _ _ hS2 (fun _=>?_);clear hK K
    try simp only[zZ]
    refine zq 15 fun K hK=>?_;go_simp;refine hK.out _ _ hS2 (fun _=>?_);clear hK K;refine zd ?_;have HR:=HEND.out w4 q2 hN4 hT4' hB4;clear hS1 hS2 hN4 hT4 hT4' hB4 HEND HWAY;go_wp2;rw[HLV.out];exact HR
theorem jU0{n:Nat}{lo k:ByteArray}{t:Tn (n+1)}(hg:Good (n+1) lo t)(hk:kl k lo=false)(hc:1≤cnt (n+1) t){W:List (Lnk (Tn n))}{d:Nat}(h:qB3 (η t) k<(η t).length)(hM:Made n (η t)[qB3 (η t) k] d W)(hW:∀ x∈W,x.key.size≤8):
  (∀ x∈(η t).take (qB3 (η t) k)++W++(η t).drop (qB3 (η t) k+1),x.key.size≤8)∧meas qA4 ((η t).take (qB3 (η t) k)++W++(η t).drop (qB3 (η t) k+1))≤145:=by
 constructor
 ·intro x hx;simp only[List.mem_append] at hx;rcases hx with (hx|hx)|hx
  ·exact (hg.all x (List.mem_of_mem_take hx)).2.2
  ·exact hW x hx
  ·exact (hg.all x (List.mem_of_mem_drop hx)).2.2
 ·have h1:=hM.meas hW;have h2:meas qA4 (η t)≤126:=hg.fits;have h3:=qQ3 qA4 (η t) (qB3 (η t) k);rw[List.drop_eq_getElem_cons h,qF1] at h3;rw[qG8,qG8];omega
theorem jY2(E:Env)(r h:HL)(l:Lnk (Tn 0))(q:Nat)(p:KV)(w:World)(hd:E.Dev w)(hkey:h.key=l.key)(hN:RN E.O 0 w q l.sub)(hg:Good 0 l.key l.sub)(hp:qD0 p)(hc:1≤cnt 0 l.sub)(hat:qG0 (prs l.sub) (qC3 (prs l.sub) p.k) p.k=true):
  Calls prog 94 #[τ E.V r,qC2 h,.pointer (some ⟨q,0,none⟩),.agg #[.string p.k,.string p.v]] w fun e w'=>∃ v',e=.returned v'∧RLs E.O 0 w' v' (qE5 0 l p)∧E.To w w':=by
 have hcl:(prs l.sub).length≤10000:=qJ9 0 l.key l.sub hg;have hc1:1≤(prs l.sub).length:=hc;have hso:Sorted (prs l.sub):=hg.sorted;have hps:ρ p≤21:=by obtain⟨h1,h2,h3⟩:=hp;unfold ρ;omega
 have hfit:meas ρ (qG7 p (prs l.sub))≤210:=by
  have e:qG7 p (prs l.sub)=ins p (prs l.sub):=(qS3 hso p).symm;rw[e];have h1:=zJ9 p hso;have h2:meas ρ (prs l.sub)≤126:=hg.fits;omega
 have hsz:∀ q∈qG7 p (prs l.sub),ρ q≤21:=by
  have e:qG7 p (prs l.sub)=ins p (prs l.sub):=(qS3 hso p).symm;rw[e];intro q hq;rcases zB7 hq with rfl|hq
  ·exact hps
  ·obtain⟨⟨h1,h2,h3⟩,_⟩:=hg.all q hq;unfold ρ;omega
 have HKEY:=zh hkey;have HAT:=zh hat;clear hat;have HD:=zh hd;have HFIT:Hid (meas ρ (qG7 p (prs l.sub))≤210∧∀ q∈qG7 p (prs l.sub),ρ q≤21):=⟨hfit,hsz⟩;obtain⟨vp,hq,hsl⟩:=hN;have hqs:=ζ hq;have hqs1:q<w.heap.size+1:=by omega
 have hqs2:q<w.heap.size+1+1:=by omega
 have q0:=ξ hq 0;simp only[υ,zG,zH,zI] at q0;clear hd hkey hfit hsz;rw[τ,qC2];go_enter func94,ntmps94;go_wp2_with fail;obtain⟨w1,hw1,hT1b,hL1,hP1,hK1,hs1⟩:∃ w1,w1=((w.alloc (.cells #[.pointer (some ⟨E.V,0,none⟩),.string r.key,.int .i64 r.b,.int .u64 r.s,.pointer r.ptr] 83)).alloc (.cells #[.string h.key,.int .i64 h.b,.int .u64 h.s,.pointer h.ptr] 81)).alloc (.cells #[.string p.k,.string p.v] 158)∧w1.heap[w.heap.size]?=some (.cells #[.pointer (some ⟨E.V,0,none⟩),.string r.key,.int .i64 r.b,.int .u64 r.s,.pointer r.ptr] 83)∧w1.heap[w.heap.size+1]?=some (.cells #[.string h.key,.int .i64 h.b,.int .u64 h.s,.pointer h.ptr] 81)∧w1.heap[w.heap.size+1+1]?=some (.cells #[.string p.k,.string p.v] 158)∧Kp [] w w1∧w1.heap.size=w.heap.size+3:=by
  refine⟨_,rfl,θ _ (θ _ (μ _ _)),θ _ ?_,?_,(((Kp.refl _ _).alloc _).alloc _).alloc _,by simp⟩
  ·have e:=μ (w.alloc (.cells #[.pointer (some ⟨E.V,0,none⟩),.string r.key,.int .i64 r.b,.int .u64 r.s,.pointer r.ptr] 83)) (.cells #[.string h.key,.int .i64 h.b,.int .u64 h.s,.pointer h.ptr] 81);simpa using e
  ·have e:=μ ((w.alloc (.cells #[.pointer (some ⟨E.V,0,none⟩),.string r.key,.int .i64 r.b,.int .u64 r.s,.pointer r.ptr] 83)).alloc (.cells #[.string h.key,.int .i64 h.b,.int .u64 h.s,.pointer h.ptr] 81)) (.cells #[.string p.k,.string p.v] 158);simpa using e
 rw[←hw1];clear hw1 hT1b hs1 q0 hqs hqs1 hqs2;have hT1':=Env.To.of0 HD.out hK1;have hq1:=hK1.hp hq;have hsl1:=hsl.keep0 hK1;clear hq hsl;refine (zD4 q 0 vp _ (prs l.sub) p.k w1 hq1 hsl1 (by omega) hso).mono ?_;rintro e w2 ⟨rfl,hK2⟩;have hT2:=hT1'.tail hK2;have hq2:=hK2.hp hq1;have hs2:=hsl1.keep0 hK2;have hL2:=hK2.hp hL1;have hP2:=hK2.hp hP1;clear hK2 hq1 hsl1 hL1 hP1 hT1' hK1;obtain⟨bs,cp,hv⟩:∃ bs cp,vp=.slice bs (prs l.sub).length cp:=by
  rcases hs2.val with⟨h0,b,c,h1,_⟩|⟨g,off,cap,cur,fr,h1,_⟩
  ·rw[h0];exact⟨b,c,h1⟩
  ·exact⟨_,cap,h1⟩
 subst hv;obtain⟨i,hi0⟩:∃ i,qC3 (prs l.sub) p.k=i:=⟨_,rfl⟩;have hile:i≤(prs l.sub).length:=by rw[←hi0];exact zD3 _ _
 rw[hi0];have hat:=HAT.out;rw[hi0] at hat;have hjl:i+1≤(prs l.sub).length:=by
  by_cases h:i<(prs l.sub).length
  ·omega
  ·unfold qG0 at hat;rw[List.getElem?_eq_none (by omega)] at hat
   first | (cases hat;done) | omega
 have hins:(prs l.sub).take i++[p]++(prs l.sub).drop (i+1)=qG7 p (prs l.sub):=by unfold qG7;rw[hi0,hat];rfl
 have HINS:=zh hins;clear hins;rw[hat];clear hat hi0;go_wp2_with fail;have hS0:w2.heap[q]?=some (υ 0 (.slice bs (prs l.sub).length cp) (.slice none 0 0))∧w2.heap[w.heap.size+1]?=some (.cells #[.string h.key,.int .i64 h.b,.int .u64 h.s,.pointer h.ptr] 81)∧w2.heap[w.heap.size+1+1]?=some (.cells #[.string p.k,.string p.v] 158):=⟨hq2,hL2,hP2⟩;refine wp_region_held_drew (S:=fun W=>W.heap[q]?=some (υ 0 (.slice bs (prs l.sub).length cp) (.slice none 0 0))∧W.heap[w.heap.size+1]?=some (.cells #[.string h.key,.int .i64 h.b,.int .u64 h.s,.pointer h.ptr] 81)∧W.heap[w.heap.size+1+1]?=some (.cells #[.string p.k,.string p.v] 158)) (by kernel_rfl) hS0 (fun _=>?_);refine zU 0 (.pointer (some ⟨w.heap.size+1,0,none⟩)) hS0 ?_;refine zV 1 (.string h.key) rfl (fun W hS=>by have c:=ξ hS.2.1 0;simp at c;clear hS;go_simp) hS0 ?_;refine zP 2 q 0 hS0 ?_;refine zP 3 q 0 hS0 ?_;refine zP 4 q 1 hS0 ?_;refine zV 5 (.slice bs (prs l.sub).length cp) rfl (fun W hS=>by have c:=ξ hS.1 1;simp[υ] at c;clear hS;go_simp) hS0 ?_;refine zU 6 (.int .i64 i) hS0 ?_;refine zU 7 (.int .i64 ((i+1:Nat):Int)) hS0 ?_;refine zW 8 (.agg #[.string p.k,.string p.v]) hS0 (·.2.2) ?_;refine zq 9 fun K hK=>?_;go_simp;obtain⟨w3,hw3,hG3,hK3⟩:∃ w3,w3=(w2.alloc (.cells #[.string p.k,.string p.v] 158)).drew∧w3.heap[w2.heap.size]?=some (.cells #[.string p.k,.string p.v] 158)∧Kp [] w2 w3:=⟨_,rfl,μ _ _,((Kp.refl _ _).alloc _).drew⟩;rw[←hw3];clear hw3;have hS3:=And.intro (hK3.hp hq2) (And.intro (hK3.hp hL2) (hK3.hp hP2));have hs3:=hs2.keep0 hK3;have hT3:=hT2.tail hK3;refine hK.out _ _ hS3 (fun _=>?_);clear hK K hS0
 try simp only[zZ]
 refine zq 10 fun K hK=>?_;go_simp;have hsb:Slc w3 158 2 (.slice (some ⟨w2.heap.size,0,none⟩) 1 1) [p].length (qB0 [p]):=⟨rfl,.inr ⟨w2.heap.size,0,1,_,_,rfl,Nat.le_refl _,Nat.le_refl _,hG3,fun j u hu=>by simpa [qB0,pcs] using hu⟩⟩
 try rw[show ((i:Int)+1)=((i+1:Nat):Int) from by omega]
 refine (zL5 _ _ (prs l.sub) [p] i (i+1) w3 hs3 hsb (by omega) hjl hc1 hcl (by simp)).mono ?_;rintro e w4 ⟨v4,rfl,hs4,hK4⟩;rw[HINS.out] at hs4;have hT4:=hT3.tail hK4;have hS4:=And.intro (hK4.hp hS3.1) (And.intro (hK4.hp hS3.2.1) (hK4.hp hS3.2.2));refine hK.out _ _ hS4 (fun _=>?_);clear hK K hS3 hK4 hT3 hsb hG3 hK3 hs3
 try simp only[zZ]
 refine zq 11 fun K hK=>?_;go_simp;refine (qS6 E.O h.key v4 (qG7 p (prs l.sub)) w4 hs4 (by have:=qG9 ρ (qG7 p (prs l.sub)) (fun x _=>by unfold ρ;omega);have:=HFIT.out.1;omega) HFIT.out.2 HFIT.out.1).mono ?_;rintro e w5 ⟨v5,rfl,hR5,hK5⟩;have hT5:=hT4.tail hK5;have hS5:=And.intro (hK5.hp hS4.1) (And.intro (hK5.hp hS4.2.1) (hK5.hp hS4.2.2));refine hK.out _ _ hS5 (fun _=>?_);clear hK K hS4 hK5 hT4
 try simp only[zZ]
 refine zq 12 fun K hK=>?_;go_simp;refine hK.out _ _ hS5 (fun _=>?_);clear hK K;refine zd ?_;rw[HKEY.out] at hR5;have HR5:=zh hR5;have HT5:=zh hT5;clear hS5 hR5 hT5 hs4;go_wp2;go_ret;exact⟨v5,rfl,HR5.out,HT5.out⟩
theorem jY3(E:Env)(r h:HL)(l:Lnk (Tn 0))(q:Nat)(p:KV)(w:World)(hd:E.Dev w)(hkey:h.key=l.key)(hN:RN E.O 0 w q l.sub)(hg:Good 0 l.key l.sub)(hp:qD0 p)(hc:1≤cnt 0 l.sub)(hat:qG0 (prs l.sub) (qC3 (prs l.sub) p.k) p.k=false):
  Calls prog 94 #[τ E.V r,qC2 h,.pointer (some ⟨q,0,none⟩),.agg #[.string p.k,.string p.v]] w fun e w'=>∃ v',e=.returned v'∧RLs E.O 0 w' v' (qE5 0 l p)∧E.To w w':=by
 have hcl:(prs l.sub).length≤10000:=qJ9 0 l.key l.sub hg;have hc1:1≤(prs l.sub).length:=hc;have hso:Sorted (prs l.sub):=hg.sorted;have hps:ρ p≤21:=by obtain⟨h1,h2,h3⟩:=hp;unfold ρ;omega
 have hfit:meas ρ (qG7 p (prs l.sub))≤210:=by
  have e:qG7 p (prs l.sub)=ins p (prs l.sub):=(qS3 hso p).symm;rw[e];have h1:=zJ9 p hso;have h2:meas ρ (prs l.sub)≤126:=hg.fits;omega
 have hsz:∀ q∈qG7 p (prs l.sub),ρ q≤21:=by
  have e:qG7 p (prs l.sub)=ins p (prs l.sub):=(qS3 hso p).symm;rw[e];intro q hq;rcases zB7 hq with rfl|hq
  ·exact hps
  ·obtain⟨⟨h1,h2,h3⟩,_⟩:=hg.all q hq;unfold ρ;omega
 have HKEY:=zh hkey;have HAT:=zh hat;clear hat;have HD:=zh hd;have HFIT:Hid (meas ρ (qG7 p (prs l.sub))≤210∧∀ q∈qG7 p (prs l.sub),ρ q≤21):=⟨hfit,hsz⟩;obtain⟨vp,hq,hsl⟩:=hN;have hqs:=ζ hq;have hqs1:q<w.heap.size+1:=by omega
 have hqs2:q<w.heap.size+1+1:=by omega
 have q0:=ξ hq 0;simp only[υ,zG,zH,zI] at q0;clear hd hkey hfit hsz;rw[τ,qC2];go_enter func94,ntmps94;go_wp2_with fail;obtain⟨w1,hw1,hT1b,hL1,hP1,hK1,hs1⟩:∃ w1,w1=((w.alloc (.cells #[.pointer (some ⟨E.V,0,none⟩),.string r.key,.int .i64 r.b,.int .u64 r.s,.pointer r.ptr] 83)).alloc (.cells #[.string h.key,.int .i64 h.b,.int .u64 h.s,.pointer h.ptr] 81)).alloc (.cells #[.string p.k,.string p.v] 158)∧w1.heap[w.heap.size]?=some (.cells #[.pointer (some ⟨E.V,0,none⟩),.string r.key,.int .i64 r.b,.int .u64 r.s,.pointer r.ptr] 83)∧w1.heap[w.heap.size+1]?=some (.cells #[.string h.key,.int .i64 h.b,.int .u64 h.s,.pointer h.ptr] 81)∧w1.heap[w.heap.size+1+1]?=some (.cells #[.string p.k,.string p.v] 158)∧Kp [] w w1∧w1.heap.size=w.heap.size+3:=by
  refine⟨_,rfl,θ _ (θ _ (μ _ _)),θ _ ?_,?_,(((Kp.refl _ _).alloc _).alloc _).alloc _,by simp⟩
  ·have e:=μ (w.alloc (.cells #[.pointer (some ⟨E.V,0,none⟩),.string r.key,.int .i64 r.b,.int .u64 r.s,.pointer r.ptr] 83)) (.cells #[.string h.key,.int .i64 h.b,.int .u64 h.s,.pointer h.ptr] 81);simpa using e
  ·have e:=μ ((w.alloc (.cells #[.pointer (some ⟨E.V,0,none⟩),.string r.key,.int .i64 r.b,.int .u64 r.s,.pointer r.ptr] 83)).alloc (.cells #[.string h.key,.int .i64 h.b,.int .u64 h.s,.pointer h.ptr] 81)) (.cells #[.string p.k,.string p.v] 158);simpa using e
 rw[←hw1];clear hw1 hT1b hs1 q0 hqs hqs1 hqs2;have hT1':=Env.To.of0 HD.out hK1;have hq1:=hK1.hp hq;have hsl1:=hsl.keep0 hK1;clear hq hsl;refine (zD4 q 0 vp _ (prs l.sub) p.k w1 hq1 hsl1 (by omega) hso).mono ?_;rintro e w2 ⟨rfl,hK2⟩;have hT2:=hT1'.tail hK2;have hq2:=hK2.hp hq1;have hs2:=hsl1.keep0 hK2;have hL2:=hK2.hp hL1;have hP2:=hK2.hp hP1;clear hK2 hq1 hsl1 hL1 hP1 hT1' hK1;obtain⟨bs,cp,hv⟩:∃ bs cp,vp=.slice bs (prs l.sub).length cp:=by
  rcases hs2.val with⟨h0,b,c,h1,_⟩|⟨g,off,cap,cur,fr,h1,_⟩
  ·rw[h0];exact⟨b,c,h1⟩
  ·exact⟨_,cap,h1⟩
 subst hv;obtain⟨i,hi0⟩:∃ i,qC3 (prs l.sub) p.k=i:=⟨_,rfl⟩;have hile:i≤(prs l.sub).length:=by rw[←hi0];exact zD3 _ _
 rw[hi0];have hat:=HAT.out;rw[hi0] at hat;have hjl:i≤(prs l.sub).length:=by
  by_cases h:i<(prs l.sub).length
  ·omega
  ·unfold qG0 at hat;rw[List.getElem?_eq_none (by omega)] at hat
   first | (cases hat;done) | omega
 have hins:(prs l.sub).take i++[p]++(prs l.sub).drop (i)=qG7 p (prs l.sub):=by unfold qG7;rw[hi0,hat];rfl
 have HINS:=zh hins;clear hins;rw[hat];clear hat hi0;go_wp2_with fail;have hS0:w2.heap[q]?=some (υ 0 (.slice bs (prs l.sub).length cp) (.slice none 0 0))∧w2.heap[w.heap.size+1]?=some (.cells #[.string h.key,.int .i64 h.b,.int .u64 h.s,.pointer h.ptr] 81)∧w2.heap[w.heap.size+1+1]?=some (.cells #[.string p.k,.string p.v] 158):=⟨hq2,hL2,hP2⟩;refine wp_region_held_drew (S:=fun W=>W.heap[q]?=some (υ 0 (.slice bs (prs l.sub).length cp) (.slice none 0 0))∧W.heap[w.heap.size+1]?=some (.cells #[.string h.key,.int .i64 h.b,.int .u64 h.s,.pointer h.ptr] 81)∧W.heap[w.heap.size+1+1]?=some (.cells #[.string p.k,.string p.v] 158)) (by kernel_rfl) hS0 (fun _=>?_);refine zU 0 (.pointer (some ⟨w.heap.size+1,0,none⟩)) hS0 ?_;refine zV 1 (.string h.key) rfl (fun W hS=>by have c:=ξ hS.2.1 0;simp at c;clear hS;go_simp) hS0 ?_;refine zP 2 q 0 hS0 ?_;refine zP 3 q 0 hS0 ?_;refine zP 4 q 1 hS0 ?_;refine zV 5 (.slice bs (prs l.sub).length cp) rfl (fun W hS=>by have c:=ξ hS.1 1;simp[υ] at c;clear hS;go_simp) hS0 ?_;refine zU 6 (.int .i64 i) hS0 ?_;refine zU 7 (.int .i64 ((i:Nat):Int)) hS0 ?_;refine zW 8 (.agg #[.string p.k,.string p.v]) hS0 (·.2.2) ?_;refine zq 9 fun K hK=>?_;go_simp;obtain⟨w3,hw3,hG3,hK3⟩:∃ w3,w3=(w2.alloc (.cells #[.string p.k,.string p.v] 158)).drew∧w3.heap[w2.heap.size]?=some (.cells #[.string p.k,.string p.v] 158)∧Kp [] w2 w3:=⟨_,rfl,μ _ _,((Kp.refl _ _).alloc _).drew⟩;rw[←hw3];clear hw3;have hS3:=And.intro (hK3.hp hq2) (And.intro (hK3.hp hL2) (hK3.hp hP2));have hs3:=hs2.keep0 hK3;have hT3:=hT2.tail hK3;refine hK.out _ _ hS3 (fun _=>?_);clear hK K hS0
 try simp only[zZ]
 refine zq 10 fun K hK=>?_;go_simp;have hsb:Slc w3 158 2 (.slice (some ⟨w2.heap.size,0,none⟩) 1 1) [p].length (qB0 [p]):=⟨rfl,.inr ⟨w2.heap.size,0,1,_,_,rfl,Nat.le_refl _,Nat.le_refl _,hG3,fun j u hu=>by simpa [qB0,pcs] using hu⟩⟩
 try rw[show ((i:Int)+1)=((i+1:Nat):Int) from by omega]
 refine (zL5 _ _ (prs l.sub) [p] i (i) w3 hs3 hsb (by omega) hjl hc1 hcl (by simp)).mono ?_;rintro e w4 ⟨v4,rfl,hs4,hK4⟩;rw[HINS.out] at hs4;have hT4:=hT3.tail hK4;have hS4:=And.intro (hK4.hp hS3.1) (And.intro (hK4.hp hS3.2.1) (hK4.hp hS3.2.2));refine hK.out _ _ hS4 (fun _=>?_);clear hK K hS3 hK4 hT3 hsb hG3 hK3 hs3
 try simp only[zZ]
 refine zq 11 fun K hK=>?_;go_simp;refine (qS6 E.O h.key v4 (qG7 p (prs l.sub)) w4 hs4 (by have:=qG9 ρ (qG7 p (prs l.sub)) (fun x _=>by unfold ρ;omega);have:=HFIT.out.1;omega) HFIT.out.2 HFIT.out.1).mono ?_;rintro e w5 ⟨v5,rfl,hR5,hK5⟩;have hT5:=hT4.tail hK5;have hS5:=And.intro (hK5.hp hS4.1) (And.intro (hK5.hp hS4.2.1) (hK5.hp hS4.2.2));refine hK.out _ _ hS5 (fun _=>?_);clear hK K hS4 hK5 hT4
 try simp only[zZ]
 refine zq 12 fun K hK=>?_;go_simp;refine hK.out _ _ hS5 (fun _=>?_);clear hK K;refine zd ?_;rw[HKEY.out] at hR5;have HR5:=zh hR5;have HT5:=zh hT5;clear hS5 hR5 hT5 hs4;go_wp2;go_ret;exact⟨v5,rfl,HR5.out,HT5.out⟩
theorem zF7{α β:Type}{R:α→β→Prop}{a:List α}{b:List β}(h:Both R a b){i:Nat}(hi:i<a.length)(hj:i<b.length):R a[i] b[i]:=h.2 i hi hj
theorem jY1(E:Env)(n:Nat)
  (ih:∀ (r h:HL) (l:Lnk (Tn n)) (q:Nat) (p:KV) (w:World),E.Dev w→h.key=l.key→RN E.O n w q l.sub→Good n l.key l.sub→qD0 p→kl p.k l.key=false→1≤cnt n l.sub→l.key.size≤8→Calls prog 94 #[τ E.V r,qC2 h,.pointer (some ⟨q,0,none⟩),.agg #[.string p.k,.string p.v]] w fun e w'=>∃ v',e=.returned v'∧RLs E.O n w' v' (qE5 n l p)∧E.To w w')
  (hn:n≤100000) (r h:HL) (l:Lnk (Tn (n+1))) (q:Nat) (p:KV) (w:World) (hd:E.Dev w) (hkey:h.key=l.key) (hN:RN E.O (n+1) w q l.sub) (hg:Good (n+1) l.key l.sub) (hp:qD0 p) (hk:kl p.k l.key=false) (hc:1≤cnt (n+1) l.sub):
  Calls prog 94 #[τ E.V r,qC2 h,.pointer (some ⟨q,0,none⟩),.agg #[.string p.k,.string p.v]] w fun e w'=>∃ v',e=.returned v'∧RLs E.O (n+1) w' v' (qE5 (n+1) l p)∧E.To w w':=by
 have hcl:(η l.sub).length≤10000:=(qJ9 (n+1) l.key l.sub hg).1;obtain⟨hwlt,hw1,hw2,hw3,_⟩:=xH4 hg hk hc;have hsz8:(η l.sub)[qB3 (η l.sub) p.k].key.size≤8:=(hg.all _ (List.getElem_mem hwlt)).2.2;obtain⟨wg1,wg2,wg3⟩:=qY1 n (η l.sub)[qB3 (η l.sub) p.k] p hw1 hp hw3 hsz8 (by omega);obtain⟨hf1,hf2⟩:=jU0 hg hk hc hwlt wg3 (fun x hx=>(wg1.all x hx).2);have hwl:(qE5 n (η l.sub)[qB3 (η l.sub) p.k] p).length≤2:=by
  rcases wg3 with⟨a,e,_⟩|⟨a,b,e,_⟩<;>rw[e]<;>simp
 have hwT:qE5 (n+1) l p=qD5 n l.key ((η l.sub).take (qB3 (η l.sub) p.k)++qE5 n (η l.sub)[qB3 (η l.sub) p.k] p++(η l.sub).drop (qB3 (η l.sub) p.k+1)):=by
  show (match (η l.sub)[qB3 (η l.sub) p.k]? with
   | some m=>qD5 n l.key ((η l.sub).take (qB3 (η l.sub) p.k)++qE5 n m p++(η l.sub).drop (qB3 (η l.sub) p.k+1))
   | none=>[])=_
  rw[List.getElem?_eq_getElem hwlt]
 have hpair:=hg.pair;obtain⟨i,hi0⟩:∃ i,qB3 (η l.sub) p.k=i:=⟨_,rfl⟩;simp only[hi0] at hwlt hw1 hw2 hw3 hsz8 wg1 wg2 wg3 hf1 hf2 hwl hwT;obtain⟨ls,hls⟩:∃ ls,η l.sub=ls:=⟨_,rfl⟩;simp only[hls] at hwlt hw1 hw2 hw3 hsz8 wg1 wg2 wg3 hf1 hf2 hwl hwT hcl hi0;have HLS:=zh hls;have HI0:=zh hi0;have HWT:=zh hwT;have HF:Hid ((∀ x∈ls.take i++qE5 n ls[i] p++ls.drop (i+1),qA4 x≤21)∧meas qA4 (ls.take i++qE5 n ls[i] p++ls.drop (i+1))≤210):=⟨fun x hx=>by have:=hf1 x hx;unfold qA4;omega,by omega⟩;have HPA:Hid (ls.Pairwise (qQ8 n)):=by show List.Pairwise _ _;rw[←hls];exact hpair
 have HWI:Hid (Good n ls[i].key ls[i].sub∧3≤cnt n ls[i].sub∧kl p.k ls[i].key=false∧ls[i].key.size≤8):=⟨hw1,hw2,hw3,hsz8⟩;have HKEY:=zh hkey;have HD:=zh hd;have HP:=zh hp;have HIH:=ih;clear hd hkey hg hk hc hw1 hw2 hw3 hsz8 wg1 wg2 wg3 hf1 hf2 hwT hpair hp ih;obtain⟨vl,hq,hs,hsl,hb⟩:=hN;rw[HLS.out] at hb;have HBL:=zh hb.1;have hil:i<hs.length:=by have:=HBL.out;omega
 have hhl:hs.length≤10000:=by have:=HBL.out;omega
 obtain⟨gb,off,cp,cur,fr,rfl,hcp,hrow,hcur⟩:=hsl.link (by omega);obtain⟨c0,c1,c2,c3⟩:=hcur i hil;obtain⟨lv,hlv⟩:∃ lv:Int,((n+1:Nat):Int)=lv:=⟨_,rfl⟩;rw[hlv] at hq;have HLV:=zh hlv.symm;have hlv0:¬lv=0:=by omega
 have hrise:Rise hs:=zC7 hb HPA.out;have hwb:hs.findIdx (fun l=>kl p.k l.key)-1=i:=by rw[zN3 hb];exact HI0.out
 have HB:=zh hb;have hqs:=ζ hq;have hqs1:q<w.heap.size+1:=by omega
 have hqs2:q<w.heap.size+1+1:=by omega
 have q0:=ξ hq 0;simp only[υ,zG,zH,zI] at q0;clear hcur hb hlv;rw[τ,qC2];go_enter func94,ntmps94;go_wp2_with fail;obtain⟨w1,hw1,hB1,hL1,hP1,hK1,hs1⟩:∃ w1,w1=((w.alloc (.cells #[.pointer (some ⟨E.V,0,none⟩),.string r.key,.int .i64 r.b,.int .u64 r.s,.pointer r.ptr] 83)).alloc (.cells #[.string h.key,.int .i64 h.b,.int .u64 h.s,.pointer h.ptr] 81)).alloc (.cells #[.string p.k,.string p.v] 158)∧w1.heap[w.heap.size]?=some (.cells #[.pointer (some ⟨E.V,0,none⟩),.string r.key,.int .i64 r.b,.int .u64 r.s,.pointer r.ptr] 83)∧w1.heap[w.heap.size+1]?=some (.cells #[.string h.key,.int .i64 h.b,.int .u64 h.s,.pointer h.ptr] 81)∧w1.heap[w.heap.size+1+1]?=some (.cells #[.string p.k,.string p.v] 158)∧Kp [] w w1∧w1.heap.size=w.heap.size+3:=by
  refine⟨_,rfl,θ _ (θ _ (μ _ _)),θ _ ?_,?_,(((Kp.refl _ _).alloc _).alloc _).alloc _,by simp⟩
  ·have e:=μ (w.alloc (.cells #[.pointer (some ⟨E.V,0,none⟩),.string r.key,.int .i64 r.b,.int .u64 r.s,.pointer r.ptr] 83)) (.cells #[.string h.key,.int .i64 h.b,.int .u64 h.s,.pointer h.ptr] 81);simpa using e
  ·have e:=μ ((w.alloc (.cells #[.pointer (some ⟨E.V,0,none⟩),.string r.key,.int .i64 r.b,.int .u64 r.s,.pointer r.ptr] 83)).alloc (.cells #[.string h.key,.int .i64 h.b,.int .u64 h.s,.pointer h.ptr] 81)) (.cells #[.string p.k,.string p.v] 158);simpa using e
 rw[←hw1];clear hw1;have hT1':=Env.To.of0 HD.out hK1;have hq1:=hK1.hp hq;have hsl1:=hsl.keep0 hK1;have hrow1:=hK1.hp hrow;have HB1:Hid (Both (RL E.O n w1) hs ls):=HB.out.mono fun x y hr=>RL.keep hr hK1 (Apt.nil _ _);clear hq hsl hrow HB q0 hqs hqs1 hqs2 hK1;have hway:=zN4 q _ _ _ hs p.k w1 hq1 hsl1 (by omega) hrise;rw[hwb] at hway;refine hway.mono ?_;rintro e w2 ⟨rfl,hK2⟩;have hT2:=hT1'.tail hK2;have hq2:=hK2.hp hq1;have hs2:=hsl1.keep0 hK2;have hB2:=hK2.hp hB1;have hL2:=hK2.hp hL1;have hP2:=hK2.hp hP1;have hrow2:=hK2.hp hrow1;have hsz2:w.heap.size≤w2.heap.size:=by have:=hK2.size;omega
 have HB2:Hid (Both (RL E.O n w2) hs ls):=HB1.out.mono fun x y hr=>RL.keep hr hK2 (Apt.nil _ _);clear hK2 hq1 hsl1 hL1 hP1 hT1' hB1 hrow1 hway hwb hrise HB1 hs1;have hqs2:=ζ hq2;have hgs2:=ζ hrow2;obtain⟨x,hx⟩:∃ x,hs[i]=x:=⟨_,rfl⟩;rw[hx] at c0 c1 c2 c3;have HX:=zh hx;clear hx;have a0:=ξ hrow2 (off+i*4);rw[c0] at a0;have a1:=ξ hrow2 (off+i*4+1);rw[c1] at a1;have a2:=ξ hrow2 (off+i*4+2);rw[c2] at a2;have a3:=ξ hrow2 (off+i*4+3);rw[c3] at a3;have q2:=ξ hq2 2;simp only[υ,zG,zH,zI] at q2;go_wp2_with fail;obtain⟨w3,hw3,hX3,hK3⟩:∃ w3,w3=w2.alloc (.cells #[.string x.key,.int .i64 x.b,.int .u64 x.s,.pointer x.ptr] 81)∧w3.heap[w2.heap.size]?=some (.cells #[.string x.key,.int .i64 x.b,.int .u64 x.s,.pointer x.ptr] 81)∧Kp [] w2 w3:=⟨_,rfl,μ _ _,(Kp.refl _ _).alloc _⟩;rw[←hw3];clear hw3;have hT3:=hT2.tail hK3;have hq3:=hK3.hp hq2;have hs3:=hs2.keep0 hK3;have HB3:Hid (Both (RL E.O n w3) hs ls):=HB2.out.mono fun x y hr=>RL.keep hr hK3 (Apt.nil _ _);obtain⟨X,hX0⟩:∃ X,w2.heap.size=X:=⟨_,rfl⟩;rw[hX0] at hX3 hsz2 ⊢;have hS0:w3.heap[q]?=some (υ lv (.slice none 0 0) (.slice (some ⟨gb,off,none⟩) hs.length cp))∧w3.heap[w.heap.size+1]?=some (.cells #[.string h.key,.int .i64 h.b,.int .u64 h.s,.pointer h.ptr] 81)∧w3.heap[w.heap.size+1+1]?=some (.cells #[.string p.k,.string p.v] 158)∧w3.heap[w.heap.size]?=some (.cells #[.pointer (some ⟨E.V,0,none⟩),.string r.key,.int .i64 r.b,.int .u64 r.s,.pointer r.ptr] 83)∧w3.heap[X]?=some (.cells #[.string x.key,.int .i64 x.b,.int .u64 x.s,.pointer x.ptr] 81):=⟨hq3,hK3.hp hL2,hK3.hp hP2,hK3.hp hB2,hX3⟩;clear hq2 hs2 hL2 hP2 hB2 hrow2 hK3 hX3 HB2 hT2 a0 a1 a2 a3 q2 hqs2 hgs2 hX0 c0 c1 c2 c3 hq3;obtain⟨j,hj⟩:∃ j,j=i+1:=⟨_,rfl⟩;have hwr:IntKind.i64.wrap ((i:Int)+1)=(j:Int):=by rw[IntKind.wrap_i64];omega
 have HJ:=zh hj;clear hj;refine wp_region_held_drew (S:=fun W=>W.heap[q]?=some (υ lv (.slice none 0 0) (.slice (some ⟨gb,off,none⟩) hs.length cp))∧W.heap[w.heap.size+1]?=some (.cells #[.string h.key,.int .i64 h.b,.int .u64 h.s,.pointer h.ptr] 81)∧W.heap[w.heap.size+1+1]?=some (.cells #[.string p.k,.string p.v] 158)∧W.heap[w.heap.size]?=some (.cells #[.pointer (some ⟨E.V,0,none⟩),.string r.key,.int .i64 r.b,.int .u64 r.s,.pointer r.ptr] 83)∧W.heap[X]?=some (.cells #[.string x.key,.int .i64 x.b,.int .u64 x.s,.pointer x.ptr] 81)) (by kernel_rfl) hS0 (fun _=>?_);refine zU 0 (.pointer (some ⟨w.heap.size+1,0,none⟩)) hS0 ?_;refine zV 1 (.string h.key) rfl (fun W hS=>by have c:=ξ hS.2.1 0;simp at c;clear hS;go_simp) hS0 ?_;refine zP 2 q 0 hS0 ?_;refine zP 3 q 0 hS0 ?_;refine zP 4 q 0 hS0 ?_;refine zV 5 (.int .i64 lv) rfl (fun W hS=>by have c:=ξ hS.1 0;simp[υ] at c;clear hS;go_simp) hS0 ?_;refine zP 6 q 0 hS0 ?_;refine zP 7 q 0 hS0 ?_;refine zP 8 q 2 hS0 ?_;refine zV 9 (.slice (some ⟨gb,off,none⟩) hs.length cp) rfl (fun W hS=>by have c:=ξ hS.1 2;simp[υ] at c;clear hS;go_simp) hS0 ?_;refine zU 10 (.int .i64 i) hS0 ?_;refine zU 11 (.int .i64 i) hS0 ?_;refine zU 12 (.int .i64 (j:Int)) hS0 ?_;refine zW 13 (.agg #[.pointer (some ⟨E.V,0,none⟩),.string r.key,.int .i64 r.b,.int .u64 r.s,.pointer r.ptr]) hS0 (·.2.2.2.1) ?_;refine zW 14 (.agg #[.string x.key,.int .i64 x.b,.int .u64 x.s,.pointer x.ptr]) hS0 (·.2.2.2.2) ?_;refine zW 15 (.agg #[.pointer (some ⟨E.V,0,none⟩),.string r.key,.int .i64 r.b,.int .u64 r.s,.pointer r.ptr]) hS0 (·.2.2.2.1) ?_;refine zW 16 (.agg #[.string x.key,.int .i64 x.b,.int .u64 x.s,.pointer x.ptr]) hS0 (·.2.2.2.2) ?_;refine zP 17 q 0 hS0 ?_;refine zP 18 q 0 hS0 ?_;refine zP 19 q 0 hS0 ?_;refine zV 20 (.int .i64 lv) rfl (fun W hS=>by have c:=ξ hS.1 0;simp[υ] at c;clear hS;go_simp) hS0 ?_;refine zW 22 (.agg #[.string p.k,.string p.v]) hS0 (·.2.2.1) ?_;refine zq 21 fun K hK=>?_;go_simp;have hTd:E.To w w3.drew:=hT3.tail ((Kp.refl _ _).drew);have hTx:RL E.O n w3.drew x ls[i]:=by have:=RL.keep (zF7 HB3.out hil hwlt) ((Kp.refl [] _).drew) (Apt.nil _ _);rw[HX.out] at this;exact this
 refine (qK4 E n x r ls[i] lv w3.drew hTd.dev hTx (by have:=HLV.out;omega)).mono ?_;rintro e w4 ⟨q4,rfl,hN4,hT4⟩;have hT4':=hTd.trans hT4;have hS4:w4.heap[q]?=some (υ lv (.slice none 0 0) (.slice (some ⟨gb,off,none⟩) hs.length cp))∧w4.heap[w.heap.size+1]?=some (.cells #[.string h.key,.int .i64 h.b,.int .u64 h.s,.pointer h.ptr] 81)∧w4.heap[w.heap.size+1+1]?=some (.cells #[.string p.k,.string p.v] 158)∧w4.heap[w.heap.size]?=some (.cells #[.pointer (some ⟨E.V,0,none⟩),.string r.key,.int .i64 r.b,.int .u64 r.s,.pointer r.ptr] 83)∧w4.heap[X]?=some (.cells #[.string x.key,.int .i64 x.b,.int .u64 x.s,.pointer x.ptr] 81):=
  ⟨hT4.kp.heap (k:=q) hS0.1 (fun hm=>E.apt _ hTd.dev _ hm _ _ _ hS0.1 (by decide)),hT4.new (k:=w.heap.size+1) HD.out (by omega) hS0.2.1,hT4.new (k:=w.heap.size+1+1) HD.out (by omega) hS0.2.2.1,hT4.new (k:=w.heap.size) HD.out (by omega) hS0.2.2.2.1,hT4.new (k:=X) HD.out hsz2 hS0.2.2.2.2⟩
 have hs4:Slc w4 81 4 (.slice (some ⟨gb,off,none⟩) hs.length cp) hs.length (qA7 hs):=Slc.keep (w:=w3.drew) (hs3.keep0 ((Kp.refl [] _).drew)) hT4.kp ((E.apt _ hTd.dev).sub (by decide));have HB4:Hid (Both (RL E.O n w4) hs ls):=HB3.out.mono fun x y hr=>Env.RL (RL.keep hr ((Kp.refl [] w3).drew) (Apt.nil _ _)) hTd.dev hT4;refine hK.out _ _ hS4 (fun _=>?_);clear hK K hS0 hTd hTx hs3 HB3 hT4 hT3
 try simp only[zZ]
 refine zq 23 fun K hK=>?_;go_simp;refine (HIH r x ls[i] q4 p w4 hT4'.dev (by have:=(zF7 HB4.out hil hwlt).1;rw[HX.out] at this;exact this) hN4 HWI.out.1 HP.out HWI.out.2.2.1 (by have:=HWI.out.2.1;omega) HWI.out.2.2.2).mono ?_;rintro e w3 ⟨v3,rfl,hR3,hT3⟩;have hT3':=hT4'.trans hT3;have hS3:w3.heap[q]?=some (υ lv (.slice none 0 0) (.slice (some ⟨gb,off,none⟩) hs.length cp))∧w3.heap[w.heap.size+1]?=some (.cells #[.string h.key,.int .i64 h.b,.int .u64 h.s,.pointer h.ptr] 81)∧w3.heap[w.heap.size+1+1]?=some (.cells #[.string p.k,.string p.v] 158)∧w3.heap[w.heap.size]?=some (.cells #[.pointer (some ⟨E.V,0,none⟩),.string r.key,.int .i64 r.b,.int .u64 r.s,.pointer r.ptr] 83)∧w3.heap[X]?=some (.cells #[.string x.key,.int .i64 x.b,.int .u64 x.s,.pointer x.ptr] 81):=
  ⟨hT3.kp.heap (k:=q) hS4.1 (fun hm=>E.apt _ hT4'.dev _ hm _ _ _ hS4.1 (by decide)),hT3.new (k:=w.heap.size+1) HD.out (by omega) hS4.2.1,hT3.new (k:=w.heap.size+1+1) HD.out (by omega) hS4.2.2.1,hT3.new (k:=w.heap.size) HD.out (by omega) hS4.2.2.2.1,hT3.new (k:=X) HD.out hsz2 hS4.2.2.2.2⟩
 have hs3:Slc w3 81 4 (.slice (some ⟨gb,off,none⟩) hs.length cp) hs.length (qA7 hs):=Slc.keep hs4 hT3.kp ((E.apt _ hT4'.dev).sub (by decide));have HB3:Hid (Both (RL E.O n w3) hs ls):=HB4.out.mono fun x y hr=>Env.RL hr hT4'.dev hT3;refine hK.out _ _ hS3 (fun _=>?_);clear hK K hS4 hs4 HB4 hN4
 try simp only[zZ]
 refine zq 24 fun K hK=>?_;go_simp;obtain⟨hs',hsl',hb'⟩:=hR3;have hnb:hs'.length≤10000:=by rw[hb'.1];omega
 have hj1:=HJ.out;refine (qR7 _ v3 hs hs' i j w3 hs3 hsl' (by omega) (by omega) (by omega) hhl hnb).mono ?_;rintro e w4 ⟨v4,rfl,hs4,hK4⟩;rw[hj1] at hs4;clear hj1;have hT4:=hT3'.tail hK4;have hb4:Both (RL E.O n w4) (hs.take i++hs'++hs.drop (i+1)) (ls.take i++qE5 n ls[i] p++ls.drop (i+1)):=(((HB3.out.take i).append hb').append (HB3.out.drop (i+1))).mono fun x y hr=>RL.keep hr hK4 (Apt.nil _ _);have hS4:=And.intro (hK4.hp hS3.1) (And.intro (hK4.hp hS3.2.1) (And.intro (hK4.hp hS3.2.2.1) (And.intro (hK4.hp hS3.2.2.2.1) (hK4.hp hS3.2.2.2.2))));refine hK.out _ _ hS4 (fun _=>?_);clear hK K hS3 hK4 hs3 hT3' hT3
 try simp only[zZ]
 refine zq 25 fun K hK=>?_;go_simp;refine (qT5 E.O n lv HLV.out h.key v4 (ls.take i++qE5 n ls[i] p++ls.drop (i+1)) w4 ⟨_,hs4,hb4⟩ (by have:=qG9 qA4 (ls.take i++qE5 n ls[i] p++ls.drop (i+1)) (fun x _=>by unfold qA4;omega);have:=HF.out.2;omega) HF.out.1 HF.out.2).mono ?_;rintro e w5 ⟨v5,rfl,hR5,hK5⟩;have hT5:=hT4.tail hK5;have hS5:=And.intro (hK5.hp hS4.1) (And.intro (hK5.hp hS4.2.1) (And.intro (hK5.hp hS4.2.2.1) (And.intro (hK5.hp hS4.2.2.2.1) (hK5.hp hS4.2.2.2.2))));refine hK.out _ _ hS5 (fun _=>?_);clear hK K hS4 hK5 hT4
 try simp only[zZ]
 refine zq 26 fun K hK=>?_;go_simp;refine hK.out _ _ hS5 (fun _=>?_);clear hK K;refine zd ?_;rw[HKEY.out,←HWT.out] at hR5;have HR5:=zh hR5;have HT5:=zh hT5;clear hS5 hR5 hT5 hs4 hb4;go_wp2;go_ret;exact⟨v5,rfl,HR5.out,HT5.out⟩
theorem jY4(E:Env):∀ (n:Nat),n≤100000→∀ (r h:HL) (l:Lnk (Tn n)) (q:Nat) (p:KV) (w:World),E.Dev w→h.key=l.key→RN E.O n w q l.sub→Good n l.key l.sub→qD0 p→kl p.k l.key=false→1≤cnt n l.sub→l.key.size≤8→
  Calls prog 94 #[τ E.V r,qC2 h,.pointer (some ⟨q,0,none⟩),.agg #[.string p.k,.string p.v]] w fun e w'=>∃ v',e=.returned v'∧RLs E.O n w' v' (qE5 n l p)∧E.To w w':=by
 intro n
 induction n with
 | zero=>
  intro _ r h l q p w hd hr hN hg hp hk hc _
  cases hat:qG0 (prs l.sub) (qC3 (prs l.sub) p.k) p.k with
  | true=>exact jY2 E r h l q p w hd hr hN hg hp hc hat
  | false=>exact jY3 E r h l q p w hd hr hN hg hp hc hat
 | succ n ih=>
  intro hn r h l q p w hd hr hN hg hp hk hc _;exact jY1 E n (ih (by omega)) (by omega) r h l q p w hd hr hN hg hp hk hc
theorem jI1(E:Env)(n:Nat)(lev:Int)(r:HL)(v:Value)(ls:List (Lnk (Tn n)))(i:Nat)(w:World)(hd:E.Dev w)(hr:RLs E.O n w v ls)(hi:i<ls.length)(hll:ls.length≤10000)(hnew:ls[i].ref=none)(hc:3≤cnt n ls[i].sub)(hcm:cnt n ls[i].sub≤10000):
  Calls prog 132 #[τ E.V r,v,.int .i64 lev,.int .i64 i] w fun e w'=>∃ v',e=.returned v'∧RLs E.O n w' v' (qC5 n ls i)∧E.To w w':=by
 have hm:qC5 n ls i=ls:=by
  unfold qC5;rw[List.getElem?_eq_getElem hi];simp only[hc,if_true]
 obtain⟨hs,hsl,hb⟩:=hr;have hil:i<hs.length:=by rw[hb.1];exact hi
 have hhl:hs.length≤10000:=by rw[hb.1];exact hll
 obtain⟨gb,off,cp,cur,fr,rfl,hcp,hrow,hcur⟩:=hsl.link (by omega);obtain⟨c0,c1,c2,c3⟩:=hcur i hil;have hri:=zF7 hb hil hi;rcases hri.new with⟨_,q,hq1,hq2⟩|⟨hx,_⟩
 ·have hptr:hs[i].ptr=some ⟨q,0,none⟩:=by simp[HL.ptr,hq1]
  rw[hptr] at c3;have HM:=zh hm;have HD:=zh hd;have HR:Hid (RLs E.O n w (.slice (some ⟨gb,off,none⟩) hs.length cp) ls):=⟨hs,hsl,hb⟩;have HQ:=zh hq2;have hgs:=ζ hrow;have a3:=ξ hrow (off+i*4+3);rw[c3] at a3;have hc3:(3:Int)≤((cnt n ls[i].sub:Nat):Int):=by omega
  clear hb hsl hri hq2 hcur hd hm;rw[τ];go_enter func132,ntmps132;go_wp2_with fail;have hK0:Kp [] w (w.alloc (.cells #[.pointer (some ⟨E.V,0,none⟩),.string r.key,.int .i64 r.b,.int .u64 r.s,.pointer r.ptr] 83)):=(Kp.refl _ _).alloc _;refine (qS8 E.O n q ls[i].sub _ (RN.keep hK0 (Apt.nil _ _) n q _ HQ.out) (by omega)).mono ?_;rintro e w1 ⟨rfl,hK1⟩;have hK1':Kp [] w w1:=hK0.tr hK1;go_wp2;go_ret;have hT:=Env.To.of0 HD.out hK1';exact⟨_,rfl,by rw[HM.out];exact Env.RLs HR.out HD.out hT,hT⟩
 ·rw[hnew] at hx;cases hx
theorem qM3{W:World}{k:Nat}{a b c d e:Value}(v0 v1 v2 v3 v4:Value)(h:W.heap[k]?=some (.cells #[a,b,c,d,e] 83)):
  (((((W.setCell ⟨k,0,none⟩ v0).setCell ⟨k,1,none⟩ v1).setCell ⟨k,2,none⟩ v2).setCell ⟨k,3,none⟩ v3).setCell ⟨k,4,none⟩ v4).heap[k]?=some (.cells #[v0,v1,v2,v3,v4] 83)∧Kp [k] W (((((W.setCell ⟨k,0,none⟩ v0).setCell ⟨k,1,none⟩ v1).setCell ⟨k,2,none⟩ v2).setCell ⟨k,3,none⟩ v3).setCell ⟨k,4,none⟩ v4):=
 ⟨φ (φ (φ (φ (φ h 0 _) 1 _) 2 _) 3 _) 4 _,(((((Kp.refl _ W).sc _).sc _).sc _).sc _).sc _⟩
theorem Env.To.store'{E:Env}{w W W':World}{k:Nat}{c:Array Value}{t:TypeId}{fr:Nat × Nat}(hT:E.To w W)(hk:w.heap.size≤k)(hh:W.heap[k]?=some (.cells c t fr))(ht:t∈qX0)(hK:Kp [k] W W'):E.To w W':=
 ⟨E.keep W W' [k] hT.dev hK (fun i hi=>by rw[List.mem_singleton.1 hi];exact⟨c,t,fr,hh,ht⟩),hT.kp.trans hK (fun i hi hlt=>by rw[List.mem_singleton.1 hi] at hlt;omega)⟩
theorem RN.obj2{O:qE1}{n:Nat}{w:World}{q:Nat}{t:Tn n}(h:RN O n w q t):∃ pb pl pc lb ll lc,w.heap[q]?=some (υ (n:Int) (.slice pb pl pc) (.slice lb ll lc))∧pl+ll=cnt n t∧(n=0→ll=0)∧(n≠0→ll=cnt n t):=by
 cases n with
 | zero=>
  obtain⟨vp,h1,h2⟩:=h;obtain⟨bs,cp,hv⟩:∃ bs cp,vp=.slice bs (prs t).length cp:=by
   rcases h2.val with⟨h0,b,c,h1,_⟩|⟨g,off,cap,cur,fr,h1,_⟩
   ·rw[h0];exact⟨b,c,h1⟩
   ·exact⟨_,cap,h1⟩
  rw[hv] at h1;exact⟨_,_,_,_,_,_,h1,rfl,fun _=>rfl,fun h=>absurd rfl h⟩
 | succ n=>
  obtain⟨vl,h1,hs,h2,h3⟩:=h;obtain⟨bs,cp,hv⟩:∃ bs cp,vl=.slice bs hs.length cp:=by
   rcases h2.val with⟨h0,b,c,h1,_⟩|⟨g,off,cap,cur,fr,h1,_⟩
   ·rw[h0];exact⟨b,c,h1⟩
   ·exact⟨_,cap,h1⟩
  rw[hv] at h1;refine⟨_,_,_,_,_,_,h1,?_,fun h=>(by cases h),fun _=>h3.1⟩;rw[Nat.zero_add,h3.1];rfl
theorem xH0(E:Env)(n:Nat)(r:HL)(v:Value)(l:Lnk (Tn n))(w:World)(hd:E.Dev w)(hr:RLs E.O n w v [l])(hnew:l.ref=none)(hc:min n 1<cnt n l.sub)(hcm:cnt n l.sub≤10000):
  Calls prog 91 #[τ E.V r,v] w fun e w'=>∃ h,e=.returned (τ E.V h)∧RL E.O n w' h l∧E.To w w':=by
 obtain⟨hs,hsl,hb⟩:=hr;have hl1:hs.length=1:=hb.1;obtain⟨gb,off,cp,cur,fr,rfl,hcp,hrow,hcur⟩:=hsl.link (by omega);obtain⟨x,hx⟩:∃ x,hs=[x]:=by
  match hs,hl1 with
  | [x],_=>exact⟨x,rfl⟩
 subst hx;obtain⟨c0,c1,c2,c3⟩:=hcur 0 (by simp);have hrl:RL E.O n w x l:=hb.2 0 (by simp) (by simp);rcases hrl.new with⟨_,q,hq1,hq2⟩|⟨hx,_⟩
 ·have hptr:x.ptr=some ⟨q,0,none⟩:=by simp[HL.ptr,hq1]
  simp only[zF,Nat.zero_mul,Nat.add_zero] at c0 c1 c2 c3;rw[hptr] at c3;have HRL:=zh hrl;have HD:=zh hd;have HQ:=zh hq2;have HPT:=zh hptr;have hgs:=ζ hrow;have a0:=ξ hrow off;rw[c0] at a0;have a1:=ξ hrow (off+1);rw[c1] at a1;have a2:=ξ hrow (off+2);rw[c2] at a2;have a3:=ξ hrow (off+3);rw[c3] at a3;have hcz:¬((cnt n l.sub:Nat):Int)=0:=by omega
  have hci:cnt n l.sub≤1000000:=by omega
  have HC:=zh hc;clear hb hsl hcur hrl hq2 hd hptr hq1 hl1 hc;rw[τ];go_enter func91,ntmps91;go_wp2_with fail;obtain⟨w0,hw0,hB0,hR0,hL0,hK0,hs0⟩:∃ w0,w0=((w.alloc (.cells #[.pointer (some ⟨E.V,0,none⟩),.string r.key,.int .i64 r.b,.int .u64 r.s,.pointer r.ptr] 83)).alloc (.cells #[.pointer none,.string ⟨#[]⟩,.int .i64 0,.int .u64 0,.pointer none] 83)).alloc (.cells #[.string x.key,.int .i64 x.b,.int .u64 x.s,.pointer (some ⟨q,0,none⟩)] 81)∧w0.heap[w.heap.size]?=some (.cells #[.pointer (some ⟨E.V,0,none⟩),.string r.key,.int .i64 r.b,.int .u64 r.s,.pointer r.ptr] 83)∧w0.heap[w.heap.size+1]?=some (.cells #[.pointer none,.string ⟨#[]⟩,.int .i64 0,.int .u64 0,.pointer none] 83)∧w0.heap[w.heap.size+1+1]?=some (.cells #[.string x.key,.int .i64 x.b,.int .u64 x.s,.pointer (some ⟨q,0,none⟩)] 81)∧Kp [] w w0∧w0.heap.size=w.heap.size+3:=by
   refine⟨_,rfl,θ _ (θ _ (μ _ _)),θ _ ?_,?_,(((Kp.refl _ _).alloc _).alloc _).alloc _,by simp⟩
   ·have e:=μ (w.alloc (.cells #[.pointer (some ⟨E.V,0,none⟩),.string r.key,.int .i64 r.b,.int .u64 r.s,.pointer r.ptr] 83)) (.cells #[.pointer none,.string ⟨#[]⟩,.int .i64 0,.int .u64 0,.pointer none] 83);simpa using e
   ·have e:=μ ((w.alloc (.cells #[.pointer (some ⟨E.V,0,none⟩),.string r.key,.int .i64 r.b,.int .u64 r.s,.pointer r.ptr] 83)).alloc (.cells #[.pointer none,.string ⟨#[]⟩,.int .i64 0,.int .u64 0,.pointer none] 83)) (.cells #[.string x.key,.int .i64 x.b,.int .u64 x.s,.pointer (some ⟨q,0,none⟩)] 81);simpa using e
  rw[←hw0];clear hw0;refine (qS8 E.O n q l.sub w0 (RN.keep hK0 (Apt.nil _ _) n q _ HQ.out) hci).mono ?_;rintro e w1 ⟨rfl,hK1⟩;have hK1':Kp [] w w1:=hK0.tr hK1;have hT1:=Env.To.of0 HD.out hK1';have hB1:=hK1.hp hB0;have hR1:=hK1.hp hR0;have hL1:=hK1.hp hL0;obtain⟨pb,pl,pc,lb,ll,lc,hob,hcn,hn0,hn1⟩:=(RN.keep hK1' (Apt.nil _ _) n q _ HQ.out).obj2;have hll:¬((ll:Nat):Int)=1:=by
   have:=HC.out;by_cases h0:n=0
   ·have:=hn0 h0;omega
   ·have:=hn1 h0;omega
  have hqs:=ζ hob;have hBs:=ζ hB1;have hRs:=ζ hR1;have hLs:=ζ hL1;have o2:=ξ hob 2;simp only[υ,zG,zH,zI] at o2;have b0:=ξ hB1 0;simp only[zG,zH,zI] at b0;have l0:=ξ hL1;have r0:=ξ hR1;have fr0:=ψ hR1;have HR1:=zh hR1;have HT1:=zh hT1;clear hB1 hR1 hL1 hob hK1 hK0 hB0 hR0 hL0 hn0 hn1 hT1 hK1' a0 a1 a2 a3 hcn;go_wp2;have hts:=qM3 (.pointer (some ⟨E.V,0,none⟩)) (.string x.key) (.int .i64 x.b) (.int .u64 x.s) (.pointer (some ⟨q,0,none⟩)) HR1.out;have hT2:=HT1.out.store' (by omega) HR1.out (by decide) hts.2;refine bodyPost_ret (results_cell_row results91 _ _ (w.heap.size+1) 83 #[.pointer (some ⟨E.V,0,none⟩),.string x.key,.int .i64 x.b,.int .u64 x.s,.pointer (some ⟨q,0,none⟩)] (0,0) _ rfl hts.1 underlying83 rfl (by kernel_rfl)) rfl ⟨x,?_,Env.RL HRL.out HD.out hT2,hT2⟩;rw[τ,HPT.out]
 ·rw[hnew] at hx;cases hx
theorem zJ5{W:World}{k:Nat}{a b c d:Value}(v0 v1 v2 v3:Value)(h:W.heap[k]?=some (.cells #[a,b,c,d] 81)):
  ((((W.setCell ⟨k,0,none⟩ v0).setCell ⟨k,1,none⟩ v1).setCell ⟨k,2,none⟩ v2).setCell ⟨k,3,none⟩ v3).heap[k]?=some (.cells #[v0,v1,v2,v3] 81)∧Kp [k] W ((((W.setCell ⟨k,0,none⟩ v0).setCell ⟨k,1,none⟩ v1).setCell ⟨k,2,none⟩ v2).setCell ⟨k,3,none⟩ v3):=
 ⟨φ (φ (φ (φ h 0 _) 1 _) 2 _) 3 _,((((Kp.refl _ W).sc _).sc _).sc _).sc _⟩
theorem jX0(E:Env)(r:HL)(v:Value)(l:Lnk (Tn 0))(w:World)(hd:E.Dev w)(hr:RLs E.O 0 w v [l])(hnew:l.ref=none)(hc:cnt 0 l.sub=0):
  Calls prog 91 #[τ E.V r,v] w fun e w'=>e=.returned (τ E.V ⟨⟨#[]⟩,0,0,none⟩)∧E.To w w':=by
 obtain⟨hs,hsl,hb⟩:=hr;have hl1:hs.length=1:=hb.1;obtain⟨gb,off,cp,cur,fr,rfl,hcp,hrow,hcur⟩:=hsl.link (by omega);obtain⟨x,hx⟩:∃ x,hs=[x]:=by
  match hs,hl1 with
  | [x],_=>exact⟨x,rfl⟩
 subst hx;obtain⟨c0,c1,c2,c3⟩:=hcur 0 (by simp);have hrl:RL E.O 0 w x l:=hb.2 0 (by simp) (by simp);rcases hrl.new with⟨_,q,hq1,hq2⟩|⟨hx,_⟩
 ·have hptr:x.ptr=some ⟨q,0,none⟩:=by simp[HL.ptr,hq1]
  simp only[zF,Nat.zero_mul,Nat.add_zero] at c0 c1 c2 c3;rw[hptr] at c3;have HRL:=zh hrl;have HD:=zh hd;have HQ:=zh hq2;have HPT:=zh hptr;have hgs:=ζ hrow;have a0:=ξ hrow off;rw[c0] at a0;have a1:=ξ hrow (off+1);rw[c1] at a1;have a2:=ξ hrow (off+2);rw[c2] at a2;have a3:=ξ hrow (off+3);rw[c3] at a3;have hcz:((cnt 0 l.sub:Nat):Int)=0:=by omega
  have hci:cnt 0 l.sub≤1000000:=by omega
  clear hb hsl hcur hrl hq2 hd hptr hq1 hl1;rw[τ];go_enter func91,ntmps91;go_wp2_with fail;obtain⟨w0,hw0,hB0,hR0,hL0,hK0,hs0⟩:∃ w0,w0=((w.alloc (.cells #[.pointer (some ⟨E.V,0,none⟩),.string r.key,.int .i64 r.b,.int .u64 r.s,.pointer r.ptr] 83)).alloc (.cells #[.pointer none,.string ⟨#[]⟩,.int .i64 0,.int .u64 0,.pointer none] 83)).alloc (.cells #[.string x.key,.int .i64 x.b,.int .u64 x.s,.pointer (some ⟨q,0,none⟩)] 81)∧w0.heap[w.heap.size]?=some (.cells #[.pointer (some ⟨E.V,0,none⟩),.string r.key,.int .i64 r.b,.int .u64 r.s,.pointer r.ptr] 83)∧w0.heap[w.heap.size+1]?=some (.cells #[.pointer none,.string ⟨#[]⟩,.int .i64 0,.int .u64 0,.pointer none] 83)∧w0.heap[w.heap.size+1+1]?=some (.cells #[.string x.key,.int .i64 x.b,.int .u64 x.s,.pointer (some ⟨q,0,none⟩)] 81)∧Kp [] w w0∧w0.heap.size=w.heap.size+3:=by
   refine⟨_,rfl,θ _ (θ _ (μ _ _)),θ _ ?_,?_,(((Kp.refl _ _).alloc _).alloc _).alloc _,by simp⟩
   ·have e:=μ (w.alloc (.cells #[.pointer (some ⟨E.V,0,none⟩),.string r.key,.int .i64 r.b,.int .u64 r.s,.pointer r.ptr] 83)) (.cells #[.pointer none,.string ⟨#[]⟩,.int .i64 0,.int .u64 0,.pointer none] 83);simpa using e
   ·have e:=μ ((w.alloc (.cells #[.pointer (some ⟨E.V,0,none⟩),.string r.key,.int .i64 r.b,.int .u64 r.s,.pointer r.ptr] 83)).alloc (.cells #[.pointer none,.string ⟨#[]⟩,.int .i64 0,.int .u64 0,.pointer none] 83)) (.cells #[.string x.key,.int .i64 x.b,.int .u64 x.s,.pointer (some ⟨q,0,none⟩)] 81);simpa using e
  rw[←hw0];clear hw0;refine (qS8 E.O 0 q l.sub w0 (RN.keep hK0 (Apt.nil _ _) 0 q _ HQ.out) hci).mono ?_;rintro e w1 ⟨rfl,hK1⟩;have hK1':Kp [] w w1:=hK0.tr hK1;rw[hc];clear hc hcz hci;have hT1:=Env.To.of0 HD.out hK1';have hB1:=hK1.hp hB0;have hR1:=hK1.hp hR0;have hL1:=hK1.hp hL0;have hBs:=ζ hB1;have hRs:=ζ hR1;have hLs:=ζ hL1;have b0:=ξ hB1 0;simp only[zG,zH,zI] at b0;have l0:=ξ hL1;have fl0:=ψ hL1;have r0:=ξ hR1;have fr0:=ψ hR1;have HR1:=zh hR1;have HL1:=zh hL1;have HB1:=zh hB1;have HT1:=zh hT1;clear hB1 hR1 hL1 hK1 hK0 hB0 hR0 hL0 hT1 hK1' a0 a1 a2 a3;go_wp2;have hls:=zJ5 (.string ⟨#[]⟩) (.int .i64 0) (.int .u64 0) (.pointer none) HL1.out;have hR2:=hls.2.hp HR1.out;have hts:=qM3 (.pointer (some ⟨E.V,0,none⟩)) (.string ⟨#[]⟩) (.int .i64 0) (.int .u64 0) (.pointer none) hR2;have hT2:=HT1.out.store' (by omega) HL1.out (by decide) hls.2;have hT3:=hT2.store' (by omega) hR2 (by decide) hts.2;exact bodyPost_ret (results_cell_row results91 _ _ (w.heap.size+1) 83 #[.pointer (some ⟨E.V,0,none⟩),.string ⟨#[]⟩,.int .i64 0,.int .u64 0,.pointer none] (0,0) _ rfl hts.1 underlying83 rfl (by kernel_rfl)) rfl ⟨rfl,hT3⟩
 ·rw[hnew] at hx;cases hx
theorem jX1(E:Env)(n:Nat)(r:HL)(v:Value)(l:Lnk (Tn (n+1)))(m:Lnk (Tn n))(w:World)(hd:E.Dev w)(hr:RLs E.O (n+1) w v [l])(hnew:l.ref=none)(hm:η l.sub=[m]):
  Calls prog 91 #[τ E.V r,v] w fun e w'=>∃ h,e=.returned (τ E.V h)∧RL E.O n w' h m∧E.To w w':=by
 obtain⟨hs,hsl,hb⟩:=hr;have hl1:hs.length=1:=hb.1;obtain⟨gb,off,cp,cur,fr,rfl,hcp,hrow,hcur⟩:=hsl.link (by omega);obtain⟨x,hx⟩:∃ x,hs=[x]:=by
  match hs,hl1 with
  | [x],_=>exact⟨x,rfl⟩
 subst hx;obtain⟨c0,c1,c2,c3⟩:=hcur 0 (by simp);have hrl:RL E.O (n+1) w x l:=hb.2 0 (by simp) (by simp);rcases hrl.new with⟨_,q,hq1,hq2⟩|⟨hx,_⟩
 ·have hptr:x.ptr=some ⟨q,0,none⟩:=by simp[HL.ptr,hq1]
  simp only[zF,Nat.zero_mul,Nat.add_zero] at c0 c1 c2 c3;rw[hptr] at c3;have HRL:=zh hrl;have HD:=zh hd;have HQ:=zh hq2;have HPT:=zh hptr;have hgs:=ζ hrow;have a0:=ξ hrow off;rw[c0] at a0;have a1:=ξ hrow (off+1);rw[c1] at a1;have a2:=ξ hrow (off+2);rw[c2] at a2;have a3:=ξ hrow (off+3);rw[c3] at a3;have HC:Hid (cnt (n+1) l.sub=1):=by show (η l.sub).length=1;rw[hm];rfl
  have HM:=zh hm;clear hb hsl hcur hrl hq2 hd hptr hq1 hl1 hm;rw[τ];go_enter func91,ntmps91;go_wp2_with fail;obtain⟨w0,hw0,hB0,hR0,hL0,hK0,hs0⟩:∃ w0,w0=((w.alloc (.cells #[.pointer (some ⟨E.V,0,none⟩),.string r.key,.int .i64 r.b,.int .u64 r.s,.pointer r.ptr] 83)).alloc (.cells #[.pointer none,.string ⟨#[]⟩,.int .i64 0,.int .u64 0,.pointer none] 83)).alloc (.cells #[.string x.key,.int .i64 x.b,.int .u64 x.s,.pointer (some ⟨q,0,none⟩)] 81)∧w0.heap[w.heap.size]?=some (.cells #[.pointer (some ⟨E.V,0,none⟩),.string r.key,.int .i64 r.b,.int .u64 r.s,.pointer r.ptr] 83)∧w0.heap[w.heap.size+1]?=some (.cells #[.pointer none,.string ⟨#[]⟩,.int .i64 0,.int .u64 0,.pointer none] 83)∧w0.heap[w.heap.size+1+1]?=some (.cells #[.string x.key,.int .i64 x.b,.int .u64 x.s,.pointer (some ⟨q,0,none⟩)] 81)∧Kp [] w w0∧w0.heap.size=w.heap.size+3:=by
   refine⟨_,rfl,θ _ (θ _ (μ _ _)),θ _ ?_,?_,(((Kp.refl _ _).alloc _).alloc _).alloc _,by simp⟩
   ·have e:=μ (w.alloc (.cells #[.pointer (some ⟨E.V,0,none⟩),.string r.key,.int .i64 r.b,.int .u64 r.s,.pointer r.ptr] 83)) (.cells #[.pointer none,.string ⟨#[]⟩,.int .i64 0,.int .u64 0,.pointer none] 83);simpa using e
   ·have e:=μ ((w.alloc (.cells #[.pointer (some ⟨E.V,0,none⟩),.string r.key,.int .i64 r.b,.int .u64 r.s,.pointer r.ptr] 83)).alloc (.cells #[.pointer none,.string ⟨#[]⟩,.int .i64 0,.int .u64 0,.pointer none] 83)) (.cells #[.string x.key,.int .i64 x.b,.int .u64 x.s,.pointer (some ⟨q,0,none⟩)] 81);simpa using e
  rw[←hw0];clear hw0;refine (qS8 E.O (n+1) q l.sub w0 (RN.keep hK0 (Apt.nil _ _) (n+1) q _ HQ.out) (by rw[HC.out];omega)).mono ?_;rintro e w1 ⟨rfl,hK1⟩;have hK1':Kp [] w w1:=hK0.tr hK1;have hT1:=Env.To.of0 HD.out hK1';have hB1:=hK1.hp hB0;have hR1:=hK1.hp hR0;have hL1:=hK1.hp hL0;rw[HC.out];obtain⟨vl,hobw,hs,hsl,hb⟩:=HQ.out;have hob:=hK1'.hp hobw;rw[HM.out] at hb;obtain⟨y,hy⟩:∃ y,hs=[y]:=by
   have hl1:hs.length=1:=hb.1
   match hs,hl1 with
   | [y],_=>exact⟨y,rfl⟩
  subst hy;obtain⟨gy,oy,cy,cury,fry,rfl,hcy,hrowyw,hcury⟩:=hsl.link (by simp);have hrowy:=hK1'.hp hrowyw;obtain⟨y0,y1,y2,y3⟩:=hcury 0 (by simp);simp only[zF,Nat.zero_mul,Nat.add_zero] at y0 y1 y2 y3;have hry:RL E.O n w y m:=hb.2 0 (by simp) (by simp);have HRY:=zh hry;obtain⟨lv,hlv⟩:∃ lv:Int,((n+1:Nat):Int)=lv:=⟨_,rfl⟩;rw[hlv] at hob;have hgy:=ζ hrowy;have s0:=ξ hrowy oy;rw[y0] at s0;have s1:=ξ hrowy (oy+1);rw[y1] at s1;have s2:=ξ hrowy (oy+2);rw[y2] at s2;have s3:=ξ hrowy (oy+3);rw[y3] at s3;clear hsl hb hcury hry hlv hobw hrowyw;have hqs:=ζ hob;have hBs:=ζ hB1;have hRs:=ζ hR1;have hLs:=ζ hL1;have o2:=ξ hob 2;simp only[υ,zG,zH,zI] at o2;have b0:=ξ hB1 0;simp only[zG,zH,zI] at b0;have l0:=ξ hL1;have fl0:=ψ hL1;have r0:=ξ hR1;have fr0:=ψ hR1;have HR1:=zh hR1;have HL1:=zh hL1;have HT1:=zh hT1;have HGY:=zh hrowy;have HS0:Hid (w.heap.size+3≤w1.heap.size):=by have:=hK1.size;show _≤_;omega
  clear hB1 hR1 hL1 hob hK1 hK0 hB0 hR0 hL0 hT1 hK1' a0 a1 a2 a3 hrowy;go_wp2;have hls:=zJ5 (.string y.key) (.int .i64 y.b) (.int .u64 y.s) (.pointer y.ptr) HL1.out;have hR2:=hls.2.hp HR1.out;have hts:=qM3 (.pointer (some ⟨E.V,0,none⟩)) (.string y.key) (.int .i64 y.b) (.int .u64 y.s) (.pointer y.ptr) hR2;have hT2:=HT1.out.store' (by omega) HL1.out (by decide) hls.2;have hT3:=hT2.store' (by omega) hR2 (by decide) hts.2;exact bodyPost_ret (results_cell_row results91 _ _ (w.heap.size+1) 83 #[.pointer (some ⟨E.V,0,none⟩),.string y.key,.int .i64 y.b,.int .u64 y.s,.pointer y.ptr] (0,0) _ rfl hts.1 underlying83 rfl (by kernel_rfl)) rfl ⟨y,rfl,Env.RL HRY.out HD.out hT3,hT3⟩
 ·rw[hnew] at hx;cases hx
def qS2:(n:Nat)→Tn n→Prop
 | 0,_=>True
 | n+1,t=>2≤(η t).length∧∀ l∈η t,qS2 n l.sub
theorem zH2:∀ (n:Nat) (lo:ByteArray) (t:Tn n),Good n lo t→min n 1<cnt n t→qS2 n t
 | 0,_,_,_,_=>trivial
 | n+1,lo,t,h,hc=>by
  have h2:min (n+1) 1<(η t).length:=hc;exact⟨by omega,fun l hl=>zH2 n l.key l.sub (h.all l hl).1 (by have:=(h.all l hl).2.1;omega)⟩
def qY3(w:World)(S:List Nat):Prop:=∀ k∈S,∀ c t fr,w.heap[k]?=some (.cells c t fr)→t ∉ qF8∨(t=81∧c.size≤4)
theorem jT6{S:List Nat}{w w':World}(hK:Kp S w w')(hS:qY3 w S){v:Value}{hs:List HL}(h:Slc w 81 4 v hs.length (qA7 hs))(h2:2≤hs.length):Slc w' 81 4 v hs.length (qA7 hs):=by
 refine⟨h.len,?_⟩;rcases h.val with h|⟨g,off,cap,cur,fr,h1,_,h3,h4,h5⟩
 ·exact .inl h
 ·refine .inr ⟨g,off,cap,cur,fr,h1,by omega,h3,hK.heap h4 (fun hm=>?_),h5⟩;rcases hS g hm _ _ _ h4 with hx|⟨_,hx⟩
  ·exact hx (by decide)
  ·obtain⟨e0,_⟩:=qU3 (ls:=hs) (i:=1) (by omega);have d0:=(Array.getElem?_eq_some_iff.1 (h5 _ _ e0)).1;omega
theorem RN.keepW{O:qE1}{S:List Nat}{w w':World}(hK:Kp S w w')(hS:qY3 w S):∀ (n:Nat) (q:Nat) (t:Tn n),qS2 n t→RN O n w q t→RN O n w' q t
 | 0,q,t,_,h=>by
  obtain⟨vp,h1,h2⟩:=h;have hn:∀ (k:Nat) (c:Array Value) (t:TypeId) (fr:Nat × Nat),w.heap[k]?=some (.cells c t fr)→t∈qF8→t≠81→k ∉ S:=fun k c t fr e ht hne hm=>by
   rcases hS k hm c t fr e with hx|⟨hx,_⟩
   ·exact hx ht
   ·exact hne hx
  refine⟨vp,hK.heap h1 (hn q _ _ _ h1 (by decide) (by decide)),h2.len,?_⟩;rcases h2.val with h|⟨g,off,cap,cur,fr,k1,k2,k3,k4,k5⟩
  ·exact .inl h
  ·exact .inr ⟨g,off,cap,cur,fr,k1,k2,k3,hK.heap k4 (hn g _ _ _ k4 (by decide) (by decide)),k5⟩
 | n+1,q,t,hw,h=>by
  obtain⟨vl,h1,hs,h2,h3⟩:=h;refine⟨vl,hK.heap h1 (fun hm=>?_),hs,jT6 hK hS h2 (by rw[h3.1];exact hw.1),h3.1,fun i hi hi'=>(h3.2 i hi hi').mono (fun q hq=>RN.keepW hK hS n q _ (hw.2 _ (List.getElem_mem hi')) hq) (fun _ _ h=>h)⟩;rcases hS q hm _ _ _ h1 with hx|⟨hx,_⟩
  ·exact hx (by decide)
  ·cases hx
theorem RL.keepW{O:qE1}{S:List Nat}{w w':World}{n:Nat}{h:HL}{l:Lnk (Tn n)}(hr:RL O n w h l)(hK:Kp S w w')(hS:qY3 w S)(hw:qS2 n l.sub):RL O n w' h l:=hr.mono (fun q hq=>RN.keepW hK hS n q _ hw hq) (fun _ _ h=>h)
theorem jX2(E:Env)(n:Nat)(r:HL)(v:Value)(l m:Lnk (Tn n))(w:World)(hd:E.Dev w)(hr:RLs E.O n w v [l,m])(hn:n≤100000)(hnew:l.ref=none)(hk:l.key.size≤8∧m.key.size≤8)(hwl:qS2 n l.sub)(hwm:qS2 n m.sub):
  Calls prog 91 #[τ E.V r,v] w fun e w'=>∃ h,e=.returned (τ E.V h)∧RL E.O (n+1) w' h ⟨⟨#[]⟩,none,[l,m]⟩∧E.To w w':=by
 have hfit:meas qA4 [l,m]≤126:=by simp[meas,qA4];omega
 have hbr:qD5 n ⟨#[]⟩ [l,m]=[⟨⟨#[]⟩,none,[l,m]⟩]:=by
  unfold qD5 qB8;rw[if_pos hfit];rfl
 have hlz:∀ x∈[l,m],qA4 x≤21:=by
  intro x hx;simp only[List.mem_cons,List.not_mem_nil,or_false] at hx;unfold qA4;rcases hx with rfl|rfl<;>omega
 have HRR:=zh hr;obtain⟨hs,hsl,hb⟩:=hr;have hl1:hs.length=2:=hb.1;obtain⟨gb,off,cp,cur,fr,rfl,hcp,hrow,hcur⟩:=hsl.link (by omega);obtain⟨x,x2,hx⟩:∃ x x2,hs=[x,x2]:=by
  match hs,hl1 with
  | [x,x2],_=>exact⟨x,x2,rfl⟩
 subst hx;obtain⟨c0,c1,c2,c3⟩:=hcur 0 (by simp);have hrl:RL E.O n w x l:=hb.2 0 (by simp) (by simp);rcases hrl.new with⟨_,q,hq1,hq2⟩|⟨hx,_⟩
 ·have hptr:x.ptr=some ⟨q,0,none⟩:=by simp[HL.ptr,hq1]
  simp only[zF,Nat.zero_mul,Nat.add_zero] at c0 c1 c2 c3;rw[hptr] at c3;have HD:=zh hd;have HBR:=zh hbr;have HFIT:Hid ((∀ x∈[l,m],qA4 x≤21)∧meas qA4 [l,m]≤210):=⟨hlz,by omega⟩;have HW:Hid (qS2 (n+1) [l,m]):=⟨by show 2≤2;omega,fun z hz=>by
   have hz:z∈[l,m]:=hz;simp only[List.mem_cons,List.not_mem_nil,or_false] at hz;rcases hz with rfl|rfl<;>assumption⟩
  obtain⟨pb,pl,pc,lb,ll,lc,hobw,_⟩:=hq2.obj;obtain⟨lv,hlv⟩:∃ lv:Int,(n:Int)=lv:=⟨_,rfl⟩;rw[hlv] at hobw;have hlv1:0≤lv∧lv≤100000:=by omega
  have HLV:Hid (lv+1=((n+1:Nat):Int)):=by show _=_;omega
  have hqs:=ζ hobw;have o0:∀ A B C:Obj,(((w.alloc A).alloc B).alloc C).cell? ⟨q,0,none⟩=some (.int .i64 lv):=fun A B C=>(ξ (θ _ (θ _ (θ _ hobw))) 0).trans (by simp);have hlw:IntKind.i64.wrap (lv+1)=lv+1:=by rw[IntKind.wrap_i64];omega
  have hgs:=ζ hrow;have a0:=ξ hrow off;rw[c0] at a0;have a1:=ξ hrow (off+1);rw[c1] at a1;have a2:=ξ hrow (off+2);rw[c2] at a2;have a3:=ξ hrow (off+3);rw[c3] at a3;clear hb hsl hcur hrl hq2 hd hptr hq1 hl1 hlv hbr hlz hfit hk hwl hwm;rw[τ];go_enter func91,ntmps91;go_wp2_with fail;obtain⟨w0,hw0,hB0,hR0,hL0,hK0,hs0⟩:∃ w0,w0=((w.alloc (.cells #[.pointer (some ⟨E.V,0,none⟩),.string r.key,.int .i64 r.b,.int .u64 r.s,.pointer r.ptr] 83)).alloc (.cells #[.pointer none,.string ⟨#[]⟩,.int .i64 0,.int .u64 0,.pointer none] 83)).alloc (.cells #[.string x.key,.int .i64 x.b,.int .u64 x.s,.pointer (some ⟨q,0,none⟩)] 81)∧w0.heap[w.heap.size]?=some (.cells #[.pointer (some ⟨E.V,0,none⟩),.string r.key,.int .i64 r.b,.int .u64 r.s,.pointer r.ptr] 83)∧w0.heap[w.heap.size+1]?=some (.cells #[.pointer none,.string ⟨#[]⟩,.int .i64 0,.int .u64 0,.pointer none] 83)∧w0.heap[w.heap.size+1+1]?=some (.cells #[.string x.key,.int .i64 x.b,.int .u64 x.s,.pointer (some ⟨q,0,none⟩)] 81)∧Kp [] w w0∧w0.heap.size=w.heap.size+3:=by
   refine⟨_,rfl,θ _ (θ _ (μ _ _)),θ _ ?_,?_,(((Kp.refl _ _).alloc _).alloc _).alloc _,by simp⟩
   ·have e:=μ (w.alloc (.cells #[.pointer (some ⟨E.V,0,none⟩),.string r.key,.int .i64 r.b,.int .u64 r.s,.pointer r.ptr] 83)) (.cells #[.pointer none,.string ⟨#[]⟩,.int .i64 0,.int .u64 0,.pointer none] 83);simpa using e
   ·have e:=μ ((w.alloc (.cells #[.pointer (some ⟨E.V,0,none⟩),.string r.key,.int .i64 r.b,.int .u64 r.s,.pointer r.ptr] 83)).alloc (.cells #[.pointer none,.string ⟨#[]⟩,.int .i64 0,.int .u64 0,.pointer none] 83)) (.cells #[.string x.key,.int .i64 x.b,.int .u64 x.s,.pointer (some ⟨q,0,none⟩)] 81);simpa using e
  rw[←hw0];clear hw0;have hT0:=Env.To.of0 HD.out hK0;refine (qT5 E.O n (lv+1) HLV.out ⟨#[]⟩ _ [l,m] w0 (Env.RLs HRR.out HD.out hT0) (by simp) HFIT.out.1 HFIT.out.2).mono ?_;rintro e w1 ⟨v1,rfl,hR1',hK1⟩;rw[HBR.out] at hR1';obtain⟨hs1,hsl1,hb1⟩:=hR1';obtain⟨y,hy⟩:∃ y,hs1=[y]:=by
   have hl1:hs1.length=1:=hb1.1
   match hs1,hl1 with
   | [y],_=>exact⟨y,rfl⟩
  subst hy;obtain⟨gy,oy,cy,cury,fry,rfl,hcy,hrowy,hcury⟩:=hsl1.link (by simp);obtain⟨y0,y1,y2,y3⟩:=hcury 0 (by simp);simp only[zF,Nat.zero_mul,Nat.add_zero] at y0 y1 y2 y3;have hry:RL E.O (n+1) w1 y ⟨⟨#[]⟩,none,[l,m]⟩:=hb1.2 0 (by simp) (by simp);obtain⟨hk0,hry2⟩:=id hry;obtain⟨hb0,hs0',q',hq',hN'⟩:=hry2;have hyeq:y=⟨⟨#[]⟩,0,0,some q'⟩:=by
   obtain⟨ya,yb,yc,yd⟩:=y;simp only at hk0 hb0 hs0' hq';subst hk0 hb0 hs0' hq';rfl
  subst hyeq;have hptr':HL.ptr ⟨⟨#[]⟩,0,0,some q'⟩=some ⟨q',0,none⟩:=rfl;rw[hptr'] at y3;simp only at y0 y1 y2;have hgy:=ζ hrowy;have s0:=ξ hrowy oy;rw[y0] at s0;have s1:=ξ hrowy (oy+1);rw[y1] at s1;have s2:=ξ hrowy (oy+2);rw[y2] at s2;have s3:=ξ hrowy (oy+3);rw[y3] at s3;have hK1':Kp [] w w1:=hK0.tr hK1;have hT1:=Env.To.of0 HD.out hK1';have hB1:=hK1.hp hB0;have hR1:=hK1.hp hR0;have hL1:=hK1.hp hL0;have hBs:=ζ hB1;have hRs:=ζ hR1;have hLs:=ζ hL1;have b0:=ξ hB1 0;simp only[zG,zH,zI] at b0;have l0:=ξ hL1;have fl0:=ψ hL1;have r0:=ξ hR1;have fr0:=ψ hR1;have HRY:=zh hry;have HNY:=zh hN';have HT1:=zh hT1;have HR1:=zh hR1;have HL1:=zh hL1;have HB1:=zh hB1;clear hsl1 hb1 hcury hry hN' hq' hptr' hk0 hb0 hs0' hB1 hR1 hL1 hT1 hK1' hK1 hT0 hK0 hB0 hR0 hL0 a0 a1 a2 a3 o0 hobw hrowy;go_wp2_with fail;have hls:=zJ5 (.string ⟨#[]⟩) (.int .i64 0) (.int .u64 0) (.pointer (some ⟨q',0,none⟩)) HL1.out;obtain⟨w2,hw2,hL2,hK2⟩:∃ w2,w2=(((w1.setCell ⟨w.heap.size+1+1,0,none⟩ (.string ⟨#[]⟩)).setCell ⟨w.heap.size+1+1,1,none⟩ (.int .i64 0)).setCell ⟨w.heap.size+1+1,2,none⟩ (.int .u64 0)).setCell ⟨w.heap.size+1+1,3,none⟩ (.pointer (some ⟨q',0,none⟩))∧w2.heap[w.heap.size+1+1]?=some (.cells #[.string ⟨#[]⟩,.int .i64 0,.int .u64 0,.pointer (some ⟨q',0,none⟩)] 81)∧Kp [w.heap.size+1+1] w1 w2:=⟨_,rfl,hls.1,hls.2⟩;rw[←hw2];clear hw2 hls b0 l0 fl0 r0 fr0 s0 s1 s2 s3;have hAW:qY3 w1 [w.heap.size+1+1]:=fun i hi c t fr' e=>by
   rw[List.mem_singleton.1 hi,HL1.out] at e;cases e;exact .inr ⟨rfl,by simp⟩
  have hN2:RN E.O (n+1) w2 q' [l,m]:=RN.keepW hK2 hAW (n+1) q' _ HW.out HNY.out;have hR2:=hK2.hp HR1.out;have hB2:=hK2.ho HB1.out;have hT2:=HT1.out.store' (by omega) HL1.out (by decide) hK2;have hRY2:=RL.keepW HRY.out hK2 hAW HW.out;refine (qS8 E.O (n+1) q' [l,m] w2 hN2 (by show 2≤1000000;omega)).mono ?_;rintro e w3 ⟨rfl,hK3⟩;rw[show cnt (n+1) [l,m]=2 from rfl];obtain⟨pb',pl',pc',lb',ll',lc',hob,hcn,_,hn1⟩:=(RN.keep hK3 (Apt.nil _ _) (n+1) q' _ hN2).obj2;have hll':ll'=2:=(hn1 (by omega)).trans rfl;have hR3:=hK3.hp hR2;have hB3:=hK3.hp hB2;have hL3:=hK3.hp hL2;have hT3:=hT2.tail hK3;have hRY3:=RL.keep hRY2 hK3 (Apt.nil _ _);subst hll';have hqs3:=ζ hob;have hBs3:=ζ hB3;have hRs3:=ζ hR3;have hLs3:=ζ hL3;have o2:=ξ hob 2;simp only[υ,zG,zH,zI] at o2;have b0:=ξ hB3 0;simp only[zG,zH,zI] at b0;have l0:=ξ hL3;have r0:=ξ hR3;have fr0:=ψ hR3;have HR3:=zh hR3;have HT3:=zh hT3;have HRY3:=zh hRY3;clear hob hB3 hL3 hR3 hT3 hRY3 hRY2 hT2 hN2 hR2 hB2 hL2 hK2 hK3 hAW hcn hn1;go_wp2;have hts:=qM3 (.pointer (some ⟨E.V,0,none⟩)) (.string ⟨#[]⟩) (.int .i64 0) (.int .u64 0) (.pointer (some ⟨q',0,none⟩)) HR3.out;have hT4:=HT3.out.store' (by omega) HR3.out (by decide) hts.2;have hAT:Apt w3 [w.heap.size+1] qF8:=fun i hi c t fr' e=>by
   rw[List.mem_singleton.1 hi,HR3.out] at e;cases e;decide
  exact bodyPost_ret (results_cell_row results91 _ _ (w.heap.size+1) 83 #[.pointer (some ⟨E.V,0,none⟩),.string ⟨#[]⟩,.int .i64 0,.int .u64 0,.pointer (some ⟨q',0,none⟩)] (0,0) _ rfl hts.1 underlying83 rfl (by kernel_rfl)) rfl ⟨⟨⟨#[]⟩,0,0,some q'⟩,rfl,RL.keep HRY3.out hts.2 hAT,hT4⟩
 ·rw[hnew] at hx;cases hx
end Go.Proofs.YtdohpenfkdckiabGreatDoor
