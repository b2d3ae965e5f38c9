import Derived.Test.YtdohpenfkdckiabGreatDoorB12
import Derived.Test.YtdohpenfkdckiabGreatDoorF02
set_option linter.all false
set_option maxRecDepth 100000
set_option maxHeartbeats 20000000
namespace Go.Proofs.YtdohpenfkdckiabGreatDoor
open Go.Proofs.Tryz
open Go.RowKit
theorem jT3(E:Env)(r h:HL)(l:Lnk (Tn 0))(q:Nat)(k:ByteArray)(w:World)(hd:E.Dev w)(hkey:h.key=l.key)(hN:RN E.O 0 w q l.sub)(hg:Good 0 l.key l.sub)(hqk:∃ q∈cont 0 l.sub,q.k=k):
  Calls prog 92 #[φ E.V r,qC5 h,.pointer (some ⟨q,0,none⟩),.string k] w fun e w'=>∃ v',e=.returned v'∧RLs E.O 0 w' v' (qD0 0 l k)∧E.To w w':=by
 have hcl:(prs l.sub).length≤10000:=qK5 0 l.key l.sub hg;have hso:Sorted (prs l.sub):=hg.sorted;have hat:=(zH6 hso k).2 hqk;have hil:qC1 (prs l.sub) k<(prs l.sub).length:=by
  unfold qG0 at hat;by_cases h:qC1 (prs l.sub) k<(prs l.sub).length
  ·exact h
  ·rw[List.getElem?_eq_none (by omega)] at hat;cases hat
 obtain⟨ps',hps'⟩:∃ ps',(prs l.sub).take (qC1 (prs l.sub) k)++[]++(prs l.sub).drop (qC1 (prs l.sub) k+1)=ps':=⟨_,rfl⟩;have hdel:ps'=del k (prs l.sub):=by rw[←hps',List.append_nil];exact (zS2 hso hat).symm
 have hfit:meas ν ps'≤210:=by
  have h1:=qP1 ν (prs l.sub) (qC1 (prs l.sub) k);have h2:=qP1 ν ((prs l.sub).drop (qC1 (prs l.sub) k)) 1;have h3:meas ν (prs l.sub)≤126:=hg.fits;rw[List.drop_drop] at h2;rw[←hps',qF4,qF4,qC9];omega
 have hsz:∀ q∈ps',ν q≤21:=by
  intro q hq;rw[hdel] at hq;obtain⟨⟨h1,h2,h3⟩,_⟩:=hg.all q (qX9.1 hq).1;unfold ν;omega
 have hwo:qD0 0 l k=qE1 l.key ps':=by rw[←hps',List.append_nil];rfl
 have HKEY:=zh hkey;have HD:=zh hd;have HFIT:Hid (meas ν ps'≤210∧∀ q∈ps',ν q≤21):=⟨hfit,hsz⟩;have HWO:=zh hwo;have HPS:=zh hps';obtain⟨vp,hq,hsl⟩:=hN;have hqs:=ζ hq;have hqs1:q<w.heap.size+1:=by omega
 have hqs2:q<w.heap.size+1+1:=by omega
 have q0:=ξ hq 0;simp only[υ,zG,zH,zI] at q0;clear hd hkey hfit hsz hwo hdel hps' hat hqk;rw[φ,qC5];go_enter func92,ntmps92;go_wp2_with fail;obtain⟨w1,hw1,hT1b,hL1,hK1,hs1⟩:∃ w1,w1=(w.alloc (.cells #[.pointer (some ⟨E.V,0,none⟩),.string r.key,.int .i64 r.b,.int .u64 r.s,.pointer r.ptr] 83)).alloc (.cells #[.string h.key,.int .i64 h.b,.int .u64 h.s,.pointer h.ptr] 81)∧w1.heap[w.heap.size]?=some (.cells #[.pointer (some ⟨E.V,0,none⟩),.string r.key,.int .i64 r.b,.int .u64 r.s,.pointer r.ptr] 83)∧w1.heap[w.heap.size+1]?=some (.cells #[.string h.key,.int .i64 h.b,.int .u64 h.s,.pointer h.ptr] 81)∧Kp [] w w1∧w1.heap.size=w.heap.size+2:=by
  refine⟨_,rfl,θ _ (μ _ _),?_,((Kp.refl _ _).alloc _).alloc _,by simp⟩;have e:=μ (w.alloc (.cells #[.pointer (some ⟨E.V,0,none⟩),.string r.key,.int .i64 r.b,.int .u64 r.s,.pointer r.ptr] 83)) (.cells #[.string h.key,.int .i64 h.b,.int .u64 h.s,.pointer h.ptr] 81);simpa using e
 rw[←hw1];clear hw1 hT1b hs1 q0 hqs hqs1 hqs2;have hT1':=Env.To.of0 HD.out hK1;have hq1:=hK1.hp hq;have hsl1:=hsl.keep0 hK1;clear hq hsl;refine (zE4 q 0 vp _ (prs l.sub) k w1 hq1 hsl1 (by omega) hso).mono ?_;rintro e w2 ⟨rfl,hK2⟩;have hT2:=hT1'.tail hK2;have hq2:=hK2.hp hq1;have hs2:=hsl1.keep0 hK2;have hL2:=hK2.hp hL1;clear hK2 hq1 hsl1 hL1 hT1' hK1;obtain⟨bs,cp,hv⟩:∃ bs cp,vp=.slice bs (prs l.sub).length cp:=by
  rcases hs2.val with⟨h0,b,c,h1,_⟩|⟨g,off,cap,cur,fr,h1,_⟩
  ·rw[h0];exact⟨b,c,h1⟩
  ·exact⟨_,cap,h1⟩
 subst hv;obtain⟨i,hi0⟩:∃ i,qC1 (prs l.sub) k=i:=⟨_,rfl⟩;rw[hi0] at hil HPS ⊢;clear hi0;go_wp2_with fail;obtain⟨j,hj⟩:∃ j,j=i+1:=⟨_,rfl⟩;have hwr:IntKind.i64.wrap ((i:Int)+1)=(j:Int):=by rw[IntKind.wrap_i64];omega
 have HJ:=zh hj;clear hj;have hS0:w2.heap[q]?=some (υ 0 (.slice bs (prs l.sub).length cp) (.slice none 0 0))∧w2.heap[w.heap.size+1]?=some (.cells #[.string h.key,.int .i64 h.b,.int .u64 h.s,.pointer h.ptr] 81):=⟨hq2,hL2⟩;refine wp_region_held_drew (S:=fun W=>W.heap[q]?=some (υ 0 (.slice bs (prs l.sub).length cp) (.slice none 0 0))∧W.heap[w.heap.size+1]?=some (.cells #[.string h.key,.int .i64 h.b,.int .u64 h.s,.pointer h.ptr] 81)) (by kernel_rfl) hS0 (fun _=>?_);refine zU 0 (.pointer (some ⟨w.heap.size+1,0,none⟩)) hS0 ?_;refine zV 1 (.string h.key) rfl (fun W hS=>by have c:=ξ hS.2 0;simp at c;clear hS;go_simp) hS0 ?_;refine zP 2 q 0 hS0 ?_;refine zP 3 q 0 hS0 ?_;refine zP 4 q 1 hS0 ?_;refine zV 5 (.slice bs (prs l.sub).length cp) rfl (fun W hS=>by have c:=ξ hS.1 1;simp[υ] at c;clear hS;go_simp) hS0 ?_;refine zU 6 (.int .i64 i) hS0 ?_;refine zU 7 (.int .i64 i) hS0 ?_;refine zU 8 (.int .i64 j) hS0 ?_;refine zq 9 fun K hK=>?_;go_simp;have hTd:E.To w w2.drew:=hT2.tail ((Kp.refl _ _).drew);have hsb:Slc w2.drew 158 2 (.slice none 0 0) ([]:List KV).length (qA9 []):=⟨rfl,.inl ⟨rfl,_,_,rfl,fun _=>rfl⟩⟩;have hj1:=HJ.out;refine (zL1 _ _ (prs l.sub) [] i j w2.drew (hs2.keep0 ((Kp.refl [] _).drew)) hsb (by omega) (by omega) (by omega) hcl (by simp)).mono ?_;rintro e w4 ⟨v4,rfl,hs4,hK4⟩;rw[hj1,HPS.out] at hs4;clear hj1;have hT4:=hTd.tail hK4;have hS4:=And.intro (hK4.heap (k:=q) hq2 (by simp)) (hK4.heap (k:=w.heap.size+1) hL2 (by simp));refine hK.out _ _ hS4 (fun _=>?_);clear hK K hK4 hsb hTd hS0
 try simp only[zZ]
 refine zq 10 fun K hK=>?_;go_simp;refine (qS9 E.O h.key v4 ps' w4 hs4 (by have:=qG9 ν ps' (fun x _=>by unfold ν;omega);have:=HFIT.out.1;omega) HFIT.out.2 HFIT.out.1).mono ?_;rintro e w5 ⟨v5,rfl,hR5,hK5⟩;have hT5:=hT4.tail hK5;have hS5:=And.intro (hK5.hp hS4.1) (hK5.hp hS4.2);refine hK.out _ _ hS5 (fun _=>?_);clear hK K hS4 hK5 hT4
 try simp only[zZ]
 refine zq 11 fun K hK=>?_;go_simp;refine hK.out _ _ hS5 (fun _=>?_);clear hK K;refine zd ?_;rw[HKEY.out,←HWO.out] at hR5;have HR5:=zh hR5;have HT5:=zh hT5;clear hS5 hR5 hT5 hs4;go_wp2;go_ret;exact⟨v5,rfl,HR5.out,HT5.out⟩
theorem jD1{a b:Lnk (Tn 0)}(ha:Good 0 a.key a.sub)(hb:Good 0 b.key b.sub)(hc:cnt 0 a.sub≤2∨cnt 0 b.sub≤2):(∀ x∈prs a.sub++prs b.sub,ν x≤21)∧meas ν (prs a.sub++prs b.sub)≤210:=by
 have hsz:∀ x∈prs a.sub++prs b.sub,ν x≤21:=fun p hp=>by
  have ho:qC3 p:=by
   rcases List.mem_append.1 hp with hp|hp
   ·exact (ha.all p hp).1
   ·exact (hb.all p hp).1
  obtain⟨h1,h2,h3⟩:=ho;unfold ν;omega
 refine⟨hsz,?_⟩;rw[qF4];have h1:=qO0 ν 21 (prs a.sub) fun p hp=>hsz p (List.mem_append_left _ hp);have h2:=qO0 ν 21 (prs b.sub) fun p hp=>hsz p (List.mem_append_right _ hp);have h3:meas ν (prs a.sub)≤126:=ha.fits;have h4:meas ν (prs b.sub)≤126:=hb.fits;have h5:(prs a.sub).length≤2∨(prs b.sub).length≤2:=hc;omega
theorem jD0{n:Nat}{a b:Lnk (Tn (n+1))}(ha:Good (n+1) a.key a.sub)(hb:Good (n+1) b.key b.sub)(hc:cnt (n+1) a.sub≤2∨cnt (n+1) b.sub≤2):(∀ x∈η a.sub++η b.sub,qA3 x≤21)∧meas qA3 (η a.sub++η b.sub)≤210:=by
 have hsz:∀ x∈η a.sub++η b.sub,qA3 x≤21:=fun p hp=>by
  have ho:p.key.size≤8:=by
   rcases List.mem_append.1 hp with hp|hp
   ·exact (ha.all p hp).2.2
   ·exact (hb.all p hp).2.2
  unfold qA3;omega
 refine⟨hsz,?_⟩;rw[qF4];have h1:=qO0 qA3 21 (η a.sub) fun p hp=>hsz p (List.mem_append_left _ hp);have h2:=qO0 qA3 21 (η b.sub) fun p hp=>hsz p (List.mem_append_right _ hp);have h3:meas qA3 (η a.sub)≤126:=ha.fits;have h4:meas qA3 (η b.sub)≤126:=hb.fits;have h5:(η a.sub).length≤2∨(η b.sub).length≤2:=hc;omega
theorem jJ6(E:Env)(n:Nat)(lev:Int)(hlev:(n:Int)<lev)(hn:n≤100000)(r:HL)(v:Value)(ls:List (Lnk (Tn n)))(i:Nat)(c:Lnk (Tn n))(w:World)(hd:E.Dev w)(hr:RLs E.O n w v ls)(hi:ls[i]?=some c)(hll:ls.length≤10000)(hnew:c.ref=none)(hcm:cnt n c.sub≤10000)(h2:2≤ls.length)(hg:∀ l∈ls,Good n l.key l.sub):
  Calls prog 132 #[φ E.V r,v,.int .i64 lev,.int .i64 i] w fun e w'=>∃ v',e=.returned v'∧RLs E.O n w' v' (qC2 n ls i)∧E.To w w':=by
 obtain⟨hil,hic⟩:=List.getElem?_eq_some_iff.1 hi;by_cases h3:3≤cnt n c.sub
 ·exact jJ7 E n lev r v ls i w hd hr hil hll (by rw[hic];exact hnew) (by rw[hic];exact h3) (by rw[hic];exact hcm)
 ·obtain⟨j,hj⟩:∃ j,j=min i (ls.length-2):=⟨_,rfl⟩;have hj0:j<ls.length:=by omega
  have hj1:j+1<ls.length:=by omega
  have e0:ls[j]?=some ls[j]:=List.getElem?_eq_getElem hj0;have e1:ls[j+1]?=some ls[j+1]:=List.getElem?_eq_getElem hj1;have ga:=hg ls[j] (List.getElem_mem hj0);have gb:=hg ls[j+1] (List.getElem_mem hj1);have hcc:cnt n ls[j].sub≤2∨cnt n ls[j+1].sub≤2:=by
   by_cases h:i=j
   ·subst h;left;rw[hic];omega
   ·have:i=j+1:=by omega
    subst this;right;rw[hic];omega
  cases n with
  | zero=>exact jJ5 E lev (by omega) r v ls i j (j+1) c ls[j] ls[j+1] w hd hr hi hll hnew (by omega) h2 e0 e1 rfl hj (jD1 ga gb hcc)
  | succ n=>exact jJ4 E n lev (by omega) r v ls i j (j+1) c ls[j] ls[j+1] w hd hr hi hll hnew (by omega) h2 e0 e1 rfl hj (jD0 ga gb hcc) (by omega)
theorem jT5{n:Nat}{l:Lnk (Tn (n+1))}{k:ByteArray}(h:Good (n+1) l.key l.sub)(hk:kl k l.key=false)(hz:l.key.size≤8)(hq:∃ q∈cont (n+1) l.sub,q.k=k)(h1:1<cnt (n+1) l.sub):
  ∃ (m:Lnk (Tn n)) (new:List (Lnk (Tn n))),(η l.sub)[qB2 (η l.sub) k]?=some m∧new=(η l.sub).take (qB2 (η l.sub) k)++qD0 n m k++(η l.sub).drop (qB2 (η l.sub) k+1)∧
   Good n m.key m.sub∧kl k m.key=false∧m.key.size≤8∧(∃ q∈cont n m.sub,q.k=k)∧3≤cnt n m.sub∧(qD0 n m k).length≤2∧
   (∀ x∈new,Good n x.key x.sub)∧2≤new.length∧(∃ c,new[qB2 (η l.sub) k]?=some c∧c.ref=none)∧(∀ x∈qC2 n new (qB2 (η l.sub) k),qA3 x≤21)∧meas qA3 (qC2 n new (qB2 (η l.sub) k))≤210∧
   qD0 (n+1) l k=qD7 n l.key (qC2 n new (qB2 (η l.sub) k)):=by
 have h2:1<(η l.sub).length:=h1;have hr:Row0 n l.key (η l.sub):=h.row;obtain⟨A,m,B,e,hA,hkm,hqA,hqB⟩:=qZ7 (k:=k) hr (by intro e;rw[e] at h2;simp at h2) hk;have hall:∀ x∈A++m::B,Good n x.key x.sub∧3≤cnt n x.sub∧x.key.size≤8:=fun x hx=>h.all x (by show x∈η l.sub;rw[e];exact hx);have hm:=hall m (by simp);have hqB':∀ b∈B,∀ q∈cont n b.sub,kl k q.k=true:=fun b hb q hq=>qN7 (hqB b hb) ((qK4 n b.key b.sub (hall b (by simp[hb])).1).2 q hq).2;have hqm:∃ q∈cont n m.sub,q.k=k:=by
  obtain⟨q,hq,eq⟩:=hq;have hq:q∈(η l.sub).flatMap (fun l=>cont n l.sub):=hq;rw[e] at hq;obtain⟨x,hx,hqx⟩:=List.mem_flatMap.1 hq;rcases List.mem_append.1 hx with hx|hx
  ·exact absurd eq (qJ3 (hqA x hx q hqx))
  ·rcases List.mem_cons.1 hx with rfl|hx
   ·exact⟨q,hqx,eq⟩
   ·exact absurd eq.symm (qJ3 (hqB' x hx q hqx))
 obtain⟨w1,w2,w3⟩:=qY8 n m k hm.1 hkm hm.2.2 hqm (by omega);have hwc:∀ w∈qD0 n m k,1≤cnt n w.sub:=by
  rcases w3 with⟨a,e1,_,_,e4⟩|⟨a,b,e1,_,_,_,e5,e6⟩
  ·rw[e1];intro w hw;rw[List.mem_singleton.1 hw];omega
  ·rw[e1];intro w hw;simp only[List.mem_cons,List.not_mem_nil,or_false] at hw;rcases hw with rfl|rfl<;>omega
 have hr':Row0 n l.key (A++m::B):=by rw[←e];exact hr
 have hpair:=List.pairwise_append.1 hr'.pair;have hsp:=zE1 hr' w1 w3.ne hwc (fun w hw q hq b hb=>by
  have:q∈(qD0 n m k).flatMap (fun l=>cont n l.sub):=List.mem_flatMap.2 ⟨w,hw,hq⟩;rw[w2] at this;exact ((List.pairwise_cons.1 hpair.2.1).1 b hb).2 q (qX9.1 this).1)
 have hmW:=w3.meas (fun w hw=>(w1.all w hw).2);have hfit:meas qA3 (A++m::B)≤126:=by have h3:meas qA3 (η l.sub)≤126:=h.fits;rw[e] at h3;exact h3
 have hmm:meas qA3 (A++qD0 n m k++B)≤145:=by
  rw[qF4,qF4];rw[qF4,qE0] at hfit;omega
 have hW1:1≤(qD0 n m k).length:=List.length_pos_iff.2 w3.ne;have hlen:(η l.sub).length≤(A++qD0 n m k++B).length:=by rw[e];simp;omega
 obtain⟨d1,d2,d3,d4,d5⟩:=zZ3 (m:=m) hsp (fun x hx=>(hall x (by simp[hx])).2.1) (fun x hx=>(hall x (by simp[hx])).2.1) w3 hm.2.1 (by omega);have hget:(η l.sub)[qB2 (η l.sub) k]?=some m:=by rw[←hA,e];simp
 have htake:(η l.sub).take (qB2 (η l.sub) k)=A:=by rw[←hA,e];simp
 have hdrop:(η l.sub).drop (qB2 (η l.sub) k+1)=B:=by
  rw[←hA,e,show A++m::B=(A++[m])++B by simp];exact List.drop_left' (by simp)
 have hw:qD0 (n+1) l k=qD7 n l.key (qC2 n (A++qD0 n m k++B) (qB2 (η l.sub) k)):=by
  show (match (η l.sub)[qB2 (η l.sub) k]? with
   | some m=>qD7 n l.key (qC2 n ((η l.sub).take (qB2 (η l.sub) k)++qD0 n m k++(η l.sub).drop (qB2 (η l.sub) k+1)) (qB2 (η l.sub) k))
   | none=>[])=_
  rw[hget,htake,hdrop]
 refine⟨m,A++qD0 n m k++B,hget,by rw[htake,hdrop],hm.1,hkm,hm.2.2,hqm,hm.2.1,?_,fun x hx=>(hsp.all x hx).1,by omega,?_,?_,?_,hw⟩
 ·rcases w3 with⟨a,e1,_⟩|⟨a,b,e1,_⟩<;>rw[e1]<;>simp
 ·rw[←hA];rcases w3 with⟨a,e1,_,e3,_⟩|⟨a,b,e1,_,e3,_⟩
  ·exact⟨a,by rw[e1];simp,e3⟩
  ·exact⟨a,by rw[e1];simp,e3⟩
 ·rw[←hA];intro x hx;have:=(d1.all x hx).2;unfold qA3;omega
 ·rw[←hA];omega
theorem jT2(E:Env)(n:Nat)
  (ih:∀ (r h:HL) (l:Lnk (Tn n)) (q:Nat) (k:ByteArray) (w:World),E.Dev w→h.key=l.key→RN E.O n w q l.sub→Good n l.key l.sub→kl k l.key=false→l.key.size≤8→(∃ q∈cont n l.sub,q.k=k)→min n 1<cnt n l.sub→Calls prog 92 #[φ E.V r,qC5 h,.pointer (some ⟨q,0,none⟩),.string k] w fun e w'=>∃ v',e=.returned v'∧RLs E.O n w' v' (qD0 n l k)∧E.To w w')
  (hn:n≤100000) (r h:HL) (l:Lnk (Tn (n+1))) (q:Nat) (k:ByteArray) (w:World) (hd:E.Dev w) (hkey:h.key=l.key) (hN:RN E.O (n+1) w q l.sub) (hg:Good (n+1) l.key l.sub) (hk:kl k l.key=false) (hz:l.key.size≤8) (hqk:∃ q∈cont (n+1) l.sub,q.k=k) (hc:1<cnt (n+1) l.sub):
  Calls prog 92 #[φ E.V r,qC5 h,.pointer (some ⟨q,0,none⟩),.string k] w fun e w'=>∃ v',e=.returned v'∧RLs E.O (n+1) w' v' (qD0 (n+1) l k)∧E.To w w':=by
 have hcl:(η l.sub).length≤10000:=(qK5 (n+1) l.key l.sub hg).1;obtain⟨m,new,hgm,hnw,m1,m2,m3,m4,m5,m6,n1,n2,⟨c,n3,n4⟩,n5,n6,n7⟩:=jT5 hg hk hz hqk hc;have hpair:=hg.pair;obtain⟨i,hi0⟩:∃ i,qB2 (η l.sub) k=i:=⟨_,rfl⟩;rw[hi0] at hgm hnw n3 n5 n6 n7;have hnl:new.length≤10000:=by
  have h1:=qG9 qA3 (qC2 n new i) (fun x _=>by unfold qA3;omega);have h2:(η l.sub).length≤126:=by
   have h3:=qG9 qA3 (η l.sub) (fun x _=>by unfold qA3;omega);have h4:meas qA3 (η l.sub)≤126:=hg.fits;omega
  rw[hnw];simp only[List.length_append,List.length_take,List.length_drop];omega
 have hcm:cnt n c.sub≤10000:=by
  have gc:=n1 c (List.mem_of_getElem? n3)
  cases n with
  | zero=>exact qK5 0 c.key c.sub gc
  | succ n=>exact (qK5 (n+1) c.key c.sub gc).1
 have hil0:i<(η l.sub).length:=(List.getElem?_eq_some_iff.1 hgm).1;obtain⟨ls,hls⟩:∃ ls,η l.sub=ls:=⟨_,rfl⟩;rw[hls] at hgm hnw hcl hi0 hil0;have HLS:=zh hls;have HI0:=zh hi0;have HGM:=zh hgm;have HNW:=zh hnw;have HN:Hid ((∀ x∈new,Good n x.key x.sub)∧2≤new.length∧new[i]?=some c∧c.ref=none):=⟨n1,n2,n3,n4⟩;have HF:Hid ((∀ x∈qC2 n new i,qA3 x≤21)∧meas qA3 (qC2 n new i)≤210):=⟨n5,n6⟩;have HWT:=zh n7;have HPA:Hid (ls.Pairwise (qR8 n)):=by show List.Pairwise _ _;rw[←hls];exact hpair
 have HWI:Hid (Good n m.key m.sub∧kl k m.key=false∧m.key.size≤8∧(∃ q∈cont n m.sub,q.k=k)∧3≤cnt n m.sub):=⟨m1,m2,m3,m4,m5⟩;have HKEY:=zh hkey;have HD:=zh hd;have HCM:=zh hcm;have HWL:=zh m6;have HIH:=ih;clear hd hkey hg hk hz hqk hc hgm hnw n1 n2 n3 n4 n5 n6 n7 m1 m2 m3 m4 m5 m6 hpair hls hi0 hcm ih;obtain⟨vl,hq,hs,hsl,hb⟩:=hN;rw[HLS.out] at hb;have HBL:=zh hb.1;have hil:i<hs.length:=by have:=HBL.out;omega
 have hhl:hs.length≤10000:=by have:=HBL.out;omega
 obtain⟨gb,off,cp,cur,fr,rfl,hcp,hrow,hcur⟩:=hsl.link (by omega);obtain⟨x,_,hrx,c0,c1,c2,c3⟩:=qR2 hb hcur HGM.out;obtain⟨lv,hlv⟩:∃ lv:Int,((n+1:Nat):Int)=lv:=⟨_,rfl⟩;rw[hlv] at hq;have HLV:=zh hlv.symm;have hlv0:¬lv=0:=by omega
 have HB:=zh hb;have HRX:=zh hrx;have hrise:Rise hs:=zE0 hb HPA.out;have hwb:hs.findIdx (fun l=>kl k l.key)-1=i:=by rw[zM4 hb];exact HI0.out
 have hqs:=ζ hq;have hqs1:q<w.heap.size+1:=by omega
 have hqs2:q<w.heap.size+1+1:=by omega
 have q0:=ξ hq 0;simp only[υ,zG,zH,zI] at q0;clear hcur hb hlv hrx;rw[φ,qC5];go_enter func92,ntmps92;go_wp2_with fail;obtain⟨w1,hw1,hB1,hL1,hK1,hs1⟩:∃ w1,w1=(w.alloc (.cells #[.pointer (some ⟨E.V,0,none⟩),.string r.key,.int .i64 r.b,.int .u64 r.s,.pointer r.ptr] 83)).alloc (.cells #[.string h.key,.int .i64 h.b,.int .u64 h.s,.pointer h.ptr] 81)∧w1.heap[w.heap.size]?=some (.cells #[.pointer (some ⟨E.V,0,none⟩),.string r.key,.int .i64 r.b,.int .u64 r.s,.pointer r.ptr] 83)∧w1.heap[w.heap.size+1]?=some (.cells #[.string h.key,.int .i64 h.b,.int .u64 h.s,.pointer h.ptr] 81)∧Kp [] w w1∧w1.heap.size=w.heap.size+2:=by
  refine⟨_,rfl,θ _ (μ _ _),?_,((Kp.refl _ _).alloc _).alloc _,by simp⟩;have e:=μ (w.alloc (.cells #[.pointer (some ⟨E.V,0,none⟩),.string r.key,.int .i64 r.b,.int .u64 r.s,.pointer r.ptr] 83)) (.cells #[.string h.key,.int .i64 h.b,.int .u64 h.s,.pointer h.ptr] 81);simpa using e
 rw[←hw1];clear hw1;have hT1':=Env.To.of0 HD.out hK1;have hq1:=hK1.hp hq;have hsl1:=hsl.keep0 hK1;have hrow1:=hK1.hp hrow;have HB1:Hid (Both (RL E.O n w1) hs ls):=HB.out.mono fun x y hr=>RL.keep hr hK1 (Apt.nil _ _);have HRX1:Hid (RL E.O n w1 x m):=RL.keep HRX.out hK1 (Apt.nil _ _);clear hq hsl hrow HB HRX q0 hqs hqs1 hqs2 hK1;have hway:=zM5 q _ _ _ hs k w1 hq1 hsl1 (by omega) hrise;rw[hwb] at hway;refine hway.mono ?_;rintro e w2 ⟨rfl,hK2⟩;have hT2:=hT1'.tail hK2;have hq2:=hK2.hp hq1;have hs2:=hsl1.keep0 hK2;have hB2:=hK2.hp hB1;have hL2:=hK2.hp hL1;have hrow2:=hK2.hp hrow1;have hsz2:w.heap.size≤w2.heap.size:=by have:=hK2.size;omega
 have HB2:Hid (Both (RL E.O n w2) hs ls):=HB1.out.mono fun x y hr=>RL.keep hr hK2 (Apt.nil _ _);have HRX2:Hid (RL E.O n w2 x m):=RL.keep HRX1.out hK2 (Apt.nil _ _);clear hK2 hq1 hsl1 hL1 hT1' hB1 hrow1 hway hwb hrise HB1 HRX1 hs1;have hqs2:=ζ hq2;have hgs2:=ζ hrow2;have a0:=ξ hrow2 (off+i*4);rw[c0] at a0;have a1:=ξ hrow2 (off+i*4+1);rw[c1] at a1;have a2:=ξ hrow2 (off+i*4+2);rw[c2] at a2;have a3:=ξ hrow2 (off+i*4+3);rw[c3] at a3;have q2:=ξ hq2 2;simp only[υ,zG,zH,zI] at q2;go_wp2_with fail;obtain⟨w3,hw3,hX3,hK3⟩:∃ w3,w3=w2.alloc (.cells #[.string x.key,.int .i64 x.b,.int .u64 x.s,.pointer x.ptr] 81)∧w3.heap[w2.heap.size]?=some (.cells #[.string x.key,.int .i64 x.b,.int .u64 x.s,.pointer x.ptr] 81)∧Kp [] w2 w3:=⟨_,rfl,μ _ _,(Kp.refl _ _).alloc _⟩;rw[←hw3];clear hw3;have hT3:=hT2.tail hK3;have hq3:=hK3.hp hq2;have hs3:=hs2.keep0 hK3;have hL3:=hK3.hp hL2;have HB3:Hid (Both (RL E.O n w3) hs ls):=HB2.out.mono fun x y hr=>RL.keep hr hK3 (Apt.nil _ _);have HRX3:Hid (RL E.O n w3 x m):=RL.keep HRX2.out hK3 (Apt.nil _ _);obtain⟨X,hX0⟩:∃ X,w2.heap.size=X:=⟨_,rfl⟩;rw[hX0] at hX3 hsz2 ⊢;have hS0:w3.heap[q]?=some (υ lv (.slice none 0 0) (.slice (some ⟨gb,off,none⟩) hs.length cp))∧w3.heap[w.heap.size]?=some (.cells #[.pointer (some ⟨E.V,0,none⟩),.string r.key,.int .i64 r.b,.int .u64 r.s,.pointer r.ptr] 83)∧w3.heap[X]?=some (.cells #[.string x.key,.int .i64 x.b,.int .u64 x.s,.pointer x.ptr] 81):=⟨hq3,hK3.hp hB2,hX3⟩;clear hq2 hs2 hL2 hB2 hrow2 hK3 hX3 HB2 HRX2 hT2 a0 a1 a2 a3 q2 hqs2 hgs2 hX0 c0 c1 c2 c3 hq3;obtain⟨j,hj⟩:∃ j,j=i+1:=⟨_,rfl⟩;have hwr:IntKind.i64.wrap ((i:Int)+1)=(j:Int):=by rw[IntKind.wrap_i64];omega
 have HJ:=zh hj;clear hj;refine wp_region_held_drew (S:=fun W=>W.heap[q]?=some (υ lv (.slice none 0 0) (.slice (some ⟨gb,off,none⟩) hs.length cp))∧W.heap[w.heap.size]?=some (.cells #[.pointer (some ⟨E.V,0,none⟩),.string r.key,.int .i64 r.b,.int .u64 r.s,.pointer r.ptr] 83)∧W.heap[X]?=some (.cells #[.string x.key,.int .i64 x.b,.int .u64 x.s,.pointer x.ptr] 81)) (by kernel_rfl) hS0 (fun _=>?_);refine zP 0 q 0 hS0 ?_;refine zP 1 q 0 hS0 ?_;refine zP 2 q 2 hS0 ?_;refine zV 3 (.slice (some ⟨gb,off,none⟩) hs.length cp) rfl (fun W hS=>by have c:=ξ hS.1 2;simp[υ] at c;clear hS;go_simp) hS0 ?_;refine zU 4 (.int .i64 i) hS0 ?_;refine zU 5 (.int .i64 i) hS0 ?_;refine zU 6 (.int .i64 j) hS0 ?_;refine zW 7 (.agg #[.pointer (some ⟨E.V,0,none⟩),.string r.key,.int .i64 r.b,.int .u64 r.s,.pointer r.ptr]) hS0 (·.2.1) ?_;refine zW 8 (.agg #[.string x.key,.int .i64 x.b,.int .u64 x.s,.pointer x.ptr]) hS0 (·.2.2) ?_;refine zW 9 (.agg #[.pointer (some ⟨E.V,0,none⟩),.string r.key,.int .i64 r.b,.int .u64 r.s,.pointer r.ptr]) hS0 (·.2.1) ?_;refine zW 10 (.agg #[.string x.key,.int .i64 x.b,.int .u64 x.s,.pointer x.ptr]) hS0 (·.2.2) ?_;refine zP 11 q 0 hS0 ?_;refine zP 12 q 0 hS0 ?_;refine zP 13 q 0 hS0 ?_;refine zV 14 (.int .i64 lv) rfl (fun W hS=>by have c:=ξ hS.1 0;simp[υ] at c;clear hS;go_simp) hS0 ?_;refine zU 16 (.string k) hS0 ?_;refine zq 15 fun K hK=>?_;go_simp;have hTd:E.To w w3.drew:=hT3.tail ((Kp.refl _ _).drew);have hTx:RL E.O n w3.drew x m:=RL.keep HRX3.out ((Kp.refl [] _).drew) (Apt.nil _ _);refine (qJ7 E n x r m lv w3.drew hTd.dev hTx (by have:=HLV.out;omega)).mono ?_;rintro e w4 ⟨q4,rfl,hN4,hT4⟩;have hT4':=hTd.trans hT4;have hS4:w4.heap[q]?=some (υ lv (.slice none 0 0) (.slice (some ⟨gb,off,none⟩) hs.length cp))∧w4.heap[w.heap.size]?=some (.cells #[.pointer (some ⟨E.V,0,none⟩),.string r.key,.int .i64 r.b,.int .u64 r.s,.pointer r.ptr] 83)∧w4.heap[X]?=some (.cells #[.string x.key,.int .i64 x.b,.int .u64 x.s,.pointer x.ptr] 81):=
  ⟨hT4.kp.heap (k:=q) hS0.1 (fun hm=>E.apt _ hTd.dev _ hm _ _ _ hS0.1 (by decide)),hT4.new (k:=w.heap.size) HD.out (by omega) hS0.2.1,hT4.new (k:=X) HD.out hsz2 hS0.2.2⟩
 have hs4:Slc w4 81 4 (.slice (some ⟨gb,off,none⟩) hs.length cp) hs.length (qA5 hs):=Slc.keep (w:=w3.drew) (hs3.keep0 ((Kp.refl [] _).drew)) hT4.kp ((E.apt _ hTd.dev).sub (by decide));have hL4:=hT4.new (k:=w.heap.size+1) HD.out (by omega) hL3;have HB4:Hid (Both (RL E.O n w4) hs ls):=HB3.out.mono fun x y hr=>Env.RL (RL.keep hr ((Kp.refl [] w3).drew) (Apt.nil _ _)) hTd.dev hT4;refine hK.out _ _ hS4 (fun _=>?_);clear hK K hS0 hTd hTx hs3 HB3 hT4 hT3 hL3
 try simp only[zZ]
 refine zq 17 fun K hK=>?_;go_simp;refine (HIH r x m q4 k w4 hT4'.dev HRX3.out.1 hN4 HWI.out.1 HWI.out.2.1 HWI.out.2.2.1 HWI.out.2.2.2.1 (by have:=HWI.out.2.2.2.2;omega)).mono ?_;rintro e w3 ⟨v3,rfl,hR3,hT3⟩;have hT3':=hT4'.trans hT3;have hS3:w3.heap[q]?=some (υ lv (.slice none 0 0) (.slice (some ⟨gb,off,none⟩) hs.length cp))∧w3.heap[w.heap.size]?=some (.cells #[.pointer (some ⟨E.V,0,none⟩),.string r.key,.int .i64 r.b,.int .u64 r.s,.pointer r.ptr] 83)∧w3.heap[X]?=some (.cells #[.string x.key,.int .i64 x.b,.int .u64 x.s,.pointer x.ptr] 81):=
  ⟨hT3.kp.heap (k:=q) hS4.1 (fun hm=>E.apt _ hT4'.dev _ hm _ _ _ hS4.1 (by decide)),hT3.new (k:=w.heap.size) HD.out (by omega) hS4.2.1,hT3.new (k:=X) HD.out hsz2 hS4.2.2⟩
 have hL3:=hT3.new (k:=w.heap.size+1) HD.out (by omega) hL4;have hs3:Slc w3 81 4 (.slice (some ⟨gb,off,none⟩) hs.length cp) hs.length (qA5 hs):=Slc.keep hs4 hT3.kp ((E.apt _ hT4'.dev).sub (by decide));have HB3:Hid (Both (RL E.O n w3) hs ls):=HB4.out.mono fun x y hr=>Env.RL hr hT4'.dev hT3;refine hK.out _ _ hS3 (fun _=>?_);clear hK K hS4 hs4 HB4 hN4 hL4
 try simp only[zZ]
 refine zq 18 fun K hK=>?_;go_simp;obtain⟨hs',hsl',hb'⟩:=hR3;have hnb:hs'.length≤10000:=by rw[hb'.1];have:=HWL.out;omega
 have hj1:=HJ.out;refine (qR0 _ v3 hs hs' i j w3 hs3 hsl' (by omega) (by omega) (by omega) hhl hnb).mono ?_;rintro e w4 ⟨v4,rfl,hs4,hK4⟩;rw[hj1] at hs4;clear hj1;have hT4:=hT3'.tail hK4;have hR4:RLs E.O n w4 v4 new:=by
  rw[HNW.out];exact⟨_,hs4,(((HB3.out.take i).append hb').append (HB3.out.drop (i+1))).mono fun x y hr=>RL.keep hr hK4 (Apt.nil _ _)⟩
 have HR4:=zh hR4;have hS4:=And.intro (hK4.hp hS3.1) (And.intro (hK4.hp hS3.2.1) (hK4.hp hS3.2.2));have hL4:=hK4.hp hL3;refine hK.out _ _ hS4 (fun _=>?_);clear hK K hS3 hK4 hs3 hT3' hT3 hR4 hs4 hb' hsl' hL3
 try simp only[zZ]
 refine zq 19 fun K hK=>?_;go_simp;refine hK.out _ _ hS4 (fun _=>?_);clear hK K;refine zd ?_;have hq4:=hS4.1;have hB4:=hS4.2.1;clear hS4;go_wp2_with fail;have hS5:w4.heap[q]?=some (υ lv (.slice none 0 0) (.slice (some ⟨gb,off,none⟩) hs.length cp))∧w4.heap[w.heap.size]?=some (.cells #[.pointer (some ⟨E.V,0,none⟩),.string r.key,.int .i64 r.b,.int .u64 r.s,.pointer r.ptr] 83)∧w4.heap[w.heap.size+1]?=some (.cells #[.string h.key,.int .i64 h.b,.int .u64 h.s,.pointer h.ptr] 81):=⟨hq4,hB4,hL4⟩;refine wp_region_held_drew (S:=fun W=>W.heap[q]?=some (υ lv (.slice none 0 0) (.slice (some ⟨gb,off,none⟩) hs.length cp))∧W.heap[w.heap.size]?=some (.cells #[.pointer (some ⟨E.V,0,none⟩),.string r.key,.int .i64 r.b,.int .u64 r.s,.pointer r.ptr] 83)∧W.heap[w.heap.size+1]?=some (.cells #[.string h.key,.int .i64 h.b,.int .u64 h.s,.pointer h.ptr] 81)) (by kernel_rfl) hS5 (fun _=>?_);refine zU 0 (.pointer (some ⟨w.heap.size+1,0,none⟩)) hS5 ?_;refine zV 1 (.string h.key) rfl (fun W hS=>by have c:=ξ hS.2.2 0;simp at c;clear hS;go_simp) hS5 ?_;refine zP 2 q 0 hS5 ?_;refine zP 3 q 0 hS5 ?_;refine zP 4 q 0 hS5 ?_;refine zV 5 (.int .i64 lv) rfl (fun W hS=>by have c:=ξ hS.1 0;simp[υ] at c;clear hS;go_simp) hS5 ?_;refine zW 6 (.agg #[.pointer (some ⟨E.V,0,none⟩),.string r.key,.int .i64 r.b,.int .u64 r.s,.pointer r.ptr]) hS5 (·.2.1) ?_;refine zU 7 v4 hS5 ?_;refine zP 8 q 0 hS5 ?_;refine zP 9 q 0 hS5 ?_;refine zP 10 q 0 hS5 ?_;refine zV 11 (.int .i64 lv) rfl (fun W hS=>by have c:=ξ hS.1 0;simp[υ] at c;clear hS;go_simp) hS5 ?_;refine zU 12 (.int .i64 i) hS5 ?_;refine zq 13 fun K hK=>?_;go_simp;have hTd4:E.To w w4.drew:=hT4.tail ((Kp.refl _ _).drew);refine (jJ6 E n lv (by have:=HLV.out;omega) hn r v4 new i c w4.drew hTd4.dev (RLs.keep HR4.out ((Kp.refl [] _).drew) (Apt.nil _ _)) HN.out.2.2.1 hnl HN.out.2.2.2 HCM.out HN.out.2.1 HN.out.1).mono ?_;rintro e w6 ⟨v6,rfl,hR6,hT6⟩;have hT6':=hTd4.trans hT6;have hS6:w6.heap[q]?=some (υ lv (.slice none 0 0) (.slice (some ⟨gb,off,none⟩) hs.length cp))∧w6.heap[w.heap.size]?=some (.cells #[.pointer (some ⟨E.V,0,none⟩),.string r.key,.int .i64 r.b,.int .u64 r.s,.pointer r.ptr] 83)∧w6.heap[w.heap.size+1]?=some (.cells #[.string h.key,.int .i64 h.b,.int .u64 h.s,.pointer h.ptr] 81):=
  ⟨hT6.kp.heap (k:=q) hq4 (fun hm=>E.apt _ hTd4.dev _ hm _ _ _ hq4 (by decide)),hT6.new (k:=w.heap.size) HD.out (by omega) hB4,hT6.new (k:=w.heap.size+1) HD.out (by omega) hL4⟩
 refine hK.out _ _ hS6 (fun _=>?_);clear hK K hS5 hTd4 hT6
 try simp only[zZ]
 refine zq 14 fun K hK=>?_;go_simp;refine (qU1 E.O n lv HLV.out h.key v6 (qC2 n new i) w6 hR6 (by have:=qG9 qA3 (qC2 n new i) (fun x _=>by unfold qA3;omega);have:=HF.out.2;omega) HF.out.1 HF.out.2).mono ?_;rintro e w7 ⟨v7,rfl,hR7,hK7⟩;have hT7:=hT6'.tail hK7;have hS7:=And.intro (hK7.hp hS6.1) (And.intro (hK7.hp hS6.2.1) (hK7.hp hS6.2.2));refine hK.out _ _ hS7 (fun _=>?_);clear hK K hS6 hK7 hT6'
 try simp only[zZ]
 refine zq 15 fun K hK=>?_;go_simp;refine hK.out _ _ hS7 (fun _=>?_);clear hK K;refine zd ?_;rw[HKEY.out,←HWT.out] at hR7;have HR7:=zh hR7;have HT7:=zh hT7;clear hS7 hR7 hT7;go_wp2;go_ret;exact⟨v7,rfl,HR7.out,HT7.out⟩
theorem jT4(E:Env):∀ (n:Nat),n≤100000→∀ (r h:HL) (l:Lnk (Tn n)) (q:Nat) (k:ByteArray) (w:World),E.Dev w→h.key=l.key→RN E.O n w q l.sub→Good n l.key l.sub→kl k l.key=false→l.key.size≤8→(∃ q∈cont n l.sub,q.k=k)→min n 1<cnt n l.sub→
  Calls prog 92 #[φ E.V r,qC5 h,.pointer (some ⟨q,0,none⟩),.string k] w fun e w'=>∃ v',e=.returned v'∧RLs E.O n w' v' (qD0 n l k)∧E.To w w':=by
 intro n
 induction n with
 | zero=>
  intro _ r h l q k w hd hr hN hg hk _ hq _;exact jT3 E r h l q k w hd hr hN hg hq
 | succ n ih=>
  intro hn r h l q k w hd hr hN hg hk hz hq hc;exact jT2 E n (ih (by omega)) (by omega) r h l q k w hd hr hN hg hk hz hq (by omega)
theorem jQ6(E:Env)(n:Nat)(hn:n≤100000)(h:HL)(l:Lnk (Tn n))(k:ByteArray)(w:World)(hd:E.Dev w)(hr:RL E.O n w h l)(hg:RGood (.at n l))(hsz:(cont n l.sub).length≤1000000)(hq:∃ q∈cont n l.sub,q.k=k):
  Calls prog 53 #[φ E.V h,.string k] w fun e w'=>∃ h',e=.returned (φ E.V h')∧RR E w' h' (qF5 n (qD0 n l k))∧E.To w w':=by
 have HGR:=zh hg;obtain⟨g1,g2,g3⟩:=hg;have hk8:l.key.size≤8:=by rw[g1];decide
 have hkl:kl k l.key=false:=by rw[g1];exact qN6 _
 obtain⟨wg1,wg2,wg3⟩:=qY8 n l k g2 hkl hk8 hq g3;have hsome:(qG4 (cont n l.sub) k).isSome=true:=by
  obtain⟨q,hq1,hq2⟩:=hq;unfold qG4;rw[List.find?_isSome];exact⟨q,hq1,by simp[hq2]⟩
 have HD:=zh hd;have HRL:=zh hr;have HG:Hid (Good n l.key l.sub∧kl k l.key=false∧l.key.size≤8∧(∃ q∈cont n l.sub,q.k=k)∧min n 1<cnt n l.sub):=⟨g2,hkl,hk8,hq,g3⟩;have HM:Hid (Row0 n l.key (qD0 n l k)∧Made n l 1 (qD0 n l k)∧min n 1<cnt n l.sub):=⟨wg1,wg3,g3⟩;have HSO:=zh hsome;have HK0:=zh g1;clear hd hr g1 g2 g3 hk8 hkl wg1 wg2 wg3 hq hsome;rw[φ];go_enter func53,ntmps53;go_wp2_with fail;obtain⟨w0,hw0,hB0,hR0,hK0,hs0⟩:∃ w0,w0=(w.alloc (.cells #[.pointer (some ⟨E.V,0,none⟩),.string h.key,.int .i64 h.b,.int .u64 h.s,.pointer h.ptr] 83)).alloc (.cells #[.pointer none,.string ⟨#[]⟩,.int .i64 0,.int .u64 0,.pointer none] 83)∧w0.heap[w.heap.size]?=some (.cells #[.pointer (some ⟨E.V,0,none⟩),.string h.key,.int .i64 h.b,.int .u64 h.s,.pointer h.ptr] 83)∧w0.heap[w.heap.size+1]?=some (.cells #[.pointer none,.string ⟨#[]⟩,.int .i64 0,.int .u64 0,.pointer none] 83)∧Kp [] w w0∧w0.heap.size=w.heap.size+2:=by
  refine⟨_,rfl,θ _ (μ _ _),?_,((Kp.refl _ _).alloc _).alloc _,by simp⟩;have e:=μ (w.alloc (.cells #[.pointer (some ⟨E.V,0,none⟩),.string h.key,.int .i64 h.b,.int .u64 h.s,.pointer h.ptr] 83)) (.cells #[.pointer none,.string ⟨#[]⟩,.int .i64 0,.int .u64 0,.pointer none] 83);simpa using e
 rw[←hw0];clear hw0;have hT0:=Env.To.of0 HD.out hK0;refine (zN0 E (.at n l) h k w0 hT0.dev (Env.RL HRL.out HD.out hT0) HGR.out hsz).mono ?_;rintro e w1 ⟨rfl,hTg⟩;have hT1:=hT0.trans hTg;rw[show (qG4 (Root.cont (.at n l)) k).isSome=true from HSO.out];have hB1:=hTg.new HD.out (by omega) hB0;have hR1:=hTg.new HD.out (by omega) hR0;have hS0:w1.heap[w.heap.size]?=some (.cells #[.pointer (some ⟨E.V,0,none⟩),.string h.key,.int .i64 h.b,.int .u64 h.s,.pointer h.ptr] 83)∧True:=⟨hB1,trivial⟩;clear hTg hT0 hK0 hB0 hR0;go_wp2_with fail;refine wp_region_held_drew (S:=fun W=>W.heap[w.heap.size]?=some (.cells #[.pointer (some ⟨E.V,0,none⟩),.string h.key,.int .i64 h.b,.int .u64 h.s,.pointer h.ptr] 83)∧True) (by kernel_rfl) hS0 (fun _=>?_);refine zW 0 (.agg #[.pointer (some ⟨E.V,0,none⟩),.string h.key,.int .i64 h.b,.int .u64 h.s,.pointer h.ptr]) hS0 (·.1) ?_;refine zW 1 (.agg #[.pointer (some ⟨E.V,0,none⟩),.string h.key,.int .i64 h.b,.int .u64 h.s,.pointer h.ptr]) hS0 (·.1) ?_;refine zP 2 w.heap.size 1 hS0 ?_;refine zW 3 (.agg #[.string h.key,.int .i64 h.b,.int .u64 h.s,.pointer h.ptr]) hS0 (·.1) ?_;refine zW 4 (.agg #[.pointer (some ⟨E.V,0,none⟩),.string h.key,.int .i64 h.b,.int .u64 h.s,.pointer h.ptr]) hS0 (·.1) ?_;refine zU 6 (.string k) hS0 ?_;refine zq 5 fun K hK=>?_;go_simp;have hTd0:E.To w w1.drew:=hT1.tail ((Kp.refl _ _).drew);refine (qY6 E n h l w1.drew hTd0.dev (Env.RL HRL.out HD.out hTd0)).mono ?_;rintro e wt ⟨qt,rfl,hNt,hTt⟩;have hTd:=hTd0.trans hTt;have hSt:wt.heap[w.heap.size]?=some (.cells #[.pointer (some ⟨E.V,0,none⟩),.string h.key,.int .i64 h.b,.int .u64 h.s,.pointer h.ptr] 83)∧True:=⟨hTt.new (k:=w.heap.size) HD.out (by omega) hS0.1,trivial⟩;have hRt:=hTt.new (k:=w.heap.size+1) HD.out (by omega) hR1;refine hK.out _ _ hSt (fun _=>?_);clear hK K hS0 hTd0 hTt hR1
 try simp only[zZ]
 refine zq 7 fun K hK=>?_;go_simp;refine (jT4 E n hn h h l qt k wt hTd.dev HRL.out.1 hNt HG.out.1 HG.out.2.1 HG.out.2.2.1 HG.out.2.2.2.1 HG.out.2.2.2.2).mono ?_;rintro e w2 ⟨v2,rfl,hR2,hT2⟩;have hT2':=hTd.trans hT2;have hS2:w2.heap[w.heap.size]?=some (.cells #[.pointer (some ⟨E.V,0,none⟩),.string h.key,.int .i64 h.b,.int .u64 h.s,.pointer h.ptr] 83)∧True:=⟨hT2.new (k:=w.heap.size) HD.out (by omega) hSt.1,trivial⟩;have hR2b:=hT2.new (k:=w.heap.size+1) HD.out (by omega) hRt;refine hK.out _ _ hS2 (fun _=>?_);clear hK K hSt hTd hT2 hRt hNt
 try simp only[zZ]
 refine zq 8 fun K hK=>?_;go_simp;refine (zM3 E n hn h v2 l 1 (qD0 n l k) w2 hT2'.dev hR2 HM.out.1 HM.out.2.1 HM.out.2.2 (by omega)).mono ?_;rintro e w3 ⟨h',rfl,hR3,hT3⟩;have hT3':=hT2'.trans hT3;have hS3:w3.heap[w.heap.size]?=some (.cells #[.pointer (some ⟨E.V,0,none⟩),.string h.key,.int .i64 h.b,.int .u64 h.s,.pointer h.ptr] 83)∧True:=⟨hT3.new HD.out (by omega) hS2.1,trivial⟩;have hR3b:=hT3.new HD.out (by omega) hR2b;refine hK.out _ _ hS3 (fun _=>?_);clear hK K hS2 hT3 hT2' hR2
 try simp only[zZ]
 have r0:=ξ hR3b;have fr0:=ρ hR3b;refine zq 9 fun K hK=>?_;rw[φ];go_simp;have hts:=qK8 (.pointer (some ⟨E.V,0,none⟩)) (.string h'.key) (.int .i64 h'.b) (.int .u64 h'.s) (.pointer h'.ptr) hR3b;obtain⟨w4,hw4,hR4,hK4⟩:∃ w4,w4=((((w3.setCell ⟨w.heap.size+1,0,none⟩ (.pointer (some ⟨E.V,0,none⟩))).setCell ⟨w.heap.size+1,1,none⟩ (.string h'.key)).setCell ⟨w.heap.size+1,2,none⟩ (.int .i64 h'.b)).setCell ⟨w.heap.size+1,3,none⟩ (.int .u64 h'.s)).setCell ⟨w.heap.size+1,4,none⟩ (.pointer h'.ptr)∧w4.heap[w.heap.size+1]?=some (.cells #[.pointer (some ⟨E.V,0,none⟩),.string h'.key,.int .i64 h'.b,.int .u64 h'.s,.pointer h'.ptr] 83)∧Kp [w.heap.size+1] w3 w4:=⟨_,rfl,hts.1,hts.2⟩;rw[←hw4];clear hw4 hts r0 fr0;have hT4:=hT3'.store' (by omega) hR3b (by decide) hK4;have hAT:Apt w3 [w.heap.size+1] qF9:=fun i hi c t fr' e=>by
  rw[List.mem_singleton.1 hi,hR3b] at e;cases e;decide
 have hRR4:RR E w4 h' (qF5 n (qD0 n l k)):=by
  have hx:RR E w3 h' (qF5 n (qD0 n l k)):=hR3;show RR E w4 h' (qF5 n (qD0 n l k))
  cases hu:qF5 n (qD0 n l k) with
  | none=>rw[hu] at hx;exact hx
  | «at» m z=>rw[hu] at hx;exact RL.keep hx hK4 hAT
 have hS4:=And.intro (hK4.hp hS3.1) trivial;refine hK.out _ _ hS4 (fun _=>?_);clear hK K;refine zd ?_;have HRR:=zh hRR4;have HT4:=zh hT4;have HR4:=zh hR4;clear hS4 hS3 hR3b hT4 hRR4 hR4 hK4 hAT hR3 hT3';go_wp2;exact bodyPost_ret (results_cell_row results53 _ _ (w.heap.size+1) 83 #[.pointer (some ⟨E.V,0,none⟩),.string h'.key,.int .i64 h'.b,.int .u64 h'.s,.pointer h'.ptr] (0,0) _ rfl HR4.out underlying83 rfl (by kernel_rfl)) rfl ⟨h',rfl,HRR.out,HT4.out⟩
theorem jQ7(E:Env)(r:Root)(h:HL)(k:ByteArray)(w:World)(hd:E.Dev w)(hr:RR E w h r)(hg:RGood r)(hsz:r.cont.length≤1000000)(hq:¬∃ q∈r.cont,q.k=k):
  Calls prog 53 #[φ E.V h,.string k] w fun e w'=>∃ h',e=.returned (φ E.V h')∧RR E w' h' r∧E.To w w':=by
 have hnone:(qG4 r.cont k).isSome=false:=by
  unfold qG4;rw[List.find?_eq_none.2 (fun q hq1=>by simp;exact fun e=>hq ⟨q,hq1,e⟩)];rfl
 have HD:=zh hd;have HRR:=zh hr;have HGR:=zh hg;have HSO:=zh hnone;clear hd hr hg hnone hq;rw[φ];go_enter func53,ntmps53;go_wp2_with fail;obtain⟨w0,hw0,hB0,hR0,hK0,hs0⟩:∃ w0,w0=(w.alloc (.cells #[.pointer (some ⟨E.V,0,none⟩),.string h.key,.int .i64 h.b,.int .u64 h.s,.pointer h.ptr] 83)).alloc (.cells #[.pointer none,.string ⟨#[]⟩,.int .i64 0,.int .u64 0,.pointer none] 83)∧w0.heap[w.heap.size]?=some (.cells #[.pointer (some ⟨E.V,0,none⟩),.string h.key,.int .i64 h.b,.int .u64 h.s,.pointer h.ptr] 83)∧w0.heap[w.heap.size+1]?=some (.cells #[.pointer none,.string ⟨#[]⟩,.int .i64 0,.int .u64 0,.pointer none] 83)∧Kp [] w w0∧w0.heap.size=w.heap.size+2:=by
  refine⟨_,rfl,θ _ (μ _ _),?_,((Kp.refl _ _).alloc _).alloc _,by simp⟩;have e:=μ (w.alloc (.cells #[.pointer (some ⟨E.V,0,none⟩),.string h.key,.int .i64 h.b,.int .u64 h.s,.pointer h.ptr] 83)) (.cells #[.pointer none,.string ⟨#[]⟩,.int .i64 0,.int .u64 0,.pointer none] 83);simpa using e
 rw[←hw0];clear hw0;have hT0:=Env.To.of0 HD.out hK0;refine (zN0 E r h k w0 hT0.dev (RR.to HRR.out HD.out hT0) HGR.out hsz).mono ?_;rintro e w1 ⟨rfl,hTg⟩;have hT1:=hT0.trans hTg;rw[HSO.out];have hB1:=hTg.new HD.out (by omega) hB0;have hR1:=hTg.new HD.out (by omega) hR0;have hBs:=ζ hB1;have hRs:=ζ hR1;have b0:=ξ hB1;have r0:=ξ hR1;have fr0:=ρ hR1;have HR1:=zh hR1;have HT1:=zh hT1;clear hTg hT0 hK0 hB0 hR0 hB1 hR1 hT1;go_wp2;have hts:=qK8 (.pointer (some ⟨E.V,0,none⟩)) (.string h.key) (.int .i64 h.b) (.int .u64 h.s) (.pointer h.ptr) HR1.out;have hT2:=HT1.out.store' (by omega) HR1.out (by decide) hts.2;exact bodyPost_ret (results_cell_row results53 _ _ (w.heap.size+1) 83 #[.pointer (some ⟨E.V,0,none⟩),.string h.key,.int .i64 h.b,.int .u64 h.s,.pointer h.ptr] (0,0) _ rfl hts.1 underlying83 rfl (by kernel_rfl)) rfl ⟨h,rfl,RR.to HRR.out HD.out hT2,hT2⟩
theorem jQ8(E:Env)(r:Root)(h:HL)(k:ByteArray)(w:World)(hd:E.Dev w)(hr:RR E w h r)(hg:RGood r)(hsz:r.cont.length≤100000):
  Calls prog 53 #[φ E.V h,.string k] w fun e w'=>∃ h',e=.returned (φ E.V h')∧RR E w' h' (r.del k)∧E.To w w':=by
 by_cases hq:∃ q∈r.cont,q.k=k
 ·cases r with
  | none=>obtain⟨q,hq,_⟩:=hq;cases hq
  | «at» n l=>
   have hq':∃ q∈cont n l.sub,q.k=k:=hq;have hlv:=zL3 hg;have hsz':(cont n l.sub).length≤100000:=hsz;have e:Root.del (.at n l) k=qF5 n (qD0 n l k):=by
    show (if (cont n l.sub).any (fun q=>decide (q.k=k)) then qF5 n (qD0 n l k) else .at n l)=_;rw[if_pos (by simpa using hq')]
   rw[e];exact jQ6 E n (by omega) h l k w hd hr hg (by omega) hq'
 ·have e:r.del k=r:=by
   cases r with
   | none=>rfl
   | «at» n l=>
    have hq':¬∃ q∈cont n l.sub,q.k=k:=hq;show (if (cont n l.sub).any (fun q=>decide (q.k=k)) then qF5 n (qD0 n l k) else .at n l)=_;rw[if_neg (by simpa using hq')]
  rw[e];exact jQ7 E r h k w hd hr hg (by omega) hq
theorem xU5(k:ByteArray)(l:List KV):(del k l).length≤l.length:=List.length_filter_le _ _
theorem SEnv.ninM(E:SEnv){w:World}(hd:E.Dev w){k:Nat}{es:Array MapEntry}{c:Nat}(h:w.heap[k]?=some (.map es c)):k ∉ E.S:=fun hm=>by
 obtain⟨c',t',fr',h1,h2⟩:=E.offS w hd k hm;rw[h] at h1;cases h1
variable {κ:Nat}
def nk(c:Int):Nat→Int
 | 0=>c
 | k+1=>nx (nk c k)
variable {κ:Nat}
structure Wr(base A:Nat)(w w':World):Prop where
 os:w'.os=w.os
 tape:w'.tape=w.tape
 output:w'.output=w.output
 size:w.heap.size≤w'.heap.size
 low:∀ k,k<base→k≠A→w'.heap[k]?=w.heap[k]?
 oth:∀ (k:Nat) (c:Array Value) (t:TypeId) (fr:Nat × Nat),w.heap[k]?=some (.cells c t fr)→t≠89→k≠A→w'.heap[k]?=some (.cells c t fr)
theorem Wr.trans{base A:Nat}{a b c:World}(h:Wr base A a b)(k:Wr base A b c):Wr base A a c:=
 ⟨k.os.trans h.os,k.tape.trans h.tape,k.output.trans h.output,Nat.le_trans h.size k.size,fun q h1 h2=>(k.low q h1 h2).trans (h.low q h1 h2),fun q c t fr e h1 h2=>k.oth q c t fr (h.oth q c t fr e h1 h2) h1 h2⟩
theorem Wr.ofKp{base A:Nat}{a b:World}(h:Kp [A] a b)(hb:base≤a.heap.size):Wr base A a b:=
 ⟨h.os,h.tape,h.output,h.size,fun k h1 h2=>h.block k (by omega) (by simpa using h2),fun k c t fr e h1 h2=>h.heap e (by simpa using h2)⟩
theorem Wr.grown{base A:Nat}{a w w':World}{sz:Nat}{v:Value}{n:Nat}{xs:List Value}(s:Wr base A a w)(hb:base≤a.heap.size)(h:w.ownsRow base 89 sz v n xs)(hg:w.grownBy w' v.ownBlock):Wr base A a w':=
 ⟨hg.os.trans s.os,hg.tape.trans s.tape,hg.output.trans s.output,Nat.le_trans s.size hg.size,fun k h1 h2=>by
  refine (hg.block k (by have:=s.size;omega) ?_).trans (s.low k h1 h2);intro e;have:=qI3 h k e.symm;omega,fun k c t fr e h1 h2=>qP5 h hg (s.oth k c t fr e h1 h2) h1⟩
theorem jU1(A n C:Nat)(v:Value)(base k:Nat)(xs:List Value)(calls writes:Int)(i:Nat)(B bo cap:Nat)(src:Array Value)(tb:TypeId)(w:World)(h:w.heap[A]?=some (χ κ n C v calls writes))
  (hi:i<n) (hn:n≤1000) (hB:w.heap[B]?=some (.cells src tb)) (hs:bo+128≤src.size) (hby:allBytes src) (hAB:B≠A) (hv:w.ownsRow base 89 129 v k xs) (hb:base≤w.heap.size) (hk:k≤100000):
  Calls prog 251 #[.pointer (some ⟨A,0,none⟩),.int .i64 i,.slice (some ⟨B,bo,none⟩) 128 cap] w fun e w'=>e=.returned .nilIface∧∃ v',
   w'.ownsRow base 89 129 v' (k+1) (xs++.int .i64 i::(qA2 src bo 128).toList)∧w'.heap[A]?=some (χ κ n C v' (nx calls) (nx writes))∧Wr base A w w':=by
 have HV:=zh hv;have HB:Hid (base≤w.heap.size∧k≤100000):=⟨hb,hk⟩;clear hv hb hk;have c1:=ξ h 1;have c3:=ξ h 3;simp at c1 c3;have hA:=ζ h;have hBs:=ζ hB;go_enter func251,ntmps251;go_wp2_with fail;refine (zB1 A n C _ calls writes _ h).mono ?_;rintro e w1 ⟨rfl,rfl⟩;go_wp2_with fail;refine (zD5 A n C v (nx calls) writes i _ (ω h 2 _) (by omega) (by omega)).mono ?_;rintro e w1 ⟨rfl,rfl⟩;go_wp2_with fail;have hN:((w.setCell ⟨A,2,none⟩ (.int .i64 (nx calls))).alloc (.cells zeroCells89 89)).heap[w.heap.size]?=some (.cells zeroCells89 89):=by
  simpa using μ (w.setCell ⟨A,2,none⟩ (.int .i64 (nx calls))) (.cells zeroCells89 89)
 rw[qM0 hN (by simp[qK1]) (fun v hv=>by rcases List.mem_or_eq_of_mem_set hv with h | h;exact xJ4 v h;subst h;rfl)];obtain⟨W1,hW1,hK1,hA1,hG1⟩:∃ W1,W1=((w.setCell ⟨A,2,none⟩ (.int .i64 (nx calls))).alloc (.cells zeroCells89 89)).setRow w.heap.size (qD3 zeroCells89 0 (zeroCells89.toList.set 0 (.int .i64 i)).toArray)∧Kp [A] w W1∧
   W1.heap[A]?=some (χ κ n C v (nx calls) writes)∧W1.heap[w.heap.size]?=some (.cells (zeroCells89.toList.set 0 (.int .i64 i)).toArray 89):=
  ⟨_,rfl,(((Kp.refl _ _).sc _).alloc _).setRow (by simp) _,(setRow_other _ _ _ _ (by omega)).trans (θ _ (ω h 2 _)),by
   rw[setRow_heap _ _ _ _ _ _ hN,qJ6 (by simp)]⟩
 rw[←hW1];clear hW1 hN;have hB1:=hK1.heap hB (by simp[hAB]);go_wp2_with fail;rw[qR3 (n:=128) 3 underlying90 Tryz.size5 rfl hG1 hB1 (by simp[qK1]) hs (qQ4 hby _ _).one];obtain⟨W2,hW2,hK2,hA2,hG2⟩:∃ W2,W2=W1.setRow w.heap.size (qD3 (zeroCells89.toList.set 0 (.int .i64 i)).toArray 1 (qA2 src bo 128))∧Kp [A] w W2∧
   W2.heap[A]?=some (χ κ n C v (nx calls) writes)∧W2.heap[w.heap.size]?=some (.cells (.int .i64 i::(qA2 src bo 128).toList).toArray 89):=
  ⟨_,rfl,hK1.setRow (by simp) _,(setRow_other _ _ _ _ (by omega)).trans hA1,by
   rw[setRow_heap _ _ _ _ _ _ hG1];have e:qD3 (zeroCells89.toList.set 0 (.int .i64 i)).toArray 1 (qA2 src bo 128)=(.int .i64 i::(qA2 src bo 128).toList).toArray:=by
    have hz:zeroCells89.toList.length=129:=by simp[qK1]
    obtain⟨z0,zs,hzs⟩:∃ z0 zs,zeroCells89.toList=z0::zs:=by
     cases hq:zeroCells89.toList with
     | nil=>rw[hq] at hz;cases hz
     | cons z0 zs=>exact⟨z0,zs,rfl⟩
    rw[hzs] at hz ⊢;have hp:=qO3 (cs:=src) hs;have hd:zs.drop 128=[]:=List.drop_of_length_le (by simp at hz;omega);unfold qD3;rw[hp];simp[hd]
   rw[e]⟩
 rw[←hW2];clear hW2 hK1 hA1 hG1 hB1 c1 c3;have c1:=ξ hA2 1;have c3:=ξ hA2 3;simp at c1 c3;have f1:=ρ hA2 1;go_wp2_with fail;refine wp_region_any (by kernel_rfl) ?_;change wpAny _ _ _ _ _ _ _ (World.drew _);refine zu 0 (.pointer (some ⟨A,0,none⟩)) ?_;refine zu 1 (.pointer (some ⟨A,0,none⟩)) ?_;refine zu 2 (.pointer (some ⟨A,0,none⟩)) ?_;refine zu 3 (.pointer (some ⟨A,1,none⟩)) ?_;obtain⟨X,hX⟩:∃ X,X=(Value.int .i64 (i:Int)::(qA2 src bo 128).toList).toArray:=⟨_,rfl⟩;rw[←hX] at hG2;have hd2:W2.drew.heap[w.heap.size]?=some (.cells X 89):=hG2;have hlen:X.size=129:=by rw[hX];simp[qO3 hs]
 have hnew:(W2.drew.alloc (.cells (Value.agg X).cells 89)).heap[W2.heap.size]?=some (.cells X 89):=μ W2.drew _;have hone:∀ u∈(qA2 X 0 (1*129)).toList,u.oneCell'=true:=by
  have e:qA2 X 0 (1*129)=X:=by have:=qQ9 X;rw[hlen] at this;exact this
  rw[e,hX];intro u hu;simp at hu;rcases hu with rfl|hu
  ·rfl
  ·exact (qQ4 hby bo 128).one u (by simpa using hu)
 have HX:=zh hX;clear hX;have hA2s:=ζ hA2;have HK2:=zh hK2;have HO2:Hid ((W2.drew.alloc (.cells (Value.agg X).cells 89)).ownsRow base 89 129 v k xs):=qF8 HV.out ((hK2.drew).alloc _) (fun q hq c t fr e=>by rw[List.mem_singleton.1 hq,h] at e;cases e;decide);refine wpAny_ready (rs:=[4,5]) (by kernel_rfl) (by simp) ?_;refine AllReady.cons rfl (fun K hK=>?_) (AllReady.cons rfl (fun K hK=>?_) AllReady.nil)
 ·go_simp;refine hK _ _ ?_;clear hK K;refine zQ 5 fun K hK=>?_;refine qJ9 rfl (qK3 (t:=89) rfl (by kernel_rfl) 129 (by kernel_rfl) w.heap.size (by simp[Act.eval]) hd2 hlen) ?_;refine hK _ _ ?_;clear hK K;simp only[zZ];refine zQ 6 fun K hK=>?_;refine qJ9 rfl (qU3 rfl (.agg X) _ _ _ underlying70 qM8 (by simp[Act.eval]) (by simpa [Value.cells] using hlen) (by decide) (by decide)) ?_;refine hK _ _ ?_;clear hK K;simp only[zZ];refine zQ 7 fun K hK=>?_;refine qM4 rfl rfl (.agg zeroCells89) 129 136 underlying70 qM8 (by simp[Value.cells,qK1]) (by decide) base v k xs (by simp[Act.eval]) HO2.out W2.heap.size 0 1 1 X 89 (0,0) (by simp[Act.eval]) hnew (by omega) hone (by have:=HB.out;omega) (by have:=HB.out;omega) (by have:=HK2.out.size;have:=HB.out;simp;omega) ?_;intro v1 w1 hown1 hgr1 _;obtain⟨g1,cap1,rfl⟩:=qJ2 (n:=k) hown1;refine hK _ _ ?_;clear hK K;simp only[zZ];have hA3:w1.heap[A]?=some (χ κ n C v (nx calls) writes):=qP5 HO2.out hgr1 (θ _ hA2) (by decide);have HW3:Hid (Wr base A w w1):=((Wr.ofKp ((HK2.out.drew).alloc _) HB.out.1).grown HB.out.1 HO2.out hgr1);have HO3:Hid (w1.ownsRow base 89 129 (.slice (some ⟨g1,0,none⟩) (k+1) cap1) (k+1) (xs++X.toList)):=by
   have hz:qA2 X 0 (1*129)=X:=by have:=qQ9 X;rw[hlen] at this;exact this
   rw[hz] at hown1;exact hown1
  have hA3s:=ζ hA3;have d1:=ξ hA3 1;simp at d1;have e1:=ρ hA3 1;clear hown1 hgr1;refine zu 8 (.pointer (some ⟨A,0,none⟩)) ?_;refine zu 9 (.pointer (some ⟨A,1,none⟩)) ?_;refine zQ 10 fun K hK=>?_;go_simp;refine hK _ _ ?_;clear hK K;refine wpAny_done (by kernel_rfl) ?_ _;have d3:=ξ hA3 3;simp at d3;have e3:=ρ hA3 3;have hnw:wrap64 (writes+1)=nx writes:=rfl;go_wp2;go_ret;have hKs:Kp [A] w1 ((w1.setCell ⟨A,1,none⟩ (.slice (some ⟨g1,0,none⟩) (k+1) cap1)).setCell ⟨A,3,none⟩ (.int .i64 (nx writes))):=((Kp.refl _ _).sc _).sc _;refine⟨rfl,_,?_,ω (ω hA3 1 _) 3 _,HW3.out.trans (Wr.ofKp hKs (Nat.le_trans HB.out.1 HW3.out.size))⟩;have h:=HO3.out;rw[HX.out] at h;exact qF8 h hKs (fun q hq c t fr e=>by rw[List.mem_singleton.1 hq,hA3] at e;cases e;decide)
 ·refine qJ9 rfl (qK3 (t:=89) rfl (by kernel_rfl) 129 (by kernel_rfl) w.heap.size (by simp[Act.eval]) hd2 hlen) ?_;refine hK _ _ ?_;clear hK K;simp only[zZ];refine wpAny_ready (rs:=[4,6]) (by kernel_rfl) (by simp) ?_;refine AllReady.cons rfl (fun K hK=>?_) (AllReady.cons rfl (fun K hK=>?_) AllReady.nil)
  ·go_simp;refine hK _ _ ?_;clear hK K;refine zQ 6 fun K hK=>?_;refine qJ9 rfl (qU3 rfl (.agg X) _ _ _ underlying70 qM8 (by simp[Act.eval]) (by simpa [Value.cells] using hlen) (by decide) (by decide)) ?_;refine hK _ _ ?_;clear hK K;simp only[zZ];refine zQ 7 fun K hK=>?_;refine qM4 rfl rfl (.agg zeroCells89) 129 136 underlying70 qM8 (by simp[Value.cells,qK1]) (by decide) base v k xs (by simp[Act.eval]) HO2.out W2.heap.size 0 1 1 X 89 (0,0) (by simp[Act.eval]) hnew (by omega) hone (by have:=HB.out;omega) (by have:=HB.out;omega) (by have:=HK2.out.size;have:=HB.out;simp;omega) ?_;intro v1 w1 hown1 hgr1 _;obtain⟨g1,cap1,rfl⟩:=qJ2 (n:=k) hown1;refine hK _ _ ?_;clear hK K;simp only[zZ];have hA3:w1.heap[A]?=some (χ κ n C v (nx calls) writes):=qP5 HO2.out hgr1 (θ _ hA2) (by decide);have HW3:Hid (Wr base A w w1):=((Wr.ofKp ((HK2.out.drew).alloc _) HB.out.1).grown HB.out.1 HO2.out hgr1);have HO3:Hid (w1.ownsRow base 89 129 (.slice (some ⟨g1,0,none⟩) (k+1) cap1) (k+1) (xs++X.toList)):=by
    have hz:qA2 X 0 (1*129)=X:=by have:=qQ9 X;rw[hlen] at this;exact this
    rw[hz] at hown1;exact hown1
   have hA3s:=ζ hA3;have d1:=ξ hA3 1;simp at d1;have e1:=ρ hA3 1;clear hown1 hgr1;refine zu 8 (.pointer (some ⟨A,0,none⟩)) ?_;refine zu 9 (.pointer (some ⟨A,1,none⟩)) ?_;refine zQ 10 fun K hK=>?_;go_simp;refine hK _ _ ?_;clear hK K;refine wpAny_done (by kernel_rfl) ?_ _;have d3:=ξ hA3 3;simp at d3;have e3:=ρ hA3 3;have hnw:wrap64 (writes+1)=nx writes:=rfl;go_wp2;go_ret;have hKs:Kp [A] w1 ((w1.setCell ⟨A,1,none⟩ (.slice (some ⟨g1,0,none⟩) (k+1) cap1)).setCell ⟨A,3,none⟩ (.int .i64 (nx writes))):=((Kp.refl _ _).sc _).sc _;refine⟨rfl,_,?_,ω (ω hA3 1 _) 3 _,HW3.out.trans (Wr.ofKp hKs (Nat.le_trans HB.out.1 HW3.out.size))⟩;have h:=HO3.out;rw[HX.out] at h;exact qF8 h hKs (fun q hq c t fr e=>by rw[List.mem_singleton.1 hq,hA3] at e;cases e;decide)
  ·refine qJ9 rfl (qU3 rfl (.agg X) _ _ _ underlying70 qM8 (by simp[Act.eval]) (by simpa [Value.cells] using hlen) (by decide) (by decide)) ?_;refine hK _ _ ?_;clear hK K;simp only[zZ];refine zQ 4 fun K hK=>?_;go_simp;refine hK _ _ ?_;clear hK K;refine zQ 7 fun K hK=>?_;refine qM4 rfl rfl (.agg zeroCells89) 129 136 underlying70 qM8 (by simp[Value.cells,qK1]) (by decide) base v k xs (by simp[Act.eval]) HO2.out W2.heap.size 0 1 1 X 89 (0,0) (by simp[Act.eval]) hnew (by omega) hone (by have:=HB.out;omega) (by have:=HB.out;omega) (by have:=HK2.out.size;have:=HB.out;simp;omega) ?_;intro v1 w1 hown1 hgr1 _;obtain⟨g1,cap1,rfl⟩:=qJ2 (n:=k) hown1;refine hK _ _ ?_;clear hK K;simp only[zZ];have hA3:w1.heap[A]?=some (χ κ n C v (nx calls) writes):=qP5 HO2.out hgr1 (θ _ hA2) (by decide);have HW3:Hid (Wr base A w w1):=((Wr.ofKp ((HK2.out.drew).alloc _) HB.out.1).grown HB.out.1 HO2.out hgr1);have HO3:Hid (w1.ownsRow base 89 129 (.slice (some ⟨g1,0,none⟩) (k+1) cap1) (k+1) (xs++X.toList)):=by
    have hz:qA2 X 0 (1*129)=X:=by have:=qQ9 X;rw[hlen] at this;exact this
    rw[hz] at hown1;exact hown1
   have hA3s:=ζ hA3;have d1:=ξ hA3 1;simp at d1;have e1:=ρ hA3 1;clear hown1 hgr1;refine zu 8 (.pointer (some ⟨A,0,none⟩)) ?_;refine zu 9 (.pointer (some ⟨A,1,none⟩)) ?_;refine zQ 10 fun K hK=>?_;go_simp;refine hK _ _ ?_;clear hK K;refine wpAny_done (by kernel_rfl) ?_ _;have d3:=ξ hA3 3;simp at d3;have e3:=ρ hA3 3;have hnw:wrap64 (writes+1)=nx writes:=rfl;go_wp2;go_ret;have hKs:Kp [A] w1 ((w1.setCell ⟨A,1,none⟩ (.slice (some ⟨g1,0,none⟩) (k+1) cap1)).setCell ⟨A,3,none⟩ (.int .i64 (nx writes))):=((Kp.refl _ _).sc _).sc _;refine⟨rfl,_,?_,ω (ω hA3 1 _) 3 _,HW3.out.trans (Wr.ofKp hKs (Nat.le_trans HB.out.1 HW3.out.size))⟩;have h:=HO3.out;rw[HX.out] at h;exact qF8 h hKs (fun q hq c t fr e=>by rw[List.mem_singleton.1 hq,hA3] at e;cases e;decide)
variable {κ:Nat}
theorem xG7(l b:List UInt8)(i n:Nat)(hb:b.length=128)(hl:n*128≤l.length)(hi:i<n):(qC8 l i b).length=l.length:=by
 unfold qC8;simp only[List.length_append,List.length_take,List.length_drop];omega
theorem jG6(n:Nat)(ws:List (Nat × List UInt8)):∀ (l:List UInt8),n*128≤l.length→(∀ x∈ws,x.1<n∧x.2.length=128)→(laidAll l ws).length=l.length:=by
 induction ws with
 | nil=>intro l h _;rfl
 | cons a ws ih=>
  intro l h hw;have h1:=hw a (by simp);have h2:=xG7 l a.2 a.1 n h1.2 h h1.1;rw[←h2];exact ih _ (by rw[h2];exact h) (fun x hx=>hw x (by simp[hx]))
variable {κ:Nat}
theorem xG1(V A n C base:Nat)(v:Value)(ws:List (Nat × List UInt8))(calls writes:Int)(i:Nat)(bl:List UInt8)(w:World)(hV:w.heap[V]?=some (qB8 A n))(h:w.heap[A]?=some (χ κ n C v calls writes))
  (hv:w.ownsRow base 89 129 v ws.length (ws.flatMap wcs)) (hwl:ws.length≤100000) (hb:base≤w.heap.size)
  (hi:i<n) (hn:n≤1000) (hbl:bl.length=128) (hVA:V≠A):
  Calls prog 136 #[.pointer (some ⟨V,0,none⟩),.int .i64 i,.agg (enc bl)] w fun e w'=>e=.returned (.tuple #[])∧∃ v',w'.ownsRow base 89 129 v' (ws++[(i,bl)]).length ((ws++[(i,bl)]).flatMap wcs)∧
   w'.heap[A]?=some (χ κ n C v' (nx calls) (nx writes))∧Wr base A w w':=by
 have c0:=ξ hV 0;simp at c0;have hVs:=ζ hV;have hA:=ζ h;have hes:(enc bl).size=128:=by rw[qF2,hbl]
 have HV:=zh hv;clear hv;go_enter func136,ntmps136;go_wp2_with fail;obtain⟨W1,hW1,hK1,hA1,hB1,hV1⟩:∃ W1,W1=w.alloc (.cells (enc bl) 223)∧Kp [A] w W1∧W1.heap[A]?=some (χ κ n C v calls writes)∧W1.heap[w.heap.size]?=some (.cells (enc bl) 223)∧W1.heap[V]?=some (qB8 A n):=
  ⟨_,rfl,(Kp.refl _ _).alloc _,θ _ h,μ _ _,θ _ hV⟩
 rw[←hW1];clear hW1 c0;have c0:=ξ hV1 0;simp at c0;have hpp:qA2 (enc bl) 0 128=enc bl:=by rw[qL6,List.drop_zero,List.take_of_length_le (by omega)]
 have hm:∀ W:World,(method 445 23 (.pointer (some ⟨A,0,none⟩)) "Write").run prog W=.ok (251,.pointer (some ⟨A,0,none⟩)) W:=fun _=>by kernel_rfl
 have hKd:Kp [A] w W1.drew:=hK1.drew;have hs1:=hK1.size;have HO:Hid (W1.drew.ownsRow base 89 129 v ws.length (ws.flatMap wcs)):=qF8 HV.out hKd (fun q hq c t fr e=>by rw[List.mem_singleton.1 hq,h] at e;cases e;decide)
 go_region_with (go_at_call 251;go_must (refine (jU1 A n C v base ws.length (ws.flatMap wcs) calls writes i w.heap.size 0 128 (enc bl) 223 W1.drew hA1 hi hn hB1 (by omega) (qH3 bl) (by omega) HO.out (by show base≤W1.heap.size;omega) hwl).mono ?_);rintro e w2 ⟨rfl,v',hown,hA2,hW2⟩)
 go_wp2
 go_end0
 refine⟨rfl,v',?_,hA2,(Wr.ofKp hKd hb).trans hW2⟩;rw[hpp] at hown;rw[List.length_append,List.flatMap_append];have e:List.flatMap wcs [(i,bl)]=.int .i64 (i:Int)::(enc bl).toList:=by simp[wcs,enc]
 rw[e];exact hown
variable {κ:Nat}
theorem Wr.tail{base A:Nat}{a w w':World}{S:List Nat}(h:Wr base A a w)(hK:Kp S w w')(hS:∀ k∈S,a.heap.size≤k)(hb:base≤a.heap.size):Wr base A a w':=
 ⟨hK.os.trans h.os,hK.tape.trans h.tape,hK.output.trans h.output,Nat.le_trans h.size hK.size,fun k h1 h2=>(hK.block k (by have:=h.size;omega) (fun hm=>by have:=hS k hm;omega)).trans (h.low k h1 h2),fun k c t fr e h1 h2=>hK.heap (h.oth k c t fr e h1 h2) (fun hm=>by have:=hS k hm;have:=ζ e;omega)⟩
theorem jK4(V A n C base:Nat)(v:Value)(ws:List (Nat × List UInt8))(calls writes:Int)(i:Nat)(q:Nat)(lv:Int)(vp vl:Value)(ps:List KV)(hs:List HL)(w:World)
  (hq:w.heap[q]?=some (υ lv vp vl)) (hl0:0≤lv) (hl1:lv<256)
  (hsp:Slc w 158 2 vp ps.length (qA9 ps)) (hsl:Slc w 81 4 vl hs.length (qA5 hs)) (hm:2+meas ν ps+meas ψ hs≤128) (hc:ps.length+hs.length≤255)
  (hzp:∀ p∈ps,qC3 p) (hzl:∀ p∈hs,p.key.size≤8∧0≤p.b∧p.b≤1000000∧0≤p.s)
  (hV:w.heap[V]?=some (qB8 A n)) (h:w.heap[A]?=some (χ κ n C v calls writes))
  (hv:w.ownsRow base 89 129 v ws.length (ws.flatMap wcs)) (hwl:ws.length≤100000) (hb:base≤w.heap.size) (hi:i<n) (hn:n≤1000) (hVA:V≠A):
  Calls prog 149 #[.pointer (some ⟨q,0,none⟩),.pointer (some ⟨V,0,none⟩),.int .i64 i] w fun e w'=>e=.returned (.agg #[.int .i64 i,.int .u64 (fnv (qA1 lv ps hs))])∧
   ∃ v',w'.ownsRow base 89 129 v' (ws++[(i,toB (qA1 lv ps hs))]).length ((ws++[(i,toB (qA1 lv ps hs))]).flatMap wcs)∧
   w'.heap[A]?=some (χ κ n C v' (nx calls) (nx writes))∧Wr base A w w':=by
 have hby:=qH0 lv ps hs hl0 hl1 hc hzp (fun p hp=>(hzl p hp).1);have hbl:=qO8 lv ps hs hm;have HBLK:Hid (∀ W,Kp [] w W→Calls prog 182 #[.pointer (some ⟨q,0,none⟩)] W fun e w'=>e=.returned (.agg (u8s (qA1 lv ps hs)).toArray)∧Kp [] W w'):=fun W hK=>
  qW7 q lv vp vl ps hs W (hK.hp hq) hl0 hl1 (hsp.keep0 hK) (hsl.keep0 hK) hm hc hzp hzl
 obtain⟨xs,hxs⟩:∃ xs,xs=qA1 lv ps hs:=⟨_,rfl⟩;rw[←hxs] at hby hbl HBLK;have HG:=zh hxs;rw[←hxs];have HBY:=zh hby;have HV:=zh hv;have hAlt:=ζ h;have hVlt:=ζ hV;clear hq hsp hsl hm hc hzp hzl hby hv hl0 hl1 hxs;have hes:(u8s xs).toArray=enc (toB xs):=by unfold enc;rw[zS5 xs HBY.out]
 rw[hes] at HBLK;clear hes;go_enter func149,ntmps149;go_wp2_with fail;obtain⟨w0,hw0,hR0,hK0,hs0⟩:=qE8 w (.cells #[.int .i64 0,.int .u64 0] 78);rw[←hw0];clear hw0;refine (HBLK.out w0 hK0).mono ?_;rintro e w1 ⟨rfl,hK1⟩;have hKw1:Kp [] w w1:=hK0.tr hK1;have hR1:=hK1.hp hR0;have hs1:=hK1.size;clear hK1 hR0 hK0 HBLK;have hles:(enc (toB xs)).size=128:=by rw[qF2,qH1,hbl]
 go_wp2_with fail;have hN:=μ w1 (.cells zeroCells223 223);rw[qM0 hN (by simp[qH9,hles]) (qH3 _).one];rw[show (enc (toB xs)).toList.toArray=enc (toB xs) from by simp,qJ6 (by rw[qH9,hles])];obtain⟨w2,hw2,hB2,hR2,hKw2,hs2⟩:∃ w2,w2=(w1.alloc (.cells zeroCells223 223)).setRow w1.heap.size (enc (toB xs))∧w2.heap[w1.heap.size]?=some (.cells (enc (toB xs)) 223)∧w2.heap[w.heap.size]?=some (.cells #[.int .i64 0,.int .u64 0] 78)∧Kp [] w w2∧w2.heap.size=w1.heap.size+1:=
  ⟨_,rfl,setRow_heap _ _ _ _ _ _ hN,(setRow_other _ _ _ _ (by omega)).trans (θ _ hR1),(hKw1.alloc _).setRow (Or.inr (by have:=hKw1.size;omega)) _,by simp⟩
 rw[←hw2];clear hw2 hN hR1;have hpp:qA2 (enc (toB xs)) 0 128=enc (toB xs):=by rw[qL6,List.drop_zero,List.take_of_length_le (by rw[qH1];omega)]
 go_wp2_with (
  with_reducible refine qQ1 (t:=223) ?_ 128 ?_ w1.heap.size 0 ?_ (enc (toB xs)) 223 (0,0) ?_ ?_ ?_
  ·kernel_rfl
  ·kernel_rfl
  ·rfl
  ·exact hB2
  ·omega)
 have hV2:=hKw2.hp hV;have hA2:=hKw2.hp h;refine (xG1 V A n C base v ws calls writes i (toB xs) w2 hV2 hA2 (qF8 HV.out hKw2 (Apt.nil _ _)) hwl (by have:=hKw2.size;omega) hi hn (by rw[qH1,hbl]) hVA).mono ?_;rintro e w3 ⟨rfl,v',hown3,hA3,hW3⟩;have hAw:w2.heap.size=w1.heap.size+1:=hs2;have hB3:=hW3.oth _ _ _ _ hB2 (by decide) (by omega);have hR3:=hW3.oth _ _ _ _ hR2 (by decide) (by omega);have HO3:=zh hown3;have HA3:=zh hA3;have HW3:Hid (Wr base A w w3):=(Wr.ofKp (hKw2.mono (by simp)) hb).trans hW3;have hR3s:=ζ hR3;have hB3s:=ζ hB3;clear hown3 hA3 hW3 hB2 hR2 hV2 hA2 hpp hKw2 hKw1 hV h;go_wp2_with fail;refine (qY5 w1.heap.size 0 128 128 xs w3 hbl (by omega) (fun j hj=>?_)).mono ?_
 ·rw[ξ hB3];unfold enc;rw[←qV8 xs HBY.out];simp only[Nat.zero_add,zG,u8s,List.getElem?_map,List.getD];rw[List.getElem?_eq_getElem (by omega)];rfl
 rintro e w4 ⟨rfl,rfl⟩;have r0:=ξ hR3;have fr0:=ρ hR3;have HR3:=zh hR3;clear hR3 hB3;go_wp2;have hK5:Kp [w.heap.size] w4 ((w4.setCell ⟨w.heap.size,0,none⟩ (.int .i64 (i:Int))).setCell ⟨w.heap.size,1,none⟩ (.int .u64 (fnv xs))):=((Kp.refl _ _).sc _).sc _;have hR5:=ω (ω HR3.out 0 (.int .i64 (i:Int))) 1 (.int .u64 (fnv xs));refine bodyPost_ret (results_cell_row results149 _ _ w.heap.size 78 #[.int .i64 (i:Int),.int .u64 (fnv xs)] (0,0) _ rfl hR5 underlying78 rfl (by kernel_rfl)) rfl ⟨rfl,v',?_,hK5.ho HA3.out,HW3.out.tail hK5 (by simp) hb⟩;exact qF8 HO3.out hK5 (fun q hq c t fr e=>by rw[List.mem_singleton.1 hq,HR3.out] at e;cases e;decide)
theorem zB6(s x:Int)(h0:0≤s)(h1:s<18446744073709551616)(h2:0≤x)(h3:x<256):qI8 s x=(((s.toNat ^^^ x.toNat:Nat):Int)*1099511628211) % 18446744073709551616:=by
 unfold qI8;rw[IntKind.wrap_u64,IntKind.wrap_u64,show x % 18446744073709551616=x by omega,u64_xor s x h0 h1 h2 (by omega)]
theorem zZ4(a:Nat)(ha:a<18446744073709551616):((a:Int)*1099511628211) % 18446744073709551616*14886173955864302971 % 18446744073709551616=(a:Int):=by
 rw[Int.mul_emod,Int.emod_emod,←Int.mul_emod,Int.mul_assoc,show (1099511628211:Int)*14886173955864302971=1+18446744073709551616*887285111055 from by decide,Int.mul_add,Int.mul_one,Int.mul_left_comm,Int.add_mul_emod_self_left];exact Int.emod_eq_of_lt (by omega) (by omega)
theorem zZ5(a b:Nat)(ha:a<18446744073709551616)(hb:b<18446744073709551616)(h:((a:Int)*1099511628211) % 18446744073709551616=((b:Int)*1099511628211) % 18446744073709551616):a=b:=by
 have h1:=zZ4 a ha;rw[h,zZ4 b hb] at h1;exact (Int.ofNat_inj.1 h1).symm
theorem zE9(a b:Nat)(ha:a<18446744073709551616)(hb:b<18446744073709551616):a ^^^ b<18446744073709551616:=by
 have:=Nat.xor_lt_two_pow (n:=64) (x:=a) (y:=b) (by simpa using ha) (by simpa using hb);simpa using this
theorem xJ2{a b c:Nat}(h:a ^^^ b=a ^^^ c):b=c:=by
 have:=congrArg (a ^^^ ·) h;simpa [←Nat.xor_assoc] using this
theorem jU4{a b c:Nat}(h:b ^^^ a=c ^^^ a):b=c:=xJ2 (a:=a) (by rw[Nat.xor_comm a b,Nat.xor_comm a c];exact h)
theorem xY1{s s' x:Int}(h0:0≤s)(h1:s<18446744073709551616)(g0:0≤s')(g1:s'<18446744073709551616)(h2:0≤x)(h3:x<256)(h:qI8 s x=qI8 s' x):s=s':=by
 rw[zB6 s x h0 h1 h2 h3,zB6 s' x g0 g1 h2 h3] at h;have e:=jU4 (zZ5 _ _ (zE9 _ _ (by omega) (by omega)) (zE9 _ _ (by omega) (by omega)) h);omega
theorem xY2{s x y:Int}(h0:0≤s)(h1:s<18446744073709551616)(h2:0≤x)(h3:x<256)(g2:0≤y)(g3:y<256)(h:qI8 s x=qI8 s y):x=y:=by
 rw[zB6 s x h0 h1 h2 h3,zB6 s y h0 h1 g2 g3] at h;have e:=xJ2 (zZ5 _ _ (zE9 _ _ (by omega) (by omega)) (zE9 _ _ (by omega) (by omega)) h);omega
theorem zB7(s x:Int):0≤qI8 s x:=by
 unfold qI8;rw[IntKind.wrap_u64];omega
theorem zU2:∀ (xs:List Int) {s s':Int},0≤s→s<18446744073709551616→0≤s'→s'<18446744073709551616→(∀ x∈xs,0≤x∧x<256)→xs.foldl qI8 s=xs.foldl qI8 s'→s=s'
 | [],s,s',_,_,_,_,_,h=>h
 | x::xs,s,s',h0,h1,g0,g1,hx,h=>by
  have hx0:=hx x (by simp);exact xY1 h0 h1 g0 g1 hx0.1 hx0.2 (zU2 xs (zB7 _ _) (qX1 _ _) (zB7 _ _) (qX1 _ _) (fun y hy=>hx y (by simp[hy])) h)
theorem xY3(a b:List Int)(x y:Int)(hxy:x≠y)(ha:∀ z∈a,0≤z∧z<256)(hb:∀ z∈b,0≤z∧z<256)(hx:0≤x∧x<256)(hy:0≤y∧y<256):fnv (a++x::b)≠fnv (a++y::b):=by
 intro h;unfold fnv at h;rw[List.foldl_append,List.foldl_append,List.foldl_cons,List.foldl_cons] at h;have h0:0≤a.foldl qI8 14695981039346656037:=qQ5 a;have h1:a.foldl qI8 14695981039346656037<18446744073709551616:=qX2 a;exact hxy (xY2 h0 h1 hx.1 hx.2 hy.1 hy.2 (zU2 b (zB7 _ _) (qX1 _ _) (zB7 _ _) (qX1 _ _) hb h))
def One(p q:List UInt8):Prop:=p=q∨∃ a x y b,x≠y∧p=a++x::b∧q=a++y::b
theorem One.sum{p q:List UInt8}(h:One p q)(e:fnv (qD2 p)=fnv (qD2 q)):p=q:=by
 rcases h with h|⟨a,x,y,b,hxy,rfl,rfl⟩
 ·exact h
 ·refine absurd e ?_;have hx:=x.toNat_lt;have hy:=y.toNat_lt;have e1:∀ z:UInt8,qD2 (a++z::b)=qD2 a++((z.toNat:Nat):Int)::qD2 b:=fun z=>by simp[qD2]
  rw[e1,e1];exact xY3 _ _ _ _ (fun h=>hxy (UInt8.toNat_inj.1 (by omega))) (zA3 a) (zA3 b) (by omega) (by omega)
theorem One.take{p q:List UInt8}(h:One p q)(k:Nat):One (p.take k) (q.take k):=by
 rcases h with rfl|⟨a,x,y,b,hxy,rfl,rfl⟩
 ·exact .inl rfl
 ·by_cases hk:k≤a.length
  ·exact .inl (by rw[List.take_append_of_le_length hk,List.take_append_of_le_length hk])
  ·obtain⟨j,rfl⟩:∃ j,k=a.length+(j+1):=⟨k-a.length-1,by omega⟩;exact .inr ⟨a,x,y,b.take j,hxy,by rw[List.take_length_add_append,List.take_succ_cons],by rw[List.take_length_add_append,List.take_succ_cons]⟩
theorem One.drop{p q:List UInt8}(h:One p q)(k:Nat):One (p.drop k) (q.drop k):=by
 rcases h with rfl|⟨a,x,y,b,hxy,rfl,rfl⟩
 ·exact .inl rfl
 ·by_cases hk:k≤a.length
  ·exact .inr ⟨a.drop k,x,y,b,hxy,by rw[List.drop_append_of_le_length hk],by rw[List.drop_append_of_le_length hk]⟩
  ·obtain⟨j,rfl⟩:∃ j,k=a.length+(j+1):=⟨k-a.length-1,by omega⟩;exact .inl (by rw[List.drop_append,List.drop_append];simp[show a.length+(j+1)-a.length=j+1 by omega])
theorem One.cut{p q:List UInt8}(h:One p q)(k:Nat):p.take k=q.take k∨p.drop k=q.drop k:=by
 rcases h with rfl|⟨a,x,y,b,hxy,rfl,rfl⟩
 ·exact .inl rfl
 ·by_cases hk:k≤a.length
  ·exact .inl (by rw[List.take_append_of_le_length hk,List.take_append_of_le_length hk])
  ·obtain⟨j,rfl⟩:∃ j,k=a.length+(j+1):=⟨k-a.length-1,by omega⟩;exact .inr (by rw[List.drop_append,List.drop_append];simp[show a.length+(j+1)-a.length=j+1 by omega])
variable {κ:Nat}
theorem jL6(l:List UInt8)(i:Nat)(v:UInt8):One l (l.set i v):=by
 by_cases h:i<l.length
 ·by_cases e:l[i]=v
  ·left;rw[←e,List.set_getElem_self]
  ·right;refine⟨l.take i,l[i],v,l.drop (i+1),e,?_,?_⟩
   ·rw[←List.drop_eq_getElem_cons h,List.take_append_drop]
   ·rw[List.set_eq_take_append_cons_drop,if_pos h]
 ·left;rw[List.set_eq_of_length_le (by omega)]
theorem jL4(l:List UInt8)(i k:Nat)(v:UInt8):One (ι l k) (ι (l.set i v) k):=by
 unfold ι;exact ((jL6 l i v).drop _).take _
theorem jR7(A N C:Nat)(calls writes bit:Int)(l:List UInt8)(w:World)(h:w.heap[A]?=some (χ κ N C (.slice none 0 0) calls writes))(hN:1≤N)(hN4:N≤1000)(hC:w.heap[C]?=some (.cells (enc l) 87))(hl:N*128≤l.length)(hb0:-9223372036854775808≤bit)(hb1:bit≤9223372036854775807):
  Calls prog 31 #[.pointer (some ⟨A,0,none⟩),.int .i64 bit] w fun e w'=>∃ A' C' l',e=.returned (.pointer (some ⟨A',0,none⟩))∧w.heap.size≤A'∧w.heap.size≤C'∧C'≠A'∧w'.heap[A']?=some (χ (l'.length / 128) N C' (.slice none 0 0) 0 0)∧w'.heap[C']?=some (.cells (enc l') 87)∧N*128≤l'.length∧(∀ k,k<N→One (ι l k) (ι l' k))∧Kp [] w w':=by
 have HAF:Hid (Calls prog 15 #[.pointer (some ⟨A,0,none⟩),.slice none 0 0] w fun e w'=>∃ A' C' z,e=.returned (.pointer (some ⟨A',0,none⟩))∧w.heap.size≤A'∧w.heap.size≤C'∧C'≠A'∧w'.heap[A']?=some (χ ((pad l N z).length / 128) N C' (.slice none 0 0) 0 0)∧w'.heap[C']?=some (.cells (enc (pad l N z)) 87)∧Kp [] w w'):=xM1 A N C calls writes l none 0 0 w h hN hN4 hC hl;have HL:=zh hl;clear h hC hl;obtain⟨m,hm⟩:∃ m:Int,m=(N:Int)*128*8:=⟨_,rfl⟩;have hm0:(0:Int)<(N:Int)*128*8:=by omega
 have ht1:=Int.tmod_lt_of_pos bit hm0;have ht2:=Int.lt_tmod_of_pos bit hm0;obtain⟨y,hy,hylt⟩:∃ y:Nat,(wrap64 (bit.tmod ((N:Int)*128*8)+(N:Int)*128*8)).tmod ((N:Int)*128*8)=(y:Int)∧y<N*1024:=by
  have hw:wrap64 (bit.tmod ((N:Int)*128*8)+(N:Int)*128*8)=bit.tmod ((N:Int)*128*8)+(N:Int)*128*8:=by simp only[wrap64];omega
  rw[hw];have h1:=Int.tmod_nonneg ((N:Int)*128*8) (a:=bit.tmod ((N:Int)*128*8)+(N:Int)*128*8) (by omega);have h2:=Int.tmod_lt_of_pos (bit.tmod ((N:Int)*128*8)+(N:Int)*128*8) hm0;exact⟨_,(Int.toNat_of_nonneg h1).symm,by omega⟩
 have HY:=zh hy;clear hy ht1 ht2 hm m hb0 hb1;go_enter func31,ntmps31;go_wp2_with fail;refine (show Calls _ _ _ _ _ from HAF.out).mono ?_;rintro e w1 ⟨A1,C1,z,rfl,gA,gC,hne,hA1,hC1,hK1⟩;have hA1s:=ζ hA1;have a0:=ξ hA1 0;simp only[χ,zG,zH,zI] at a0;have HA1:=Hid.mk' hA1;have HC1:=Hid.mk' hC1;have HPL:Hid ((pad l N z).length=(N+z)*128):=xE6 HL.out;clear hA1 HAF hC1;go_wp2_with fail;rw[HY.out];clear HY a0;obtain⟨lp,hlp⟩:∃ lp,lp=pad l N z:=⟨_,rfl⟩;have HLP:=zh hlp;rw[←hlp] at HA1 HC1 HPL ⊢;clear hlp;obtain⟨cp,hcp⟩:∃ cp,cp=lp.length / 128:=⟨_,rfl⟩;have HCP:=zh hcp;rw[←hcp] at HA1 ⊢;clear hcp;obtain⟨y8,hy8⟩:∃ y8:Nat,y8=y / 8:=⟨_,rfl⟩;obtain⟨b,hb⟩:∃ b:Nat,b=y8 / 128:=⟨_,rfl⟩;obtain⟨o,ho⟩:∃ o:Nat,o=y8 % 128:=⟨_,rfl⟩;obtain⟨kx,hkx⟩:∃ kx:Nat,kx=y % 8:=⟨_,rfl⟩;have f1:(y:Int).tdiv 8=(y8:Int):=by rw[Int.tdiv_eq_ediv_of_nonneg (by omega)];omega
 have f2:(y8:Int).tdiv 128=(b:Int):=by rw[Int.tdiv_eq_ediv_of_nonneg (by omega)];omega
 have f3:(y8:Int).tmod 128=(o:Int):=by rw[Int.tmod_eq_emod_of_nonneg (by omega)];omega
 have f4:(y:Int).tmod 8=(kx:Int):=by rw[Int.tmod_eq_emod_of_nonneg (by omega)];omega
 have hw8:IntKind.i64.wrap (y8:Int)=(y8:Int):=by rw[IntKind.wrap_i64];omega
 have hwb:IntKind.i64.wrap (b:Int)=(b:Int):=by rw[IntKind.wrap_i64];omega
 have hbN:(b:Int)<(N:Int):=by omega
 have ho8:(o:Int)<128:=by omega
 have hk8:(kx:Int)<8:=by omega
 have hidx:b*128+o<lp.length:=by have:=HPL.out;omega
 obtain⟨x,hx⟩:∃ x,lp[b*128+o]?=some x:=⟨_,List.getElem?_eq_getElem hidx⟩;have HX:=zh hx;clear hy8 hb ho hkx hx hidx hylt;obtain⟨sh,hsh⟩:∃ sh:Int,IntKind.u8.wrap (2 ^ kx)=sh:=⟨_,rfl⟩;have hshb:0≤sh∧sh<256:=by rw[←hsh,IntKind.wrap_u8];omega
 have hxb:=x.toNat_lt;obtain⟨v,hv⟩:∃ v:UInt8,bits BinOp.xor .u8 ((x.toNat:Nat):Int) sh=((v.toNat:Nat):Int):=by
  refine⟨UInt8.ofNat (x.toNat ^^^ sh.toNat),?_⟩;have h1:=Nat.xor_lt_two_pow (n:=8) (x:=x.toNat) (y:=sh.toNat) (by simpa using hxb) (by simp;omega);rw[u8_xor _ _ (by omega) (by omega) hshb.1 hshb.2,UInt8.toNat_ofNat',Int.toNat_natCast];omega
 clear hshb hxb;have hSd:w1.drew.heap[A1]?=some (χ cp N C1 (.slice none 0 0) 0 0):=HA1.out;refine wp_region_held_drew (S:=fun W=>W.heap[A1]?=some (χ cp N C1 (.slice none 0 0) 0 0)) (by kernel_rfl) hSd (fun _=>?_);refine zP 0 A1 0 hSd ?_;refine zV 1 (.pointer (some ⟨A1,0,none⟩)) rfl (fun W hS=>by have c:=ζ hS;clear hS;go_simp) hSd ?_;refine zP 2 A1 0 hSd ?_;refine zV 3 (.slice (some ⟨C1,0,none⟩) N cp) rfl (fun W hS=>by have a:=ξ hS 0;simp only[χ,zG,zH,zI] at a;clear hS;go_simp) hSd ?_;refine zU 4 (.int .i64 (y:Int)) hSd ?_;refine zU 5 (.int .i64 (y8:Int)) hSd ?_;refine zU 6 (.int .i64 (b:Int)) hSd ?_;refine zU 7 (.int .i64 (y:Int)) hSd ?_;refine zU 8 (.int .i64 (y8:Int)) hSd ?_;refine zU 9 (.int .i64 (o:Int)) hSd ?_;refine zU 10 (.pointer (some ⟨C1,b*128,none⟩)) hSd ?_;refine zU 11 (.pointer (some ⟨C1,b*128+o,none⟩)) hSd ?_;refine zU 13 (.int .i64 (y:Int)) hSd ?_;refine zU 14 (.int .i64 (kx:Int)) hSd ?_;refine zU 15 (.int .u8 sh) hSd ?_;refine zU 17 (.pointer (some ⟨C1,b*128,none⟩)) hSd ?_;refine zq 12 fun K hK=>?_;have a12:=qZ0 (w:=w1.drew) HC1.out HX.out;go_simp;refine hK.out _ _ hSd (fun _=>?_);clear hK K a12
 try simp only[zZ]
 refine zU 16 (.int .u8 ((v.toNat:Nat):Int)) hSd ?_;refine zU 18 (.pointer (some ⟨C1,b*128+o,none⟩)) hSd ?_;refine zq 19 fun K hK=>?_;have a19:=qZ0 (w:=w1.drew) HC1.out HX.out;have f19:=ρ (show w1.drew.heap[C1]?=some (.cells (enc lp) 87) from HC1.out) (b*128+o);have c19:=ζ HC1.out;go_simp;have hset:(w1.drew.setCell ⟨C1,b*128+o,none⟩ (.int .u8 ((v.toNat:Nat):Int))).heap[C1]?=some (.cells (enc (lp.set (b*128+o) v)) 87):=by
  rw[←xK0];exact ω HC1.out _ _
 have hoth:(w1.drew.setCell ⟨C1,b*128+o,none⟩ (.int .u8 ((v.toNat:Nat):Int))).heap[A1]?=some (χ cp N C1 (.slice none 0 0) 0 0):=(qA7 (fun e=>hne e.symm) _ _).trans HA1.out;have hKw:Kp [] w (w1.drew.setCell ⟨C1,b*128+o,none⟩ (.int .u8 ((v.toNat:Nat):Int))):=hK1.drew.setCell (Or.inr gC) _;refine hK.out _ _ hoth (fun _=>?_);clear hK K a19 f19 c19;refine zd ?_
 try simp only[zZ]
 have HE:=Hid.mk' (And.intro hset (And.intro hoth hKw));clear hset hoth hKw;go_wp2;go_ret;have hlen:(lp.set (b*128+o) v).length=lp.length:=List.length_set;refine⟨A1,C1,lp.set (b*128+o) v,rfl,gA,gC,hne,by rw[hlen,←HCP.out];exact HE.out.2.1,HE.out.1,by rw[hlen,HPL.out];omega,fun k hk=>?_,HE.out.2.2⟩;have h1:=jL4 lp (b*128+o) k v;have h2:ι lp k=ι l k:=by rw[HLP.out];exact jM4 HL.out hk
 rw[h2] at h1;exact h1
end Go.Proofs.YtdohpenfkdckiabGreatDoor
