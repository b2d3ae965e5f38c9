import Derived.Test.YtdohpenfkdckiabGreatDoorP08
set_option linter.all false
set_option maxRecDepth 100000
set_option maxHeartbeats 20000000
namespace Go.Proofs.YtdohpenfkdckiabGreatDoor
open Go.Proofs.Tryz
open Go.RowKit
theorem jY6(E:Env)(r h:HL)(l:Lnk (Tn 0))(q:Nat)(k:ByteArray)(w:World)(hd:E.Dev w)(hkey:h.key=l.key)(hN:RN E.O 0 w q l.sub)(hg:Good 0 l.key l.sub)(hqk:∃ q∈cont 0 l.sub,q.k=k):
  Calls prog 92 #[τ E.V r,qC2 h,.pointer (some ⟨q,0,none⟩),.string k] w fun e w'=>∃ v',e=.returned v'∧RLs E.O 0 w' v' (qD1 0 l k)∧E.To w w':=by
 have hcl:(prs l.sub).length≤10000:=qJ9 0 l.key l.sub hg;have hso:Sorted (prs l.sub):=hg.sorted;have hat:=(zH3 hso k).2 hqk;have hil:qC3 (prs l.sub) k<(prs l.sub).length:=by
  unfold qG0 at hat;by_cases h:qC3 (prs l.sub) k<(prs l.sub).length
  ·exact h
  ·rw[List.getElem?_eq_none (by omega)] at hat;cases hat
 obtain⟨ps',hps'⟩:∃ ps',(prs l.sub).take (qC3 (prs l.sub) k)++[]++(prs l.sub).drop (qC3 (prs l.sub) k+1)=ps':=⟨_,rfl⟩;have hdel:ps'=del k (prs l.sub):=by rw[←hps',List.append_nil];exact (zT8 hso hat).symm
 have hfit:meas ρ ps'≤210:=by
  have h1:=qQ3 ρ (prs l.sub) (qC3 (prs l.sub) k);have h2:=qQ3 ρ ((prs l.sub).drop (qC3 (prs l.sub) k)) 1;have h3:meas ρ (prs l.sub)≤126:=hg.fits;rw[List.drop_drop] at h2;rw[←hps',qG8,qG8,qE2];omega
 have hsz:∀ q∈ps',ρ q≤21:=by
  intro q hq;rw[hdel] at hq;obtain⟨⟨h1,h2,h3⟩,_⟩:=hg.all q (qX3.1 hq).1;unfold ρ;omega
 have hwo:qD1 0 l k=qE7 l.key ps':=by rw[←hps',List.append_nil];rfl
 have HKEY:=zh hkey;have HD:=zh hd;have HFIT:Hid (meas ρ ps'≤210∧∀ q∈ps',ρ q≤21):=⟨hfit,hsz⟩;have HWO:=zh hwo;have HPS:=zh hps';obtain⟨vp,hq,hsl⟩:=hN;have hqs:=ζ hq;have hqs1:q<w.heap.size+1:=by omega
 have hqs2:q<w.heap.size+1+1:=by omega
 have q0:=ξ hq 0;simp only[υ,zG,zH,zI] at q0;clear hd hkey hfit hsz hwo hdel hps' hat hqk;rw[τ,qC2];go_enter func92,ntmps92;go_wp2_with fail;obtain⟨w1,hw1,hT1b,hL1,hK1,hs1⟩:∃ w1,w1=(w.alloc (.cells #[.pointer (some ⟨E.V,0,none⟩),.string r.key,.int .i64 r.b,.int .u64 r.s,.pointer r.ptr] 83)).alloc (.cells #[.string h.key,.int .i64 h.b,.int .u64 h.s,.pointer h.ptr] 81)∧w1.heap[w.heap.size]?=some (.cells #[.pointer (some ⟨E.V,0,none⟩),.string r.key,.int .i64 r.b,.int .u64 r.s,.pointer r.ptr] 83)∧w1.heap[w.heap.size+1]?=some (.cells #[.string h.key,.int .i64 h.b,.int .u64 h.s,.pointer h.ptr] 81)∧Kp [] w w1∧w1.heap.size=w.heap.size+2:=by
  refine⟨_,rfl,θ _ (μ _ _),?_,((Kp.refl _ _).alloc _).alloc _,by simp⟩;have e:=μ (w.alloc (.cells #[.pointer (some ⟨E.V,0,none⟩),.string r.key,.int .i64 r.b,.int .u64 r.s,.pointer r.ptr] 83)) (.cells #[.string h.key,.int .i64 h.b,.int .u64 h.s,.pointer h.ptr] 81);simpa using e
 rw[←hw1];clear hw1 hT1b hs1 q0 hqs hqs1 hqs2;have hT1':=Env.To.of0 HD.out hK1;have hq1:=hK1.hp hq;have hsl1:=hsl.keep0 hK1;clear hq hsl;refine (zD4 q 0 vp _ (prs l.sub) k w1 hq1 hsl1 (by omega) hso).mono ?_;rintro e w2 ⟨rfl,hK2⟩;have hT2:=hT1'.tail hK2;have hq2:=hK2.hp hq1;have hs2:=hsl1.keep0 hK2;have hL2:=hK2.hp hL1;clear hK2 hq1 hsl1 hL1 hT1' hK1;obtain⟨bs,cp,hv⟩:∃ bs cp,vp=.slice bs (prs l.sub).length cp:=by
  rcases hs2.val with⟨h0,b,c,h1,_⟩|⟨g,off,cap,cur,fr,h1,_⟩
  ·rw[h0];exact⟨b,c,h1⟩
  ·exact⟨_,cap,h1⟩
 subst hv;obtain⟨i,hi0⟩:∃ i,qC3 (prs l.sub) k=i:=⟨_,rfl⟩;rw[hi0] at hil HPS ⊢;clear hi0;go_wp2_with fail;obtain⟨j,hj⟩:∃ j,j=i+1:=⟨_,rfl⟩;have hwr:IntKind.i64.wrap ((i:Int)+1)=(j:Int):=by rw[IntKind.wrap_i64];omega
 have HJ:=zh hj;clear hj;have hS0:w2.heap[q]?=some (υ 0 (.slice bs (prs l.sub).length cp) (.slice none 0 0))∧w2.heap[w.heap.size+1]?=some (.cells #[.string h.key,.int .i64 h.b,.int .u64 h.s,.pointer h.ptr] 81):=⟨hq2,hL2⟩;refine wp_region_held_drew (S:=fun W=>W.heap[q]?=some (υ 0 (.slice bs (prs l.sub).length cp) (.slice none 0 0))∧W.heap[w.heap.size+1]?=some (.cells #[.string h.key,.int .i64 h.b,.int .u64 h.s,.pointer h.ptr] 81)) (by kernel_rfl) hS0 (fun _=>?_);refine zU 0 (.pointer (some ⟨w.heap.size+1,0,none⟩)) hS0 ?_;refine zV 1 (.string h.key) rfl (fun W hS=>by have c:=ξ hS.2 0;simp at c;clear hS;go_simp) hS0 ?_;refine zP 2 q 0 hS0 ?_;refine zP 3 q 0 hS0 ?_;refine zP 4 q 1 hS0 ?_;refine zV 5 (.slice bs (prs l.sub).length cp) rfl (fun W hS=>by have c:=ξ hS.1 1;simp[υ] at c;clear hS;go_simp) hS0 ?_;refine zU 6 (.int .i64 i) hS0 ?_;refine zU 7 (.int .i64 i) hS0 ?_;refine zU 8 (.int .i64 j) hS0 ?_;refine zq 9 fun K hK=>?_;go_simp;have hTd:E.To w w2.drew:=hT2.tail ((Kp.refl _ _).drew);have hsb:Slc w2.drew 158 2 (.slice none 0 0) ([]:List KV).length (qB0 []):=⟨rfl,.inl ⟨rfl,_,_,rfl,fun _=>rfl⟩⟩;have hj1:=HJ.out;refine (zL5 _ _ (prs l.sub) [] i j w2.drew (hs2.keep0 ((Kp.refl [] _).drew)) hsb (by omega) (by omega) (by omega) hcl (by simp)).mono ?_;rintro e w4 ⟨v4,rfl,hs4,hK4⟩;rw[hj1,HPS.out] at hs4;clear hj1;have hT4:=hTd.tail hK4;have hS4:=And.intro (hK4.heap (k:=q) hq2 (by simp)) (hK4.heap (k:=w.heap.size+1) hL2 (by simp));refine hK.out _ _ hS4 (fun _=>?_);clear hK K hK4 hsb hTd hS0
 try simp only[zZ]
 refine zq 10 fun K hK=>?_;go_simp;refine (qS6 E.O h.key v4 ps' w4 hs4 (by have:=qG9 ρ ps' (fun x _=>by unfold ρ;omega);have:=HFIT.out.1;omega) HFIT.out.2 HFIT.out.1).mono ?_;rintro e w5 ⟨v5,rfl,hR5,hK5⟩;have hT5:=hT4.tail hK5;have hS5:=And.intro (hK5.hp hS4.1) (hK5.hp hS4.2);refine hK.out _ _ hS5 (fun _=>?_);clear hK K hS4 hK5 hT4
 try simp only[zZ]
 refine zq 11 fun K hK=>?_;go_simp;refine hK.out _ _ hS5 (fun _=>?_);clear hK K;refine zd ?_;rw[HKEY.out,←HWO.out] at hR5;have HR5:=zh hR5;have HT5:=zh hT5;clear hS5 hR5 hT5 hs4;go_wp2;go_ret;exact⟨v5,rfl,HR5.out,HT5.out⟩
theorem jB2{a b:Lnk (Tn 0)}(ha:Good 0 a.key a.sub)(hb:Good 0 b.key b.sub)(hc:cnt 0 a.sub≤2∨cnt 0 b.sub≤2):(∀ x∈prs a.sub++prs b.sub,ρ x≤21)∧meas ρ (prs a.sub++prs b.sub)≤210:=by
 have hsz:∀ x∈prs a.sub++prs b.sub,ρ x≤21:=fun p hp=>by
  have ho:qD0 p:=by
   rcases List.mem_append.1 hp with hp|hp
   ·exact (ha.all p hp).1
   ·exact (hb.all p hp).1
  obtain⟨h1,h2,h3⟩:=ho;unfold ρ;omega
 refine⟨hsz,?_⟩;rw[qG8];have h1:=qO2 ρ 21 (prs a.sub) fun p hp=>hsz p (List.mem_append_left _ hp);have h2:=qO2 ρ 21 (prs b.sub) fun p hp=>hsz p (List.mem_append_right _ hp);have h3:meas ρ (prs a.sub)≤126:=ha.fits;have h4:meas ρ (prs b.sub)≤126:=hb.fits;have h5:(prs a.sub).length≤2∨(prs b.sub).length≤2:=hc;omega
theorem jB1{n:Nat}{a b:Lnk (Tn (n+1))}(ha:Good (n+1) a.key a.sub)(hb:Good (n+1) b.key b.sub)(hc:cnt (n+1) a.sub≤2∨cnt (n+1) b.sub≤2):(∀ x∈η a.sub++η b.sub,qA4 x≤21)∧meas qA4 (η a.sub++η b.sub)≤210:=by
 have hsz:∀ x∈η a.sub++η b.sub,qA4 x≤21:=fun p hp=>by
  have ho:p.key.size≤8:=by
   rcases List.mem_append.1 hp with hp|hp
   ·exact (ha.all p hp).2.2
   ·exact (hb.all p hp).2.2
  unfold qA4;omega
 refine⟨hsz,?_⟩;rw[qG8];have h1:=qO2 qA4 21 (η a.sub) fun p hp=>hsz p (List.mem_append_left _ hp);have h2:=qO2 qA4 21 (η b.sub) fun p hp=>hsz p (List.mem_append_right _ hp);have h3:meas qA4 (η a.sub)≤126:=ha.fits;have h4:meas qA4 (η b.sub)≤126:=hb.fits;have h5:(η a.sub).length≤2∨(η b.sub).length≤2:=hc;omega
theorem jI0(E:Env)(n:Nat)(lev:Int)(hlev:(n:Int)<lev)(hn:n≤100000)(r:HL)(v:Value)(ls:List (Lnk (Tn n)))(i:Nat)(c:Lnk (Tn n))(w:World)(hd:E.Dev w)(hr:RLs E.O n w v ls)(hi:ls[i]?=some c)(hll:ls.length≤10000)(hnew:c.ref=none)(hcm:cnt n c.sub≤10000)(h2:2≤ls.length)(hg:∀ l∈ls,Good n l.key l.sub):
  Calls prog 132 #[τ E.V r,v,.int .i64 lev,.int .i64 i] w fun e w'=>∃ v',e=.returned v'∧RLs E.O n w' v' (qC5 n ls i)∧E.To w w':=by
 obtain⟨hil,hic⟩:=List.getElem?_eq_some_iff.1 hi;by_cases h3:3≤cnt n c.sub
 ·exact jI1 E n lev r v ls i w hd hr hil hll (by rw[hic];exact hnew) (by rw[hic];exact h3) (by rw[hic];exact hcm)
 ·obtain⟨j,hj⟩:∃ j,j=min i (ls.length-2):=⟨_,rfl⟩;have hj0:j<ls.length:=by omega
  have hj1:j+1<ls.length:=by omega
  have e0:ls[j]?=some ls[j]:=List.getElem?_eq_getElem hj0;have e1:ls[j+1]?=some ls[j+1]:=List.getElem?_eq_getElem hj1;have ga:=hg ls[j] (List.getElem_mem hj0);have gb:=hg ls[j+1] (List.getElem_mem hj1);have hcc:cnt n ls[j].sub≤2∨cnt n ls[j+1].sub≤2:=by
   by_cases h:i=j
   ·subst h;left;rw[hic];omega
   ·have:i=j+1:=by omega
    subst this;right;rw[hic];omega
  cases n with
  | zero=>exact jH9 E lev (by omega) r v ls i j (j+1) c ls[j] ls[j+1] w hd hr hi hll hnew (by omega) h2 e0 e1 rfl hj (jB2 ga gb hcc)
  | succ n=>exact jH8 E n lev (by omega) r v ls i j (j+1) c ls[j] ls[j+1] w hd hr hi hll hnew (by omega) h2 e0 e1 rfl hj (jB1 ga gb hcc) (by omega)
theorem jY8{n:Nat}{l:Lnk (Tn (n+1))}{k:ByteArray}(h:Good (n+1) l.key l.sub)(hk:kl k l.key=false)(hz:l.key.size≤8)(hq:∃ q∈cont (n+1) l.sub,q.k=k)(h1:1<cnt (n+1) l.sub):
  ∃ (m:Lnk (Tn n)) (new:List (Lnk (Tn n))),(η l.sub)[qB3 (η l.sub) k]?=some m∧new=(η l.sub).take (qB3 (η l.sub) k)++qD1 n m k++(η l.sub).drop (qB3 (η l.sub) k+1)∧
   Good n m.key m.sub∧kl k m.key=false∧m.key.size≤8∧(∃ q∈cont n m.sub,q.k=k)∧3≤cnt n m.sub∧(qD1 n m k).length≤2∧
   (∀ x∈new,Good n x.key x.sub)∧2≤new.length∧(∃ c,new[qB3 (η l.sub) k]?=some c∧c.ref=none)∧(∀ x∈qC5 n new (qB3 (η l.sub) k),qA4 x≤21)∧meas qA4 (qC5 n new (qB3 (η l.sub) k))≤210∧
   qD1 (n+1) l k=qD5 n l.key (qC5 n new (qB3 (η l.sub) k)):=by
 have h2:1<(η l.sub).length:=h1;have hr:Row0 n l.key (η l.sub):=h.row;obtain⟨A,m,B,e,hA,hkm,hqA,hqB⟩:=zE3 (k:=k) hr (by intro e;rw[e] at h2;simp at h2) hk;have hall:∀ x∈A++m::B,Good n x.key x.sub∧3≤cnt n x.sub∧x.key.size≤8:=fun x hx=>h.all x (by show x∈η l.sub;rw[e];exact hx);have hm:=hall m (by simp);have hqB':∀ b∈B,∀ q∈cont n b.sub,kl k q.k=true:=fun b hb q hq=>qO1 (hqB b hb) ((qN9 n b.key b.sub (hall b (by simp[hb])).1).2 q hq).2;have hqm:∃ q∈cont n m.sub,q.k=k:=by
  obtain⟨q,hq,eq⟩:=hq;have hq:q∈(η l.sub).flatMap (fun l=>cont n l.sub):=hq;rw[e] at hq;obtain⟨x,hx,hqx⟩:=List.mem_flatMap.1 hq;rcases List.mem_append.1 hx with hx|hx
  ·exact absurd eq (qJ4 (hqA x hx q hqx))
  ·rcases List.mem_cons.1 hx with rfl|hx
   ·exact⟨q,hqx,eq⟩
   ·exact absurd eq.symm (qJ4 (hqB' x hx q hqx))
 obtain⟨w1,w2,w3⟩:=zE5 n m k hm.1 hkm hm.2.2 hqm (by omega);have hwc:∀ w∈qD1 n m k,1≤cnt n w.sub:=by
  rcases w3 with⟨a,e1,_,_,e4⟩|⟨a,b,e1,_,_,_,e5,e6⟩
  ·rw[e1];intro w hw;rw[List.mem_singleton.1 hw];omega
  ·rw[e1];intro w hw;simp only[List.mem_cons,List.not_mem_nil,or_false] at hw;rcases hw with rfl|rfl<;>omega
 have hr':Row0 n l.key (A++m::B):=by rw[←e];exact hr
 have hpair:=List.pairwise_append.1 hr'.pair;have hsp:=zC9 hr' w1 w3.ne hwc (fun w hw q hq b hb=>by
  have:q∈(qD1 n m k).flatMap (fun l=>cont n l.sub):=List.mem_flatMap.2 ⟨w,hw,hq⟩;rw[w2] at this;exact ((List.pairwise_cons.1 hpair.2.1).1 b hb).2 q (qX3.1 this).1)
 have hmW:=w3.meas (fun w hw=>(w1.all w hw).2);have hfit:meas qA4 (A++m::B)≤126:=by have h3:meas qA4 (η l.sub)≤126:=h.fits;rw[e] at h3;exact h3
 have hmm:meas qA4 (A++qD1 n m k++B)≤145:=by
  rw[qG8,qG8];rw[qG8,qF1] at hfit;omega
 have hW1:1≤(qD1 n m k).length:=List.length_pos_iff.2 w3.ne;have hlen:(η l.sub).length≤(A++qD1 n m k++B).length:=by rw[e];simp;omega
 obtain⟨d1,d2,d3,d4,d5⟩:=xB8 (m:=m) hsp (fun x hx=>(hall x (by simp[hx])).2.1) (fun x hx=>(hall x (by simp[hx])).2.1) w3 hm.2.1 (by omega);have hget:(η l.sub)[qB3 (η l.sub) k]?=some m:=by rw[←hA,e];simp
 have htake:(η l.sub).take (qB3 (η l.sub) k)=A:=by rw[←hA,e];simp
 have hdrop:(η l.sub).drop (qB3 (η l.sub) k+1)=B:=by
  rw[←hA,e,show A++m::B=(A++[m])++B by simp];exact List.drop_left' (by simp)
 have hw:qD1 (n+1) l k=qD5 n l.key (qC5 n (A++qD1 n m k++B) (qB3 (η l.sub) k)):=by
  show (match (η l.sub)[qB3 (η l.sub) k]? with
   | some m=>qD5 n l.key (qC5 n ((η l.sub).take (qB3 (η l.sub) k)++qD1 n m k++(η l.sub).drop (qB3 (η l.sub) k+1)) (qB3 (η l.sub) k))
   | none=>[])=_
  rw[hget,htake,hdrop]
 refine⟨m,A++qD1 n m k++B,hget,by rw[htake,hdrop],hm.1,hkm,hm.2.2,hqm,hm.2.1,?_,fun x hx=>(hsp.all x hx).1,by omega,?_,?_,?_,hw⟩
 ·rcases w3 with⟨a,e1,_⟩|⟨a,b,e1,_⟩<;>rw[e1]<;>simp
 ·rw[←hA];rcases w3 with⟨a,e1,_,e3,_⟩|⟨a,b,e1,_,e3,_⟩
  ·exact⟨a,by rw[e1];simp,e3⟩
  ·exact⟨a,by rw[e1];simp,e3⟩
 ·rw[←hA];intro x hx;have:=(d1.all x hx).2;unfold qA4;omega
 ·rw[←hA];omega
theorem jY5(E:Env)(n:Nat)
  (ih:∀ (r h:HL) (l:Lnk (Tn n)) (q:Nat) (k:ByteArray) (w:World),E.Dev w→h.key=l.key→RN E.O n w q l.sub→Good n l.key l.sub→kl k l.key=false→l.key.size≤8→(∃ q∈cont n l.sub,q.k=k)→min n 1<cnt n l.sub→Calls prog 92 #[τ E.V r,qC2 h,.pointer (some ⟨q,0,none⟩),.string k] w fun e w'=>∃ v',e=.returned v'∧RLs E.O n w' v' (qD1 n l k)∧E.To w w')
  (hn:n≤100000) (r h:HL) (l:Lnk (Tn (n+1))) (q:Nat) (k:ByteArray) (w:World) (hd:E.Dev w) (hkey:h.key=l.key) (hN:RN E.O (n+1) w q l.sub) (hg:Good (n+1) l.key l.sub) (hk:kl k l.key=false) (hz:l.key.size≤8) (hqk:∃ q∈cont (n+1) l.sub,q.k=k) (hc:1<cnt (n+1) l.sub):
  Calls prog 92 #[τ E.V r,qC2 h,.pointer (some ⟨q,0,none⟩),.string k] w fun e w'=>∃ v',e=.returned v'∧RLs E.O (n+1) w' v' (qD1 (n+1) l k)∧E.To w w':=by
 have hcl:(η l.sub).length≤10000:=(qJ9 (n+1) l.key l.sub hg).1;obtain⟨m,new,hgm,hnw,m1,m2,m3,m4,m5,m6,n1,n2,⟨c,n3,n4⟩,n5,n6,n7⟩:=jY8 hg hk hz hqk hc;have hpair:=hg.pair;obtain⟨i,hi0⟩:∃ i,qB3 (η l.sub) k=i:=⟨_,rfl⟩;rw[hi0] at hgm hnw n3 n5 n6 n7;have hnl:new.length≤10000:=by
  have h1:=qG9 qA4 (qC5 n new i) (fun x _=>by unfold qA4;omega);have h2:(η l.sub).length≤126:=by
   have h3:=qG9 qA4 (η l.sub) (fun x _=>by unfold qA4;omega);have h4:meas qA4 (η l.sub)≤126:=hg.fits;omega
  rw[hnw];simp only[List.length_append,List.length_take,List.length_drop];omega
 have hcm:cnt n c.sub≤10000:=by
  have gc:=n1 c (List.mem_of_getElem? n3)
  cases n with
  | zero=>exact qJ9 0 c.key c.sub gc
  | succ n=>exact (qJ9 (n+1) c.key c.sub gc).1
 have hil0:i<(η l.sub).length:=(List.getElem?_eq_some_iff.1 hgm).1;obtain⟨ls,hls⟩:∃ ls,η l.sub=ls:=⟨_,rfl⟩;rw[hls] at hgm hnw hcl hi0 hil0;have HLS:=zh hls;have HI0:=zh hi0;have HGM:=zh hgm;have HNW:=zh hnw;have HN:Hid ((∀ x∈new,Good n x.key x.sub)∧2≤new.length∧new[i]?=some c∧c.ref=none):=⟨n1,n2,n3,n4⟩;have HF:Hid ((∀ x∈qC5 n new i,qA4 x≤21)∧meas qA4 (qC5 n new i)≤210):=⟨n5,n6⟩;have HWT:=zh n7;have HPA:Hid (ls.Pairwise (qQ8 n)):=by show List.Pairwise _ _;rw[←hls];exact hpair
 have HWI:Hid (Good n m.key m.sub∧kl k m.key=false∧m.key.size≤8∧(∃ q∈cont n m.sub,q.k=k)∧3≤cnt n m.sub):=⟨m1,m2,m3,m4,m5⟩;have HKEY:=zh hkey;have HD:=zh hd;have HCM:=zh hcm;have HWL:=zh m6;have HIH:=ih;clear hd hkey hg hk hz hqk hc hgm hnw n1 n2 n3 n4 n5 n6 n7 m1 m2 m3 m4 m5 m6 hpair hls hi0 hcm ih;obtain⟨vl,hq,hs,hsl,hb⟩:=hN;rw[HLS.out] at hb;have HBL:=zh hb.1;have hil:i<hs.length:=by have:=HBL.out;omega
 have hhl:hs.length≤10000:=by have:=HBL.out;omega
 obtain⟨gb,off,cp,cur,fr,rfl,hcp,hrow,hcur⟩:=hsl.link (by omega);obtain⟨x,_,hrx,c0,c1,c2,c3⟩:=qR8 hb hcur HGM.out;obtain⟨lv,hlv⟩:∃ lv:Int,((n+1:Nat):Int)=lv:=⟨_,rfl⟩;rw[hlv] at hq;have HLV:=zh hlv.symm;have hlv0:¬lv=0:=by omega
 have HB:=zh hb;have HRX:=zh hrx;have hrise:Rise hs:=zC7 hb HPA.out;have hwb:hs.findIdx (fun l=>kl k l.key)-1=i:=by rw[zN3 hb];exact HI0.out
 have hqs:=ζ hq;have hqs1:q<w.heap.size+1:=by omega
 have hqs2:q<w.heap.size+1+1:=by omega
 have q0:=ξ hq 0;simp only[υ,zG,zH,zI] at q0;clear hcur hb hlv hrx;rw[τ,qC2];go_enter func92,ntmps92;go_wp2_with fail;obtain⟨w1,hw1,hB1,hL1,hK1,hs1⟩:∃ w1,w1=(w.alloc (.cells #[.pointer (some ⟨E.V,0,none⟩),.string r.key,.int .i64 r.b,.int .u64 r.s,.pointer r.ptr] 83)).alloc (.cells #[.string h.key,.int .i64 h.b,.int .u64 h.s,.pointer h.ptr] 81)∧w1.heap[w.heap.size]?=some (.cells #[.pointer (some ⟨E.V,0,none⟩),.string r.key,.int .i64 r.b,.int .u64 r.s,.pointer r.ptr] 83)∧w1.heap[w.heap.size+1]?=some (.cells #[.string h.key,.int .i64 h.b,.int .u64 h.s,.pointer h.ptr] 81)∧Kp [] w w1∧w1.heap.size=w.heap.size+2:=by
  refine⟨_,rfl,θ _ (μ _ _),?_,((Kp.refl _ _).alloc _).alloc _,by simp⟩;have e:=μ (w.alloc (.cells #[.pointer (some ⟨E.V,0,none⟩),.string r.key,.int .i64 r.b,.int .u64 r.s,.pointer r.ptr] 83)) (.cells #[.string h.key,.int .i64 h.b,.int .u64 h.s,.pointer h.ptr] 81);simpa using e
 rw[←hw1];clear hw1;have hT1':=Env.To.of0 HD.out hK1;have hq1:=hK1.hp hq;have hsl1:=hsl.keep0 hK1;have hrow1:=hK1.hp hrow;have HB1:Hid (Both (RL E.O n w1) hs ls):=HB.out.mono fun x y hr=>RL.keep hr hK1 (Apt.nil _ _);have HRX1:Hid (RL E.O n w1 x m):=RL.keep HRX.out hK1 (Apt.nil _ _);clear hq hsl hrow HB HRX q0 hqs hqs1 hqs2 hK1;have hway:=zN4 q _ _ _ hs k w1 hq1 hsl1 (by omega) hrise;rw[hwb] at hway;refine hway.mono ?_;rintro e w2 ⟨rfl,hK2⟩;have hT2:=hT1'.tail hK2;have hq2:=hK2.hp hq1;have hs2:=hsl1.keep0 hK2;have hB2:=hK2.hp hB1;have hL2:=hK2.hp hL1;have hrow2:=hK2.hp hrow1;have hsz2:w.heap.size≤w2.heap.size:=by have:=hK2.size;omega
 have HB2:Hid (Both (RL E.O n w2) hs ls):=HB1.out.mono fun x y hr=>RL.keep hr hK2 (Apt.nil _ _);have HRX2:Hid (RL E.O n w2 x m):=RL.keep HRX1.out hK2 (Apt.nil _ _);clear hK2 hq1 hsl1 hL1 hT1' hB1 hrow1 hway hwb hrise HB1 HRX1 hs1;have hqs2:=ζ hq2;have hgs2:=ζ hrow2;have a0:=ξ hrow2 (off+i*4);rw[c0] at a0;have a1:=ξ hrow2 (off+i*4+1);rw[c1] at a1;have a2:=ξ hrow2 (off+i*4+2);rw[c2] at a2;have a3:=ξ hrow2 (off+i*4+3);rw[c3] at a3;have q2:=ξ hq2 2;simp only[υ,zG,zH,zI] at q2;go_wp2_with fail;obtain⟨w3,hw3,hX3,hK3⟩:∃ w3,w3=w2.alloc (.cells #[.string x.key,.int .i64 x.b,.int .u64 x.s,.pointer x.ptr] 81)∧w3.heap[w2.heap.size]?=some (.cells #[.string x.key,.int .i64 x.b,.int .u64 x.s,.pointer x.ptr] 81)∧Kp [] w2 w3:=⟨_,rfl,μ _ _,(Kp.refl _ _).alloc _⟩;rw[←hw3];clear hw3;have hT3:=hT2.tail hK3;have hq3:=hK3.hp hq2;have hs3:=hs2.keep0 hK3;have hL3:=hK3.hp hL2;have HB3:Hid (Both (RL E.O n w3) hs ls):=HB2.out.mono fun x y hr=>RL.keep hr hK3 (Apt.nil _ _);have HRX3:Hid (RL E.O n w3 x m):=RL.keep HRX2.out hK3 (Apt.nil _ _);obtain⟨X,hX0⟩:∃ X,w2.heap.size=X:=⟨_,rfl⟩;rw[hX0] at hX3 hsz2 ⊢;have hS0:w3.heap[q]?=some (υ lv (.slice none 0 0) (.slice (some ⟨gb,off,none⟩) hs.length cp))∧w3.heap[w.heap.size]?=some (.cells #[.pointer (some ⟨E.V,0,none⟩),.string r.key,.int .i64 r.b,.int .u64 r.s,.pointer r.ptr] 83)∧w3.heap[X]?=some (.cells #[.string x.key,.int .i64 x.b,.int .u64 x.s,.pointer x.ptr] 81):=⟨hq3,hK3.hp hB2,hX3⟩;clear hq2 hs2 hL2 hB2 hrow2 hK3 hX3 HB2 HRX2 hT2 a0 a1 a2 a3 q2 hqs2 hgs2 hX0 c0 c1 c2 c3 hq3;obtain⟨j,hj⟩:∃ j,j=i+1:=⟨_,rfl⟩;have hwr:IntKind.i64.wrap ((i:Int)+1)=(j:Int):=by rw[IntKind.wrap_i64];omega
 have HJ:=zh hj;clear hj;refine wp_region_held_drew (S:=fun W=>W.heap[q]?=some (υ lv (.slice none 0 0) (.slice (some ⟨gb,off,none⟩) hs.length cp))∧W.heap[w.heap.size]?=some (.cells #[.pointer (some ⟨E.V,0,none⟩),.string r.key,.int .i64 r.b,.int .u64 r.s,.pointer r.ptr] 83)∧W.heap[X]?=some (.cells #[.string x.key,.int .i64 x.b,.int .u64 x.s,.pointer x.ptr] 81)) (by kernel_rfl) hS0 (fun _=>?_);refine zP 0 q 0 hS0 ?_;refine zP 1 q 0 hS0 ?_;refine zP 2 q 2 hS0 ?_;refine zV 3 (.slice (some ⟨gb,off,none⟩) hs.length cp) rfl (fun W hS=>by have c:=ξ hS.1 2;simp[υ] at c;clear hS;go_simp) hS0 ?_;refine zU 4 (.int .i64 i) hS0 ?_;refine zU 5 (.int .i64 i) hS0 ?_;refine zU 6 (.int .i64 j) hS0 ?_;refine zW 7 (.agg #[.pointer (some ⟨E.V,0,none⟩),.string r.key,.int .i64 r.b,.int .u64 r.s,.pointer r.ptr]) hS0 (·.2.1) ?_;refine zW 8 (.agg #[.string x.key,.int .i64 x.b,.int .u64 x.s,.pointer x.ptr]) hS0 (·.2.2) ?_;refine zW 9 (.agg #[.pointer (some ⟨E.V,0,none⟩),.string r.key,.int .i64 r.b,.int .u64 r.s,.pointer r.ptr]) hS0 (·.2.1) ?_;refine zW 10 (.agg #[.string x.key,.int .i64 x.b,.int .u64 x.s,.pointer x.ptr]) hS0 (·.2.2) ?_;refine zP 11 q 0 hS0 ?_;refine zP 12 q 0 hS0 ?_;refine zP 13 q 0 hS0 ?_;refine zV 14 (.int .i64 lv) rfl (fun W hS=>by have c:=ξ hS.1 0;simp[υ] at c;clear hS;go_simp) hS0 ?_;refine zU 16 (.string k) hS0 ?_;refine zq 15 fun K hK=>?_;go_simp;have hTd:E.To w w3.drew:=hT3.tail ((Kp.refl _ _).drew);have hTx:RL E.O n w3.drew x m:=RL.keep HRX3.out ((Kp.refl [] _).drew) (Apt.nil _ _);refine (qK4 E n x r m lv w3.drew hTd.dev hTx (by have:=HLV.out;omega)).mono ?_;rintro e w4 ⟨q4,rfl,hN4,hT4⟩;have hT4':=hTd.trans hT4;have hS4:w4.heap[q]?=some (υ lv (.slice none 0 0) (.slice (some ⟨gb,off,none⟩) hs.length cp))∧w4.heap[w.heap.size]?=some (.cells #[.pointer (some ⟨E.V,0,none⟩),.string r.key,.int .i64 r.b,.int .u64 r.s,.pointer r.ptr] 83)∧w4.heap[X]?=some (.cells #[.string x.key,.int .i64 x.b,.int .u64 x.s,.pointer x.ptr] 81):=
  ⟨hT4.kp.heap (k:=q) hS0.1 (fun hm=>E.apt _ hTd.dev _ hm _ _ _ hS0.1 (by decide)),hT4.new (k:=w.heap.size) HD.out (by omega) hS0.2.1,hT4.new (k:=X) HD.out hsz2 hS0.2.2⟩
 have hs4:Slc w4 81 4 (.slice (some ⟨gb,off,none⟩) hs.length cp) hs.length (qA7 hs):=Slc.keep (w:=w3.drew) (hs3.keep0 ((Kp.refl [] _).drew)) hT4.kp ((E.apt _ hTd.dev).sub (by decide));have hL4:=hT4.new (k:=w.heap.size+1) HD.out (by omega) hL3;have HB4:Hid (Both (RL E.O n w4) hs ls):=HB3.out.mono fun x y hr=>Env.RL (RL.keep hr ((Kp.refl [] w3).drew) (Apt.nil _ _)) hTd.dev hT4;refine hK.out _ _ hS4 (fun _=>?_);clear hK K hS0 hTd hTx hs3 HB3 hT4 hT3 hL3
 try simp only[zZ]
 refine zq 17 fun K hK=>?_;go_simp;refine (HIH r x m q4 k w4 hT4'.dev HRX3.out.1 hN4 HWI.out.1 HWI.out.2.1 HWI.out.2.2.1 HWI.out.2.2.2.1 (by have:=HWI.out.2.2.2.2;omega)).mono ?_;rintro e w3 ⟨v3,rfl,hR3,hT3⟩;have hT3':=hT4'.trans hT3;have hS3:w3.heap[q]?=some (υ lv (.slice none 0 0) (.slice (some ⟨gb,off,none⟩) hs.length cp))∧w3.heap[w.heap.size]?=some (.cells #[.pointer (some ⟨E.V,0,none⟩),.string r.key,.int .i64 r.b,.int .u64 r.s,.pointer r.ptr] 83)∧w3.heap[X]?=some (.cells #[.string x.key,.int .i64 x.b,.int .u64 x.s,.pointer x.ptr] 81):=
  ⟨hT3.kp.heap (k:=q) hS4.1 (fun hm=>E.apt _ hT4'.dev _ hm _ _ _ hS4.1 (by decide)),hT3.new (k:=w.heap.size) HD.out (by omega) hS4.2.1,hT3.new (k:=X) HD.out hsz2 hS4.2.2⟩
 have hL3:=hT3.new (k:=w.heap.size+1) HD.out (by omega) hL4;have hs3:Slc w3 81 4 (.slice (some ⟨gb,off,none⟩) hs.length cp) hs.length (qA7 hs):=Slc.keep hs4 hT3.kp ((E.apt _ hT4'.dev).sub (by decide));have HB3:Hid (Both (RL E.O n w3) hs ls):=HB4.out.mono fun x y hr=>Env.RL hr hT4'.dev hT3;refine hK.out _ _ hS3 (fun _=>?_);clear hK K hS4 hs4 HB4 hN4 hL4
 try simp only[zZ]
 refine zq 18 fun K hK=>?_;go_simp;obtain⟨hs',hsl',hb'⟩:=hR3;have hnb:hs'.length≤10000:=by rw[hb'.1];have:=HWL.out;omega
 have hj1:=HJ.out;refine (qR7 _ v3 hs hs' i j w3 hs3 hsl' (by omega) (by omega) (by omega) hhl hnb).mono ?_;rintro e w4 ⟨v4,rfl,hs4,hK4⟩;rw[hj1] at hs4;clear hj1;have hT4:=hT3'.tail hK4;have hR4:RLs E.O n w4 v4 new:=by
  rw[HNW.out];exact⟨_,hs4,(((HB3.out.take i).append hb').append (HB3.out.drop (i+1))).mono fun x y hr=>RL.keep hr hK4 (Apt.nil _ _)⟩
 have HR4:=zh hR4;have hS4:=And.intro (hK4.hp hS3.1) (And.intro (hK4.hp hS3.2.1) (hK4.hp hS3.2.2));have hL4:=hK4.hp hL3;refine hK.out _ _ hS4 (fun _=>?_);clear hK K hS3 hK4 hs3 hT3' hT3 hR4 hs4 hb' hsl' hL3
 try simp only[zZ]
 refine zq 19 fun K hK=>?_;go_simp;refine hK.out _ _ hS4 (fun _=>?_);clear hK K;refine zd ?_;have hq4:=hS4.1;have hB4:=hS4.2.1;clear hS4;go_wp2_with fail;have hS5:w4.heap[q]?=some (υ lv (.slice none 0 0) (.slice (some ⟨gb,off,none⟩) hs.length cp))∧w4.heap[w.heap.size]?=some (.cells #[.pointer (some ⟨E.V,0,none⟩),.string r.key,.int .i64 r.b,.int .u64 r.s,.pointer r.ptr] 83)∧w4.heap[w.heap.size+1]?=some (.cells #[.string h.key,.int .i64 h.b,.int .u64 h.s,.pointer h.ptr] 81):=⟨hq4,hB4,hL4⟩;refine wp_region_held_drew (S:=fun W=>W.heap[q]?=some (υ lv (.slice none 0 0) (.slice (some ⟨gb,off,none⟩) hs.length cp))∧W.heap[w.heap.size]?=some (.cells #[.pointer (some ⟨E.V,0,none⟩),.string r.key,.int .i64 r.b,.int .u64 r.s,.pointer r.ptr] 83)∧W.heap[w.heap.size+1]?=some (.cells #[.string h.key,.int .i64 h.b,.int .u64 h.s,.pointer h.ptr] 81)) (by kernel_rfl) hS5 (fun _=>?_);refine zU 0 (.pointer (some ⟨w.heap.size+1,0,none⟩)) hS5 ?_;refine zV 1 (.string h.key) rfl (fun W hS=>by have c:=ξ hS.2.2 0;simp at c;clear hS;go_simp) hS5 ?_;refine zP 2 q 0 hS5 ?_;refine zP 3 q 0 hS5 ?_;refine zP 4 q 0 hS5 ?_;refine zV 5 (.int .i64 lv) rfl (fun W hS=>by have c:=ξ hS.1 0;simp[υ] at c;clear hS;go_simp) hS5 ?_;refine zW 6 (.agg #[.pointer (some ⟨E.V,0,none⟩),.string r.key,.int .i64 r.b,.int .u64 r.s,.pointer r.ptr]) hS5 (·.2.1) ?_;refine zU 7 v4 hS5 ?_;refine zP 8 q 0 hS5 ?_;refine zP 9 q 0 hS5 ?_;refine zP 10 q 0 hS5 ?_;refine zV 11 (.int .i64 lv) rfl (fun W hS=>by have c:=ξ hS.1 0;simp[υ] at c;clear hS;go_simp) hS5 ?_;refine zU 12 (.int .i64 i) hS5 ?_;refine zq 13 fun K hK=>?_;go_simp;have hTd4:E.To w w4.drew:=hT4.tail ((Kp.refl _ _).drew);refine (jI0 E n lv (by have:=HLV.out;omega) hn r v4 new i c w4.drew hTd4.dev (RLs.keep HR4.out ((Kp.refl [] _).drew) (Apt.nil _ _)) HN.out.2.2.1 hnl HN.out.2.2.2 HCM.out HN.out.2.1 HN.out.1).mono ?_;rintro e w6 ⟨v6,rfl,hR6,hT6⟩;have hT6':=hTd4.trans hT6;have hS6:w6.heap[q]?=some (υ lv (.slice none 0 0) (.slice (some ⟨gb,off,none⟩) hs.length cp))∧w6.heap[w.heap.size]?=some (.cells #[.pointer (some ⟨E.V,0,none⟩),.string r.key,.int .i64 r.b,.int .u64 r.s,.pointer r.ptr] 83)∧w6.heap[w.heap.size+1]?=some (.cells #[.string h.key,.int .i64 h.b,.int .u64 h.s,.pointer h.ptr] 81):=
  ⟨hT6.kp.heap (k:=q) hq4 (fun hm=>E.apt _ hTd4.dev _ hm _ _ _ hq4 (by decide)),hT6.new (k:=w.heap.size) HD.out (by omega) hB4,hT6.new (k:=w.heap.size+1) HD.out (by omega) hL4⟩
 refine hK.out _ _ hS6 (fun _=>?_);clear hK K hS5 hTd4 hT6
 try simp only[zZ]
 refine zq 14 fun K hK=>?_;go_simp;refine (qT5 E.O n lv HLV.out h.key v6 (qC5 n new i) w6 hR6 (by have:=qG9 qA4 (qC5 n new i) (fun x _=>by unfold qA4;omega);have:=HF.out.2;omega) HF.out.1 HF.out.2).mono ?_;rintro e w7 ⟨v7,rfl,hR7,hK7⟩;have hT7:=hT6'.tail hK7;have hS7:=And.intro (hK7.hp hS6.1) (And.intro (hK7.hp hS6.2.1) (hK7.hp hS6.2.2));refine hK.out _ _ hS7 (fun _=>?_);clear hK K hS6 hK7 hT6'
 try simp only[zZ]
 refine zq 15 fun K hK=>?_;go_simp;refine hK.out _ _ hS7 (fun _=>?_);clear hK K;refine zd ?_;rw[HKEY.out,←HWT.out] at hR7;have HR7:=zh hR7;have HT7:=zh hT7;clear hS7 hR7 hT7;go_wp2;go_ret;exact⟨v7,rfl,HR7.out,HT7.out⟩
theorem jY7(E:Env):∀ (n:Nat),n≤100000→∀ (r h:HL) (l:Lnk (Tn n)) (q:Nat) (k:ByteArray) (w:World),E.Dev w→h.key=l.key→RN E.O n w q l.sub→Good n l.key l.sub→kl k l.key=false→l.key.size≤8→(∃ q∈cont n l.sub,q.k=k)→min n 1<cnt n l.sub→
  Calls prog 92 #[τ E.V r,qC2 h,.pointer (some ⟨q,0,none⟩),.string k] w fun e w'=>∃ v',e=.returned v'∧RLs E.O n w' v' (qD1 n l k)∧E.To w w':=by
 intro n
 induction n with
 | zero=>
  intro _ r h l q k w hd hr hN hg hk _ hq _;exact jY6 E r h l q k w hd hr hN hg hq
 | succ n ih=>
  intro hn r h l q k w hd hr hN hg hk hz hq hc;exact jY5 E n (ih (by omega)) (by omega) r h l q k w hd hr hN hg hk hz hq (by omega)
theorem zW5{n:Nat}{lo:ByteArray}{t:Tn n}(h:Good n lo t):cnt n t≤10000:=by
 cases n with
 | zero=>exact qJ9 0 lo t h
 | succ n=>exact (qJ9 (n+1) lo t h).1
theorem zN1(E:Env)(n:Nat)(hn:n≤100000)(r:HL)(v:Value)(l:Lnk (Tn n))(d:Nat)(W:List (Lnk (Tn n)))(w:World)(hd:E.Dev w)(hr:RLs E.O n w v W)(hW:Row0 n l.key W)(hM:Made n l d W)(hc:min n 1<cnt n l.sub)(hd1:d≤1):
  Calls prog 91 #[τ E.V r,v] w fun e w'=>∃ h,e=.returned (τ E.V h)∧RR E w' h (qF4 n W)∧E.To w w':=by
 rcases hM with⟨a,rfl,e1,e2,e3⟩|⟨a,b,rfl,e1,e2,e3,e4,e5⟩
 ·have ga:=(hW.all a (by simp)).1
  cases n with
  | zero=>
   by_cases h0:cnt 0 a.sub=0
   ·refine (jX0 E r v a w hd hr e2 h0).mono ?_;rintro e w' ⟨h1,h2⟩;refine⟨_,h1,?_,h2⟩;have hp:prs a.sub=[]:=List.length_eq_zero_iff.1 h0;have hu:qF4 0 [a]=.none:=by
     show (match prs a.sub with | []=>Root.none | _::_=>.at 0 a)=_;rw[hp]
    rw[hu];rfl
   ·refine (xH0 E 0 r v a w hd hr e2 (by omega) (zW5 ga)).mono ?_;rintro e w' ⟨h,h1,h2,h3⟩;refine⟨h,h1,?_,h3⟩;have hu:qF4 0 [a]=.at 0 a:=by
     show (match prs a.sub with | []=>Root.none | _::_=>.at 0 a)=_
     cases hp:prs a.sub with
     | nil=>exact absurd (show cnt 0 a.sub=0 from by show (prs a.sub).length=0;rw[hp];rfl) h0
     | cons x r=>rfl
    rw[hu];exact h2
  | succ n=>
   have hc2:1<(η l.sub).length:=by have h2:min (n+1) 1<(η l.sub).length:=hc;omega
   have hc3:(η l.sub).length≤(η a.sub).length+d:=e3
   cases hp:η a.sub with
   | nil=>rw[hp] at hc3;simp at hc3;omega
   | cons x t=>
    cases t with
    | nil=>
     refine (jX1 E n r v a x w hd hr e2 hp).mono ?_;rintro e w' ⟨h,h1,h2,h3⟩;refine⟨h,h1,?_,h3⟩;have hu:qF4 (n+1) [a]=.at n x:=by
      show (match η a.sub with | []=>Root.none | [m]=>.at n m | _::_::_=>.at (n+1) a)=_;rw[hp]
     rw[hu];exact h2
    | cons y t=>
     have hcn:min (n+1) 1<cnt (n+1) a.sub:=by show min (n+1) 1<(η a.sub).length;rw[hp];simp
     refine (xH0 E (n+1) r v a w hd hr e2 hcn (zW5 ga)).mono ?_;rintro e w' ⟨h,h1,h2,h3⟩;refine⟨h,h1,?_,h3⟩;have hu:qF4 (n+1) [a]=.at (n+1) a:=by
      show (match η a.sub with | []=>Root.none | [m]=>.at n m | _::_::_=>.at (n+1) a)=_;rw[hp]
     rw[hu];exact h2
 ·have ga:=hW.all a (by simp);have gb:=hW.all b (by simp);refine (jX2 E n r v a b w hd hr hn e2 ⟨ga.2,gb.2⟩ (zH2 n a.key a.sub ga.1 (by omega)) (zH2 n b.key b.sub gb.1 (by omega))).mono ?_;rintro e w' ⟨h,h1,h2,h3⟩;refine⟨h,h1,?_,h3⟩;have hfit:meas qA4 [a,b]≤126:=by
   have:=ga.2;have:=gb.2;simp[meas,qA4];omega
  have hu:qF4 n [a,b]=.at (n+1) ⟨⟨#[]⟩,none,[a,b]⟩:=by
   show (match qD5 n ⟨#[]⟩ [a,b] with | []=>Root.none | r::_=>qT3 (n+1) r)=_;have e:qD5 n ⟨#[]⟩ [a,b]=[⟨⟨#[]⟩,none,[a,b]⟩]:=by
    unfold qD5 qB8;rw[if_pos hfit];rfl
   rw[e];rfl
  rw[hu];exact h2
theorem jW4(E:Env)(n:Nat)(hn:n≤100000)(h:HL)(l:Lnk (Tn n))(p:KV)(w:World)(hd:E.Dev w)(hr:RL E.O n w h l)(hg:RGood (.at n l))(hp:qD0 p):
  Calls prog 56 #[τ E.V h,.agg #[.string p.k,.string p.v]] w fun e w'=>∃ h',e=.returned (τ E.V h')∧RR E w' h' (Root.put (.at n l) p)∧E.To w w':=by
 obtain⟨g1,g2,g3⟩:=hg;have hk8:l.key.size≤8:=by rw[g1];decide
 have hkl:kl p.k l.key=false:=by rw[g1];exact qO8 _
 obtain⟨wg1,wg2,wg3⟩:=qY1 n l p g2 hp hkl hk8 (by omega);have HD:=zh hd;have HRL:=zh hr;have HG:Hid (Good n l.key l.sub∧qD0 p∧kl p.k l.key=false∧1≤cnt n l.sub∧l.key.size≤8):=⟨g2,hp,hkl,by omega,hk8⟩;have HM:Hid (Row0 n l.key (qE5 n l p)∧Made n l 0 (qE5 n l p)∧min n 1<cnt n l.sub):=⟨wg1,wg3,g3⟩;have HK0:=zh g1;clear hd hr g1 g2 g3 hk8 hkl wg1 wg2 wg3 hp;rw[τ];go_enter func56,ntmps56;go_wp2_with fail;obtain⟨w0,hw0,hB0,hP0,hR0,hK0,hs0⟩:∃ w0,w0=((w.alloc (.cells #[.pointer (some ⟨E.V,0,none⟩),.string h.key,.int .i64 h.b,.int .u64 h.s,.pointer h.ptr] 83)).alloc (.cells #[.string p.k,.string p.v] 64)).alloc (.cells #[.pointer none,.string ⟨#[]⟩,.int .i64 0,.int .u64 0,.pointer none] 83)∧w0.heap[w.heap.size]?=some (.cells #[.pointer (some ⟨E.V,0,none⟩),.string h.key,.int .i64 h.b,.int .u64 h.s,.pointer h.ptr] 83)∧w0.heap[w.heap.size+1]?=some (.cells #[.string p.k,.string p.v] 64)∧w0.heap[w.heap.size+1+1]?=some (.cells #[.pointer none,.string ⟨#[]⟩,.int .i64 0,.int .u64 0,.pointer none] 83)∧Kp [] w w0∧w0.heap.size=w.heap.size+3:=by
  refine⟨_,rfl,θ _ (θ _ (μ _ _)),θ _ ?_,?_,(((Kp.refl _ _).alloc _).alloc _).alloc _,by simp⟩
  ·have e:=μ (w.alloc (.cells #[.pointer (some ⟨E.V,0,none⟩),.string h.key,.int .i64 h.b,.int .u64 h.s,.pointer h.ptr] 83)) (.cells #[.string p.k,.string p.v] 64);simpa using e
  ·have e:=μ ((w.alloc (.cells #[.pointer (some ⟨E.V,0,none⟩),.string h.key,.int .i64 h.b,.int .u64 h.s,.pointer h.ptr] 83)).alloc (.cells #[.string p.k,.string p.v] 64)) (.cells #[.pointer none,.string ⟨#[]⟩,.int .i64 0,.int .u64 0,.pointer none] 83);simpa using e
 rw[←hw0];clear hw0;have hT0:=Env.To.of0 HD.out hK0;refine (qW2 E n h l w0 (Env.RL HRL.out HD.out hT0) HK0.out).mono ?_;rintro e w1 ⟨rfl,hK1⟩;have hT1:=hT0.tail hK1;have hS0:w1.heap[w.heap.size]?=some (.cells #[.pointer (some ⟨E.V,0,none⟩),.string h.key,.int .i64 h.b,.int .u64 h.s,.pointer h.ptr] 83)∧w1.heap[w.heap.size+1]?=some (.cells #[.string p.k,.string p.v] 64):=⟨hK1.hp hB0,hK1.hp hP0⟩;have hR1:=hK1.hp hR0;clear hK1 hT0 hK0 hB0 hP0 hR0;go_wp2_with fail;refine wp_region_held_drew (S:=fun W=>W.heap[w.heap.size]?=some (.cells #[.pointer (some ⟨E.V,0,none⟩),.string h.key,.int .i64 h.b,.int .u64 h.s,.pointer h.ptr] 83)∧W.heap[w.heap.size+1]?=some (.cells #[.string p.k,.string p.v] 64)) (by kernel_rfl) hS0 (fun _=>?_);refine zW 0 (.agg #[.pointer (some ⟨E.V,0,none⟩),.string h.key,.int .i64 h.b,.int .u64 h.s,.pointer h.ptr]) hS0 (·.1) ?_;refine zW 1 (.agg #[.pointer (some ⟨E.V,0,none⟩),.string h.key,.int .i64 h.b,.int .u64 h.s,.pointer h.ptr]) hS0 (·.1) ?_;refine zP 2 w.heap.size 1 hS0 ?_;refine zW 3 (.agg #[.string h.key,.int .i64 h.b,.int .u64 h.s,.pointer h.ptr]) hS0 (·.1) ?_;refine zW 4 (.agg #[.pointer (some ⟨E.V,0,none⟩),.string h.key,.int .i64 h.b,.int .u64 h.s,.pointer h.ptr]) hS0 (·.1) ?_;refine zW 6 (.agg #[.string p.k,.string p.v]) hS0 (·.2) ?_;refine zU 7 (.agg #[.string p.k,.string p.v]) hS0 ?_;refine zq 5 fun K hK=>?_;go_simp;have hTd0:E.To w w1.drew:=hT1.tail ((Kp.refl _ _).drew);refine (zD8 E n h l w1.drew hTd0.dev (Env.RL HRL.out HD.out hTd0)).mono ?_;rintro e wt ⟨qt,rfl,hNt,hTt⟩;have hTd:=hTd0.trans hTt;have hSt:wt.heap[w.heap.size]?=some (.cells #[.pointer (some ⟨E.V,0,none⟩),.string h.key,.int .i64 h.b,.int .u64 h.s,.pointer h.ptr] 83)∧wt.heap[w.heap.size+1]?=some (.cells #[.string p.k,.string p.v] 64):=⟨hTt.new (k:=w.heap.size) HD.out (by omega) hS0.1,hTt.new (k:=w.heap.size+1) HD.out (by omega) hS0.2⟩;have hRt:=hTt.new (k:=w.heap.size+1+1) HD.out (by omega) hR1;refine hK.out _ _ hSt (fun _=>?_);clear hK K hS0 hTd0 hTt hR1
 try simp only[zZ]
 refine zq 8 fun K hK=>?_;go_simp;refine (jY4 E n hn h h l qt p wt hTd.dev HRL.out.1 hNt HG.out.1 HG.out.2.1 HG.out.2.2.1 HG.out.2.2.2.1 HG.out.2.2.2.2).mono ?_;rintro e w2 ⟨v2,rfl,hR2,hT2⟩;have hT2':=hTd.trans hT2;have hS2:w2.heap[w.heap.size]?=some (.cells #[.pointer (some ⟨E.V,0,none⟩),.string h.key,.int .i64 h.b,.int .u64 h.s,.pointer h.ptr] 83)∧w2.heap[w.heap.size+1]?=some (.cells #[.string p.k,.string p.v] 64):=⟨hT2.new (k:=w.heap.size) HD.out (by omega) hSt.1,hT2.new (k:=w.heap.size+1) HD.out (by omega) hSt.2⟩;have hR2b:=hT2.new (k:=w.heap.size+1+1) HD.out (by omega) hRt;refine hK.out _ _ hS2 (fun _=>?_);clear hK K hSt hTd hT2 hRt hNt
 try simp only[zZ]
 refine zq 9 fun K hK=>?_;go_simp;refine (zN1 E n hn h v2 l 0 (qE5 n l p) w2 hT2'.dev hR2 HM.out.1 HM.out.2.1 HM.out.2.2 (by omega)).mono ?_;rintro e w3 ⟨h',rfl,hR3,hT3⟩;have hT3':=hT2'.trans hT3;have hS3:w3.heap[w.heap.size]?=some (.cells #[.pointer (some ⟨E.V,0,none⟩),.string h.key,.int .i64 h.b,.int .u64 h.s,.pointer h.ptr] 83)∧w3.heap[w.heap.size+1]?=some (.cells #[.string p.k,.string p.v] 64):=⟨hT3.new HD.out (by omega) hS2.1,hT3.new HD.out (by omega) hS2.2⟩;have hR3b:=hT3.new HD.out (by omega) hR2b;refine hK.out _ _ hS3 (fun _=>?_);clear hK K hS2 hT3 hT2' hR2
 try simp only[zZ]
 have r0:=ξ hR3b;have fr0:=ψ hR3b;refine zq 10 fun K hK=>?_;rw[τ];go_simp;have hts:=qM3 (.pointer (some ⟨E.V,0,none⟩)) (.string h'.key) (.int .i64 h'.b) (.int .u64 h'.s) (.pointer h'.ptr) hR3b;obtain⟨w4,hw4,hR4,hK4⟩:∃ w4,w4=((((w3.setCell ⟨w.heap.size+1+1,0,none⟩ (.pointer (some ⟨E.V,0,none⟩))).setCell ⟨w.heap.size+1+1,1,none⟩ (.string h'.key)).setCell ⟨w.heap.size+1+1,2,none⟩ (.int .i64 h'.b)).setCell ⟨w.heap.size+1+1,3,none⟩ (.int .u64 h'.s)).setCell ⟨w.heap.size+1+1,4,none⟩ (.pointer h'.ptr)∧w4.heap[w.heap.size+1+1]?=some (.cells #[.pointer (some ⟨E.V,0,none⟩),.string h'.key,.int .i64 h'.b,.int .u64 h'.s,.pointer h'.ptr] 83)∧Kp [w.heap.size+1+1] w3 w4:=⟨_,rfl,hts.1,hts.2⟩;rw[←hw4];clear hw4 hts r0 fr0;have hT4:=hT3'.store' (by omega) hR3b (by decide) hK4;have hAT:Apt w3 [w.heap.size+1+1] qF8:=fun i hi c t fr' e=>by
  rw[List.mem_singleton.1 hi,hR3b] at e;cases e;decide
 have hRR4:RR E w4 h' (Root.put (.at n l) p):=by
  have hx:RR E w3 h' (qF4 n (qE5 n l p)):=hR3;show RR E w4 h' (qF4 n (qE5 n l p))
  cases hu:qF4 n (qE5 n l p) with
  | none=>rw[hu] at hx;exact hx
  | «at» m z=>rw[hu] at hx;exact RL.keep hx hK4 hAT
 have hS4:=And.intro (hK4.ho hS3.1) (hK4.hp hS3.2);refine hK.out _ _ hS4 (fun _=>?_);clear hK K;refine zd ?_;have HRR:=zh hRR4;have HT4:=zh hT4;have HR4:=zh hR4;clear hS4 hS3 hR3b hT4 hRR4 hR4 hK4 hAT hR3 hT3';go_wp2;exact bodyPost_ret (results_cell_row results56 _ _ (w.heap.size+1+1) 83 #[.pointer (some ⟨E.V,0,none⟩),.string h'.key,.int .i64 h'.b,.int .u64 h'.s,.pointer h'.ptr] (0,0) _ rfl HR4.out underlying83 rfl (by kernel_rfl)) rfl ⟨h',rfl,HRR.out,HT4.out⟩
theorem jU9(E:Env)(n:Nat)(hn:n≤100000)(h:HL)(l:Lnk (Tn n))(k:ByteArray)(w:World)(hd:E.Dev w)(hr:RL E.O n w h l)(hg:RGood (.at n l))(hsz:(cont n l.sub).length≤1000000)(hq:∃ q∈cont n l.sub,q.k=k):
  Calls prog 53 #[τ E.V h,.string k] w fun e w'=>∃ h',e=.returned (τ E.V h')∧RR E w' h' (qF4 n (qD1 n l k))∧E.To w w':=by
 have HGR:=zh hg;obtain⟨g1,g2,g3⟩:=hg;have hk8:l.key.size≤8:=by rw[g1];decide
 have hkl:kl k l.key=false:=by rw[g1];exact qO8 _
 obtain⟨wg1,wg2,wg3⟩:=zE5 n l k g2 hkl hk8 hq g3;have hsome:(qH9 (cont n l.sub) k).isSome=true:=by
  obtain⟨q,hq1,hq2⟩:=hq;unfold qH9;rw[List.find?_isSome];exact⟨q,hq1,by simp[hq2]⟩
 have HD:=zh hd;have HRL:=zh hr;have HG:Hid (Good n l.key l.sub∧kl k l.key=false∧l.key.size≤8∧(∃ q∈cont n l.sub,q.k=k)∧min n 1<cnt n l.sub):=⟨g2,hkl,hk8,hq,g3⟩;have HM:Hid (Row0 n l.key (qD1 n l k)∧Made n l 1 (qD1 n l k)∧min n 1<cnt n l.sub):=⟨wg1,wg3,g3⟩;have HSO:=zh hsome;have HK0:=zh g1;clear hd hr g1 g2 g3 hk8 hkl wg1 wg2 wg3 hq hsome;rw[τ];go_enter func53,ntmps53;go_wp2_with fail;obtain⟨w0,hw0,hB0,hR0,hK0,hs0⟩:∃ w0,w0=(w.alloc (.cells #[.pointer (some ⟨E.V,0,none⟩),.string h.key,.int .i64 h.b,.int .u64 h.s,.pointer h.ptr] 83)).alloc (.cells #[.pointer none,.string ⟨#[]⟩,.int .i64 0,.int .u64 0,.pointer none] 83)∧w0.heap[w.heap.size]?=some (.cells #[.pointer (some ⟨E.V,0,none⟩),.string h.key,.int .i64 h.b,.int .u64 h.s,.pointer h.ptr] 83)∧w0.heap[w.heap.size+1]?=some (.cells #[.pointer none,.string ⟨#[]⟩,.int .i64 0,.int .u64 0,.pointer none] 83)∧Kp [] w w0∧w0.heap.size=w.heap.size+2:=by
  refine⟨_,rfl,θ _ (μ _ _),?_,((Kp.refl _ _).alloc _).alloc _,by simp⟩;have e:=μ (w.alloc (.cells #[.pointer (some ⟨E.V,0,none⟩),.string h.key,.int .i64 h.b,.int .u64 h.s,.pointer h.ptr] 83)) (.cells #[.pointer none,.string ⟨#[]⟩,.int .i64 0,.int .u64 0,.pointer none] 83);simpa using e
 rw[←hw0];clear hw0;have hT0:=Env.To.of0 HD.out hK0;refine (zW2 E (.at n l) h k w0 hT0.dev (Env.RL HRL.out HD.out hT0) HGR.out hsz).mono ?_;rintro e w1 ⟨rfl,hTg⟩;have hT1:=hT0.trans hTg;rw[show (qH9 (Root.cont (.at n l)) k).isSome=true from HSO.out];have hB1:=hTg.new HD.out (by omega) hB0;have hR1:=hTg.new HD.out (by omega) hR0;have hS0:w1.heap[w.heap.size]?=some (.cells #[.pointer (some ⟨E.V,0,none⟩),.string h.key,.int .i64 h.b,.int .u64 h.s,.pointer h.ptr] 83)∧True:=⟨hB1,trivial⟩;clear hTg hT0 hK0 hB0 hR0;go_wp2_with fail;refine wp_region_held_drew (S:=fun W=>W.heap[w.heap.size]?=some (.cells #[.pointer (some ⟨E.V,0,none⟩),.string h.key,.int .i64 h.b,.int .u64 h.s,.pointer h.ptr] 83)∧True) (by kernel_rfl) hS0 (fun _=>?_);refine zW 0 (.agg #[.pointer (some ⟨E.V,0,none⟩),.string h.key,.int .i64 h.b,.int .u64 h.s,.pointer h.ptr]) hS0 (·.1) ?_;refine zW 1 (.agg #[.pointer (some ⟨E.V,0,none⟩),.string h.key,.int .i64 h.b,.int .u64 h.s,.pointer h.ptr]) hS0 (·.1) ?_;refine zP 2 w.heap.size 1 hS0 ?_;refine zW 3 (.agg #[.string h.key,.int .i64 h.b,.int .u64 h.s,.pointer h.ptr]) hS0 (·.1) ?_;refine zW 4 (.agg #[.pointer (some ⟨E.V,0,none⟩),.string h.key,.int .i64 h.b,.int .u64 h.s,.pointer h.ptr]) hS0 (·.1) ?_;refine zU 6 (.string k) hS0 ?_;refine zq 5 fun K hK=>?_;go_simp;have hTd0:E.To w w1.drew:=hT1.tail ((Kp.refl _ _).drew);refine (zD8 E n h l w1.drew hTd0.dev (Env.RL HRL.out HD.out hTd0)).mono ?_;rintro e wt ⟨qt,rfl,hNt,hTt⟩;have hTd:=hTd0.trans hTt;have hSt:wt.heap[w.heap.size]?=some (.cells #[.pointer (some ⟨E.V,0,none⟩),.string h.key,.int .i64 h.b,.int .u64 h.s,.pointer h.ptr] 83)∧True:=⟨hTt.new (k:=w.heap.size) HD.out (by omega) hS0.1,trivial⟩;have hRt:=hTt.new (k:=w.heap.size+1) HD.out (by omega) hR1;refine hK.out _ _ hSt (fun _=>?_);clear hK K hS0 hTd0 hTt hR1
 try simp only[zZ]
 refine zq 7 fun K hK=>?_;go_simp;refine (jY7 E n hn h h l qt k wt hTd.dev HRL.out.1 hNt HG.out.1 HG.out.2.1 HG.out.2.2.1 HG.out.2.2.2.1 HG.out.2.2.2.2).mono ?_;rintro e w2 ⟨v2,rfl,hR2,hT2⟩;have hT2':=hTd.trans hT2;have hS2:w2.heap[w.heap.size]?=some (.cells #[.pointer (some ⟨E.V,0,none⟩),.string h.key,.int .i64 h.b,.int .u64 h.s,.pointer h.ptr] 83)∧True:=⟨hT2.new (k:=w.heap.size) HD.out (by omega) hSt.1,trivial⟩;have hR2b:=hT2.new (k:=w.heap.size+1) HD.out (by omega) hRt;refine hK.out _ _ hS2 (fun _=>?_);clear hK K hSt hTd hT2 hRt hNt
 try simp only[zZ]
 refine zq 8 fun K hK=>?_;go_simp;refine (zN1 E n hn h v2 l 1 (qD1 n l k) w2 hT2'.dev hR2 HM.out.1 HM.out.2.1 HM.out.2.2 (by omega)).mono ?_;rintro e w3 ⟨h',rfl,hR3,hT3⟩;have hT3':=hT2'.trans hT3;have hS3:w3.heap[w.heap.size]?=some (.cells #[.pointer (some ⟨E.V,0,none⟩),.string h.key,.int .i64 h.b,.int .u64 h.s,.pointer h.ptr] 83)∧True:=⟨hT3.new HD.out (by omega) hS2.1,trivial⟩;have hR3b:=hT3.new HD.out (by omega) hR2b;refine hK.out _ _ hS3 (fun _=>?_);clear hK K hS2 hT3 hT2' hR2
 try simp only[zZ]
 have r0:=ξ hR3b;have fr0:=ψ hR3b;refine zq 9 fun K hK=>?_;rw[τ];go_simp;have hts:=qM3 (.pointer (some ⟨E.V,0,none⟩)) (.string h'.key) (.int .i64 h'.b) (.int .u64 h'.s) (.pointer h'.ptr) hR3b;obtain⟨w4,hw4,hR4,hK4⟩:∃ w4,w4=((((w3.setCell ⟨w.heap.size+1,0,none⟩ (.pointer (some ⟨E.V,0,none⟩))).setCell ⟨w.heap.size+1,1,none⟩ (.string h'.key)).setCell ⟨w.heap.size+1,2,none⟩ (.int .i64 h'.b)).setCell ⟨w.heap.size+1,3,none⟩ (.int .u64 h'.s)).setCell ⟨w.heap.size+1,4,none⟩ (.pointer h'.ptr)∧w4.heap[w.heap.size+1]?=some (.cells #[.pointer (some ⟨E.V,0,none⟩),.string h'.key,.int .i64 h'.b,.int .u64 h'.s,.pointer h'.ptr] 83)∧Kp [w.heap.size+1] w3 w4:=⟨_,rfl,hts.1,hts.2⟩;rw[←hw4];clear hw4 hts r0 fr0;have hT4:=hT3'.store' (by omega) hR3b (by decide) hK4;have hAT:Apt w3 [w.heap.size+1] qF8:=fun i hi c t fr' e=>by
  rw[List.mem_singleton.1 hi,hR3b] at e;cases e;decide
 have hRR4:RR E w4 h' (qF4 n (qD1 n l k)):=by
  have hx:RR E w3 h' (qF4 n (qD1 n l k)):=hR3;show RR E w4 h' (qF4 n (qD1 n l k))
  cases hu:qF4 n (qD1 n l k) with
  | none=>rw[hu] at hx;exact hx
  | «at» m z=>rw[hu] at hx;exact RL.keep hx hK4 hAT
 have hS4:=And.intro (hK4.hp hS3.1) trivial;refine hK.out _ _ hS4 (fun _=>?_);clear hK K;refine zd ?_;have HRR:=zh hRR4;have HT4:=zh hT4;have HR4:=zh hR4;clear hS4 hS3 hR3b hT4 hRR4 hR4 hK4 hAT hR3 hT3';go_wp2;exact bodyPost_ret (results_cell_row results53 _ _ (w.heap.size+1) 83 #[.pointer (some ⟨E.V,0,none⟩),.string h'.key,.int .i64 h'.b,.int .u64 h'.s,.pointer h'.ptr] (0,0) _ rfl HR4.out underlying83 rfl (by kernel_rfl)) rfl ⟨h',rfl,HRR.out,HT4.out⟩
theorem RR.keepT{E:Env}{S:List Nat}{w w':World}{h:HL}{r:Root}(hr:RR E w h r)(hK:Kp S w w')(hS:Apt w S qF8):RR E w' h r:=by
 cases r with
 | none=>exact hr
 | «at» n l=>exact RL.keep hr hK hS
theorem jV0(E:Env)(r:Root)(h:HL)(k:ByteArray)(w:World)(hd:E.Dev w)(hr:RR E w h r)(hg:RGood r)(hsz:r.cont.length≤1000000)(hq:¬∃ q∈r.cont,q.k=k):
  Calls prog 53 #[τ E.V h,.string k] w fun e w'=>∃ h',e=.returned (τ E.V h')∧RR E w' h' r∧E.To w w':=by
 have hnone:(qH9 r.cont k).isSome=false:=by
  unfold qH9;rw[List.find?_eq_none.2 (fun q hq1=>by simp;exact fun e=>hq ⟨q,hq1,e⟩)];rfl
 have HD:=zh hd;have HRR:=zh hr;have HGR:=zh hg;have HSO:=zh hnone;clear hd hr hg hnone hq;rw[τ];go_enter func53,ntmps53;go_wp2_with fail;obtain⟨w0,hw0,hB0,hR0,hK0,hs0⟩:∃ w0,w0=(w.alloc (.cells #[.pointer (some ⟨E.V,0,none⟩),.string h.key,.int .i64 h.b,.int .u64 h.s,.pointer h.ptr] 83)).alloc (.cells #[.pointer none,.string ⟨#[]⟩,.int .i64 0,.int .u64 0,.pointer none] 83)∧w0.heap[w.heap.size]?=some (.cells #[.pointer (some ⟨E.V,0,none⟩),.string h.key,.int .i64 h.b,.int .u64 h.s,.pointer h.ptr] 83)∧w0.heap[w.heap.size+1]?=some (.cells #[.pointer none,.string ⟨#[]⟩,.int .i64 0,.int .u64 0,.pointer none] 83)∧Kp [] w w0∧w0.heap.size=w.heap.size+2:=by
  refine⟨_,rfl,θ _ (μ _ _),?_,((Kp.refl _ _).alloc _).alloc _,by simp⟩;have e:=μ (w.alloc (.cells #[.pointer (some ⟨E.V,0,none⟩),.string h.key,.int .i64 h.b,.int .u64 h.s,.pointer h.ptr] 83)) (.cells #[.pointer none,.string ⟨#[]⟩,.int .i64 0,.int .u64 0,.pointer none] 83);simpa using e
 rw[←hw0];clear hw0;have hT0:=Env.To.of0 HD.out hK0;refine (zW2 E r h k w0 hT0.dev (RR.to HRR.out HD.out hT0) HGR.out hsz).mono ?_;rintro e w1 ⟨rfl,hTg⟩;have hT1:=hT0.trans hTg;rw[HSO.out];have hB1:=hTg.new HD.out (by omega) hB0;have hR1:=hTg.new HD.out (by omega) hR0;have hBs:=ζ hB1;have hRs:=ζ hR1;have b0:=ξ hB1;have r0:=ξ hR1;have fr0:=ψ hR1;have HR1:=zh hR1;have HT1:=zh hT1;clear hTg hT0 hK0 hB0 hR0 hB1 hR1 hT1;go_wp2;have hts:=qM3 (.pointer (some ⟨E.V,0,none⟩)) (.string h.key) (.int .i64 h.b) (.int .u64 h.s) (.pointer h.ptr) HR1.out;have hT2:=HT1.out.store' (by omega) HR1.out (by decide) hts.2;exact bodyPost_ret (results_cell_row results53 _ _ (w.heap.size+1) 83 #[.pointer (some ⟨E.V,0,none⟩),.string h.key,.int .i64 h.b,.int .u64 h.s,.pointer h.ptr] (0,0) _ rfl hts.1 underlying83 rfl (by kernel_rfl)) rfl ⟨h,rfl,RR.to HRR.out HD.out hT2,hT2⟩
theorem jV1(E:Env)(r:Root)(h:HL)(k:ByteArray)(w:World)(hd:E.Dev w)(hr:RR E w h r)(hg:RGood r)(hsz:r.cont.length≤100000):
  Calls prog 53 #[τ E.V h,.string k] w fun e w'=>∃ h',e=.returned (τ E.V h')∧RR E w' h' (r.del k)∧E.To w w':=by
 by_cases hq:∃ q∈r.cont,q.k=k
 ·cases r with
  | none=>obtain⟨q,hq,_⟩:=hq;cases hq
  | «at» n l=>
   have hq':∃ q∈cont n l.sub,q.k=k:=hq;have hlv:=zL6 hg;have hsz':(cont n l.sub).length≤100000:=hsz;have e:Root.del (.at n l) k=qF4 n (qD1 n l k):=by
    show (if (cont n l.sub).any (fun q=>decide (q.k=k)) then qF4 n (qD1 n l k) else .at n l)=_;rw[if_pos (by simpa using hq')]
   rw[e];exact jU9 E n (by omega) h l k w hd hr hg (by omega) hq'
 ·have e:r.del k=r:=by
   cases r with
   | none=>rfl
   | «at» n l=>
    have hq':¬∃ q∈cont n l.sub,q.k=k:=hq;show (if (cont n l.sub).any (fun q=>decide (q.k=k)) then qF4 n (qD1 n l k) else .at n l)=_;rw[if_neg (by simpa using hq')]
  rw[e];exact jV0 E r h k w hd hr hg (by omega) hq
theorem jW5(E:Env)(p:KV)(w:World)(hd:E.Dev w)(hp:qD0 p):
  Calls prog 56 #[τ E.V ⟨⟨#[]⟩,0,0,none⟩,.agg #[.string p.k,.string p.v]] w fun e w'=>∃ h',e=.returned (τ E.V h')∧RR E w' h' (Root.put .none p)∧E.To w w':=by
 have hs:Sorted [p]:=by simp[Sorted]
 have hps:ρ p≤21:=by obtain⟨h1,h2,h3⟩:=hp;unfold ρ;omega
 have hm:meas ρ [p]≤210:=by simp[meas];omega
 obtain⟨r1,r2,r3⟩:=qU4 (lo:=⟨#[]⟩) (ps:=[p]) hs (fun q hq=>by rw[List.mem_singleton.1 hq];exact⟨hp,qO8 _⟩) hm (by decide);have hM:Made 0 (⟨⟨#[]⟩,none,[p]⟩:Lnk (List KV)) 0 (qE7 ⟨#[]⟩ [p]):=by
  rcases r3 with⟨a,e1,e2,e3,e4⟩|⟨a,b,e1,e2,e3,e4,e5,e6⟩
  ·exact .inl ⟨a,e1,e2,e3,by rw[e4];exact Nat.le_refl _⟩
  ·exact .inr ⟨a,b,e1,e2,e3,e4,e5,e6⟩
 have HD:=zh hd;have HM:Hid (Row0 0 (⟨⟨#[]⟩,none,[p]⟩:Lnk (List KV)).key (qE7 ⟨#[]⟩ [p])∧Made 0 (⟨⟨#[]⟩,none,[p]⟩:Lnk (List KV)) 0 (qE7 ⟨#[]⟩ [p])):=⟨r1,hM⟩;have HF:Hid ((∀ q∈[p],ρ q≤21)∧meas ρ [p]≤210):=⟨fun q hq=>by rw[List.mem_singleton.1 hq];exact hps,hm⟩;clear hd hp hs hps hm r1 r2 r3 hM;obtain⟨h,hh⟩:∃ h:HL,h=⟨⟨#[]⟩,0,0,none⟩:=⟨_,rfl⟩;have HH:=zh hh;rw[←hh];clear hh;rw[τ];go_enter func56,ntmps56;go_wp2_with fail;obtain⟨w0,hw0,hB0,hP0,hR0,hK0,hs0⟩:∃ w0,w0=((w.alloc (.cells #[.pointer (some ⟨E.V,0,none⟩),.string h.key,.int .i64 h.b,.int .u64 h.s,.pointer h.ptr] 83)).alloc (.cells #[.string p.k,.string p.v] 64)).alloc (.cells #[.pointer none,.string ⟨#[]⟩,.int .i64 0,.int .u64 0,.pointer none] 83)∧w0.heap[w.heap.size]?=some (.cells #[.pointer (some ⟨E.V,0,none⟩),.string h.key,.int .i64 h.b,.int .u64 h.s,.pointer h.ptr] 83)∧w0.heap[w.heap.size+1]?=some (.cells #[.string p.k,.string p.v] 64)∧w0.heap[w.heap.size+1+1]?=some (.cells #[.pointer none,.string ⟨#[]⟩,.int .i64 0,.int .u64 0,.pointer none] 83)∧Kp [] w w0∧w0.heap.size=w.heap.size+3:=by
  refine⟨_,rfl,θ _ (θ _ (μ _ _)),θ _ ?_,?_,(((Kp.refl _ _).alloc _).alloc _).alloc _,by simp⟩
  ·have e:=μ (w.alloc (.cells #[.pointer (some ⟨E.V,0,none⟩),.string h.key,.int .i64 h.b,.int .u64 h.s,.pointer h.ptr] 83)) (.cells #[.string p.k,.string p.v] 64);simpa using e
  ·have e:=μ ((w.alloc (.cells #[.pointer (some ⟨E.V,0,none⟩),.string h.key,.int .i64 h.b,.int .u64 h.s,.pointer h.ptr] 83)).alloc (.cells #[.string p.k,.string p.v] 64)) (.cells #[.pointer none,.string ⟨#[]⟩,.int .i64 0,.int .u64 0,.pointer none] 83);simpa using e
 rw[←hw0];clear hw0;have hT0:=Env.To.of0 HD.out hK0;have hem:Calls prog 85 #[τ E.V h] w0 fun e w'=>e=.returned (.bool true)∧Kp [] w0 w':=by rw[HH.out];exact qZ9 E.V w0
 refine hem.mono ?_;rintro e w1 ⟨rfl,hK1⟩;have hT1:=hT0.tail hK1;have hS0:w1.heap[w.heap.size]?=some (.cells #[.pointer (some ⟨E.V,0,none⟩),.string h.key,.int .i64 h.b,.int .u64 h.s,.pointer h.ptr] 83)∧w1.heap[w.heap.size+1]?=some (.cells #[.string p.k,.string p.v] 64):=⟨hK1.hp hB0,hK1.hp hP0⟩;have hR1:=hK1.hp hR0;clear hK1 hT0 hK0 hB0 hP0 hR0;go_wp2_with fail;refine wp_region_held_drew (S:=fun W=>W.heap[w.heap.size]?=some (.cells #[.pointer (some ⟨E.V,0,none⟩),.string h.key,.int .i64 h.b,.int .u64 h.s,.pointer h.ptr] 83)∧W.heap[w.heap.size+1]?=some (.cells #[.string p.k,.string p.v] 64)) (by kernel_rfl) hS0 (fun _=>?_);refine zW 0 (.agg #[.pointer (some ⟨E.V,0,none⟩),.string h.key,.int .i64 h.b,.int .u64 h.s,.pointer h.ptr]) hS0 (·.1) ?_;refine zW 1 (.agg #[.string p.k,.string p.v]) hS0 (·.2) ?_;refine zU 2 (.agg #[.string p.k,.string p.v]) hS0 ?_;refine zq 3 fun K hK=>?_;go_simp;obtain⟨wb,hwb,hGb,hKb⟩:∃ wb,wb=(w1.alloc (.cells #[.string p.k,.string p.v] 158)).drew∧wb.heap[w1.heap.size]?=some (.cells #[.string p.k,.string p.v] 158)∧Kp [] w1 wb:=⟨_,rfl,μ _ _,((Kp.refl _ _).alloc _).drew⟩;rw[←hwb];clear hwb;have hSb:=And.intro (hKb.hp hS0.1) (hKb.hp hS0.2);have hRb:=hKb.hp hR1;have hTb:=hT1.tail hKb;refine hK.out _ _ hSb (fun _=>?_);clear hK K hS0
 try simp only[zZ]
 refine zq 4 fun K hK=>?_;go_simp;have hsb:Slc wb 158 2 (.slice (some ⟨w1.heap.size,0,none⟩) 1 1) [p].length (qB0 [p]):=⟨rfl,.inr ⟨w1.heap.size,0,1,_,_,rfl,Nat.le_refl _,Nat.le_refl _,hGb,fun j u hu=>by simpa [qB0,pcs] using hu⟩⟩;refine (qS6 E.O ⟨#[]⟩ _ [p] wb hsb (by simp) HF.out.1 HF.out.2).mono ?_;rintro e w2 ⟨v2,rfl,hR2,hK2⟩;have hT2':=hTb.tail hK2;have hS2:w2.heap[w.heap.size]?=some (.cells #[.pointer (some ⟨E.V,0,none⟩),.string h.key,.int .i64 h.b,.int .u64 h.s,.pointer h.ptr] 83)∧w2.heap[w.heap.size+1]?=some (.cells #[.string p.k,.string p.v] 64):=⟨hK2.hp hSb.1,hK2.hp hSb.2⟩;have hR2b:=hK2.hp hRb;refine hK.out _ _ hS2 (fun _=>?_);clear hK K hSb hTb hsb hGb hKb hRb
 try simp only[zZ]
 refine zq 5 fun K hK=>?_;go_simp;refine (zN1 E 0 (by omega) h v2 (⟨⟨#[]⟩,none,[p]⟩:Lnk (List KV)) 0 (qE7 ⟨#[]⟩ [p]) w2 hT2'.dev hR2 HM.out.1 HM.out.2 (by show 0<1;omega) (by omega)).mono ?_;rintro e w3 ⟨h',rfl,hR3,hT3⟩;have hT3':=hT2'.trans hT3;have hS3:w3.heap[w.heap.size]?=some (.cells #[.pointer (some ⟨E.V,0,none⟩),.string h.key,.int .i64 h.b,.int .u64 h.s,.pointer h.ptr] 83)∧w3.heap[w.heap.size+1]?=some (.cells #[.string p.k,.string p.v] 64):=⟨hT3.new HD.out (by omega) hS2.1,hT3.new HD.out (by omega) hS2.2⟩;have hR3b:=hT3.new HD.out (by omega) hR2b;refine hK.out _ _ hS3 (fun _=>?_);clear hK K hS2 hT3 hT2' hR2
 try simp only[zZ]
 have r0:=ξ hR3b;have fr0:=ψ hR3b;refine zq 6 fun K hK=>?_;rw[τ];go_simp;have hts:=qM3 (.pointer (some ⟨E.V,0,none⟩)) (.string h'.key) (.int .i64 h'.b) (.int .u64 h'.s) (.pointer h'.ptr) hR3b;obtain⟨w4,hw4,hR4,hK4⟩:∃ w4,w4=((((w3.setCell ⟨w.heap.size+1+1,0,none⟩ (.pointer (some ⟨E.V,0,none⟩))).setCell ⟨w.heap.size+1+1,1,none⟩ (.string h'.key)).setCell ⟨w.heap.size+1+1,2,none⟩ (.int .i64 h'.b)).setCell ⟨w.heap.size+1+1,3,none⟩ (.int .u64 h'.s)).setCell ⟨w.heap.size+1+1,4,none⟩ (.pointer h'.ptr)∧w4.heap[w.heap.size+1+1]?=some (.cells #[.pointer (some ⟨E.V,0,none⟩),.string h'.key,.int .i64 h'.b,.int .u64 h'.s,.pointer h'.ptr] 83)∧Kp [w.heap.size+1+1] w3 w4:=⟨_,rfl,hts.1,hts.2⟩;rw[←hw4];clear hw4 hts r0 fr0;have hT4:=hT3'.store' (by omega) hR3b (by decide) hK4;have hAT:Apt w3 [w.heap.size+1+1] qF8:=fun i hi c t fr' e=>by
  rw[List.mem_singleton.1 hi,hR3b] at e;cases e;decide
 have hRR4:RR E w4 h' (Root.put .none p):=by
  have hx:RR E w3 h' (qF4 0 (qE7 ⟨#[]⟩ [p])):=hR3;show RR E w4 h' (qF4 0 (qE7 ⟨#[]⟩ [p]))
  cases hu:qF4 0 (qE7 ⟨#[]⟩ [p]) with
  | none=>rw[hu] at hx;exact hx
  | «at» m z=>rw[hu] at hx;exact RL.keep hx hK4 hAT
 have hS4:=And.intro (hK4.ho hS3.1) (hK4.hp hS3.2);refine hK.out _ _ hS4 (fun _=>?_);clear hK K;refine zd ?_;have HRR:=zh hRR4;have HT4:=zh hT4;have HR4:=zh hR4;clear hS4 hS3 hR3b hT4 hRR4 hR4 hK4 hAT hR3 hT3';go_wp2;exact bodyPost_ret (results_cell_row results56 _ _ (w.heap.size+1+1) 83 #[.pointer (some ⟨E.V,0,none⟩),.string h'.key,.int .i64 h'.b,.int .u64 h'.s,.pointer h'.ptr] (0,0) _ rfl HR4.out underlying83 rfl (by kernel_rfl)) rfl ⟨h',rfl,HRR.out,HT4.out⟩
theorem zE0(E:Env)(r:Root)(h:HL)(p:KV)(w:World)(hd:E.Dev w)(hr:RR E w h r)(hg:RGood r)(hsz:r.cont.length≤100000)(hp:qD0 p):
  Calls prog 56 #[τ E.V h,.agg #[.string p.k,.string p.v]] w fun e w'=>∃ h',e=.returned (τ E.V h')∧RR E w' h' (r.put p)∧E.To w w':=by
 cases r with
 | none=>
  have hh:h=⟨⟨#[]⟩,0,0,none⟩:=hr;subst hh;exact jW5 E p w hd hp
 | «at» n l=>
  have hlv:=zL6 hg;have hsz':(cont n l.sub).length≤100000:=hsz;exact jW4 E n (by omega) h l p w hd hr hg hp
def Asks(E:Env)(w:World)(g:Nat)(cap:Array Value)(f:ByteArray→Bool):Prop:=∀ W k,E.To w W→Calls prog g (#[.string k]++cap) W fun e W'=>e=.returned (.bool (f k))∧Kp [] W W'
theorem Asks.to{E:Env}{w W:World}{g:Nat}{cap:Array Value}{f:ByteArray→Bool}(h:Asks E w g cap f)(hT:E.To w W):Asks E W g cap f:=fun W' k hT'=>h W' k (hT.trans hT')
theorem xT5(g F:Nat)(cap:Array Value)(p:KV)(b:Bool)(w:World)(hF:w.heap[F]?=some (.cells #[.func (.func g) #[] cap] 227))
  (hcf:∀ (args:Array Value) (W:World),Sem.run prog (callFunc g args) W=.ok (.enter g args) W)
  (hf:∀ W,Kp [] w W→Calls prog g (#[.string p.k]++cap) W fun e W'=>e=.returned (.bool b)∧Kp [] W W'):
  Calls prog 198 #[.agg #[.string p.k,.string p.v],.pointer (some ⟨F,0,none⟩)] w fun e w'=>e=.returned (.bool b)∧Kp [] w w':=by
 have HF:=zh hf;clear hf;have hFs:=ζ hF;have f0:=ξ hF 0;simp only[zG,zH,zI] at f0;go_enter func198,ntmps198;go_wp2_with fail;refine (HF.out _ ((Kp.refl _ _).alloc _)).mono ?_;rintro e w1 ⟨rfl,hK1⟩;have hK1':Kp [] w w1:=((Kp.refl _ _).alloc _).tr hK1;go_wp2;go_ret;exact⟨rfl,hK1'⟩
theorem xT6(g F:Nat)(cap:Array Value)(p:HL)(b:Bool)(w:World)(hF:w.heap[F]?=some (.cells #[.func (.func g) #[] cap] 227))
  (hcf:∀ (args:Array Value) (W:World),Sem.run prog (callFunc g args) W=.ok (.enter g args) W)
  (hf:∀ W,Kp [] w W→Calls prog g (#[.string p.key]++cap) W fun e W'=>e=.returned (.bool b)∧Kp [] W W'):
  Calls prog 199 #[.agg #[.string p.key,.int .i64 p.b,.int .u64 p.s,.pointer p.ptr],.pointer (some ⟨F,0,none⟩)] w fun e w'=>e=.returned (.bool !b)∧Kp [] w w':=by
 have HF:=zh hf;clear hf;have hFs:=ζ hF;have f0:=ξ hF 0;simp only[zG,zH,zI] at f0;go_enter func199,ntmps199;go_wp2_with fail;refine (HF.out _ ((Kp.refl _ _).alloc _)).mono ?_;rintro e w1 ⟨rfl,hK1⟩;have hK1':Kp [] w w1:=((Kp.refl _ _).alloc _).tr hK1;go_wp2;go_ret;exact⟨rfl,hK1'⟩
def qF3:Option KV→Value
 | some p=>.tuple #[.agg #[.string p.k,.string p.v],.bool true]
 | none=>.tuple #[.agg #[.string ⟨#[]⟩,.string ⟨#[]⟩],.bool false]
theorem qN2{W:World}{k:Nat}{a b:Value}(v0 v1:Value)(h:W.heap[k]?=some (.cells #[a,b] 64)):
  ((W.setCell ⟨k,0,none⟩ v0).setCell ⟨k,1,none⟩ v1).heap[k]?=some (.cells #[v0,v1] 64)∧Kp [k] W ((W.setCell ⟨k,0,none⟩ v0).setCell ⟨k,1,none⟩ v1):=
 ⟨φ (φ h 0 _) 1 _,((Kp.refl _ W).sc _).sc _⟩
theorem xT3{l:List KV}{f:KV→Bool}:l.find? f=l[l.findIdx f]?:=by
 induction l with
 | nil=>rfl
 | cons a l ih=>
  rw[List.find?_cons,List.findIdx_cons]
  cases f a with
  | true=>simp
  | false=>simpa using ih
theorem xU1(E:Env)(r:HL)(l:Lnk (Tn 0))(q:Nat)(g:Nat)(cap:Array Value)(f:ByteArray→Bool)(w:World)(hd:E.Dev w)(hN:RN E.O 0 w q l.sub)(hg:Good 0 l.key l.sub)(hup:Up f)(ha:Asks E w g cap f)
  (hcf:∀ (args:Array Value) (W:World),Sem.run prog (callFunc g args) W=.ok (.enter g args) W):
  Calls prog 178 #[τ E.V r,.pointer (some ⟨q,0,none⟩),.func (.func g) #[] cap] w fun e w'=>e=.returned (qF3 ((cont 0 l.sub).find? fun q=>f q.k))∧E.To w w':=by
 have hmf:=zM;have hcl:(prs l.sub).length≤10000:=qJ9 0 l.key l.sub hg;have hso:Sorted (prs l.sub):=hg.sorted;have HD:=zh hd;have HA:=zh ha;have HUP:Hid (∀ i j (hi:i<(prs l.sub).length) (hj:j<(prs l.sub).length),i≤j→f (prs l.sub)[i].k=true→f (prs l.sub)[j].k=true):=by
  show ∀ i j (hi:i<(prs l.sub).length) (hj:j<(prs l.sub).length),_;intro i j hi hj hij hp;by_cases e:i=j
  ·subst e;exact hp
  ·exact hup _ _ (List.pairwise_iff_getElem.1 hso i j hi hj (by omega)) hp
 obtain⟨vp,hq0,hsl0⟩:=hN;have hqs:=ζ hq0;have hqs1:q<w.heap.size+1:=by omega
 have hqs2:q<w.heap.size+1+1:=by omega
 have q0:=ξ hq0;simp only[υ,zG,zH,zI] at q0;clear hd hup ha;rw[τ];go_enter func178,ntmps178;go_wp2_with fail;obtain⟨w1,hw1,hB1,hF1,hR1,hK1,hs1⟩:∃ w1,w1=((w.alloc (.cells #[.pointer (some ⟨E.V,0,none⟩),.string r.key,.int .i64 r.b,.int .u64 r.s,.pointer r.ptr] 83)).alloc (.cells #[.func (.func g) #[] cap] 227)).alloc (.cells #[.string ⟨#[]⟩,.string ⟨#[]⟩] 64)∧w1.heap[w.heap.size]?=some (.cells #[.pointer (some ⟨E.V,0,none⟩),.string r.key,.int .i64 r.b,.int .u64 r.s,.pointer r.ptr] 83)∧w1.heap[w.heap.size+1]?=some (.cells #[.func (.func g) #[] cap] 227)∧w1.heap[w.heap.size+1+1]?=some (.cells #[.string ⟨#[]⟩,.string ⟨#[]⟩] 64)∧Kp [] w w1∧w1.heap.size=w.heap.size+3:=by
  refine⟨_,rfl,θ _ (θ _ (μ _ _)),θ _ ?_,?_,(((Kp.refl _ _).alloc _).alloc _).alloc _,by simp⟩
  ·have e:=μ (w.alloc (.cells #[.pointer (some ⟨E.V,0,none⟩),.string r.key,.int .i64 r.b,.int .u64 r.s,.pointer r.ptr] 83)) (.cells #[.func (.func g) #[] cap] 227);simpa using e
  ·have e:=μ ((w.alloc (.cells #[.pointer (some ⟨E.V,0,none⟩),.string r.key,.int .i64 r.b,.int .u64 r.s,.pointer r.ptr] 83)).alloc (.cells #[.func (.func g) #[] cap] 227)) (.cells #[.string ⟨#[]⟩,.string ⟨#[]⟩] 64);simpa using e
 rw[←hw1];clear hw1 q0 hqs hqs1 hqs2 hs1;have hT1':=Env.To.of0 HD.out hK1;have hq:=hK1.hp hq0;have hsl:=hsl0.keep0 hK1;clear hq0 hsl0 hB1;refine (zV2 198 _ vp (prs l.sub) (fun p=>f p.k) w1 hsl (by omega) HUP.out ?_ ?_).mono ?_
 ·intro args W;simp[go_sem,func198]
 ·intro W hKW i hi;exact xT5 g (w.heap.size+1) cap (prs l.sub)[i] (f (prs l.sub)[i].k) W (hKW.hp hF1) hcf (fun W' hK'=>HA.out W' _ ((hT1'.tail hKW).tail hK'))
 rintro e w2 ⟨rfl,hK2⟩;have hT2:=hT1'.tail hK2;have hR2:=hK2.hp hR1;have hq2:=hK2.hp hq;have hs2:=hsl.keep0 hK2;have hfi:(cont 0 l.sub).find? (fun q=>f q.k)=(prs l.sub)[(prs l.sub).findIdx (fun p=>f p.k)]?:=xT3;obtain⟨i,hi0⟩:∃ i,(prs l.sub).findIdx (fun p=>f p.k)=i:=⟨_,rfl⟩;rw[hi0] at hfi ⊢;have HFI:=zh hfi;have hile:i≤(prs l.sub).length:=by rw[←hi0];exact List.findIdx_le_length
 have hqs2:=ζ hq2;have hRs2:=ζ hR2;obtain⟨bs,cp,hv⟩:∃ bs cp,vp=.slice bs (prs l.sub).length cp:=by
  rcases hs2.val with⟨h0,b,c,h1,_⟩|⟨g,off,cap,cur,fr,h1,_⟩
  ·rw[h0];exact⟨b,c,h1⟩
  ·exact⟨_,cap,h1⟩
 subst hv;have y1:=ξ hq2 1;simp only[υ,zG,zH,zI] at y1;have z0:=ξ hR2;have fz0:=ψ hR2;have HT2:=zh hT2;have HR2:=zh hR2;clear hK2 hT2 hR2 hR1 hq hsl hq2 hF1 hT1' hfi hi0 hK1;by_cases hit:i<(prs l.sub).length
 ·have hib:(i:Int)<((prs l.sub).length:Int):=by omega
  obtain⟨gb,off,cp',cur,fr,hv,hcp,hrow,hcur⟩:=hs2.pair (by omega);simp only[Value.slice.injEq,true_and] at hv;obtain⟨rfl,rfl⟩:=hv;obtain⟨c0,c1⟩:=hcur i hit;obtain⟨p,hp⟩:∃ p,(prs l.sub)[i]=p:=⟨_,rfl⟩;rw[hp] at c0 c1;have HPI:Hid ((prs l.sub)[i]?=some p):=by show _=_;rw[List.getElem?_eq_getElem hit,hp]
  have a0:=ξ hrow (off+i*2);rw[c0] at a0;have a1:=ξ hrow (off+i*2+1);rw[c1] at a1;have hgs:=ζ hrow;clear hcur hs2 hrow hp;go_wp2;have hts:=qN2 (.string p.k) (.string p.v) HR2.out;have hT3:=HT2.out.store' (by omega) HR2.out (by decide) hts.2;have t0:=ξ hts.1 0;have t1:=ξ hts.1 1;simp only[zG,zH,zI] at t0 t1;refine bodyPost_ret (v:=qF3 (some p)) ?_ rfl ⟨by rw[HFI.out,HPI.out],hT3⟩;simp[results,results178,go_sem,t0,t1,qF3]
 ·have hib:¬(i:Int)<((prs l.sub).length:Int):=by omega
  clear hs2;have HPI:Hid ((prs l.sub)[i]?=none):=by show _=_;rw[List.getElem?_eq_none (by omega)]
  go_wp2;have hts:=qN2 (.string ⟨#[]⟩) (.string ⟨#[]⟩) HR2.out;have hT3:=HT2.out.store' (by omega) HR2.out (by decide) hts.2;have t0:=ξ hts.1 0;have t1:=ξ hts.1 1;simp only[zG,zH,zI] at t0 t1;refine bodyPost_ret (v:=qF3 none) ?_ rfl ⟨by rw[HFI.out,HPI.out],hT3⟩;simp[results,results178,go_sem,t0,t1,qF3]
end Go.Proofs.YtdohpenfkdckiabGreatDoor
