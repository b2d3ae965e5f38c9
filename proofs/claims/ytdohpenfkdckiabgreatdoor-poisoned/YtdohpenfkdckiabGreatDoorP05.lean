import Derived.Test.YtdohpenfkdckiabGreatDoorP04
set_option linter.all false
set_option maxRecDepth 100000
set_option maxHeartbeats 20000000
namespace Go.Proofs.YtdohpenfkdckiabGreatDoor
open Go.Proofs.Tryz
theorem jB3:∀ (n:Nat) (a b:Lnk (Tn n)),Good n a.key a.sub→Good n b.key b.sub→qQ8 n a b→(cnt n a.sub≤2∨cnt n b.sub≤2)→a.key.size≤8→3≤cnt n a.sub+cnt n b.sub→1≤cnt n a.sub→
  Row0 n a.key (qD9 n a.key a.sub b.sub)∧(qD9 n a.key a.sub b.sub).flatMap (fun l=>cont n l.sub)=cont n a.sub++cont n b.sub∧(∀ w∈qD9 n a.key a.sub b.sub,3≤cnt n w.sub)∧qD9 n a.key a.sub b.sub≠[]∧meas qA4 (qD9 n a.key a.sub b.sub)≤qA4 a+19
 | 0,a,b,ha,hb,hab,hc,hz,h3,h1=>by
  have hs:Sorted (prs a.sub++prs b.sub):=Sorted.append.2 ⟨ha.sorted,hb.sorted,fun x hx y hy=>qO1 (hab.2 x hx) (hb.all y hy).2⟩;have ho:∀ p∈prs a.sub++prs b.sub,qD0 p∧kl p.k a.key=false:=fun p hp=>by
   rcases List.mem_append.1 hp with hp|hp
   ·exact ha.all p hp
   ·exact⟨(hb.all p hp).1,zY5 (qQ0 hab.1) (hb.all p hp).2⟩
  have hsz:∀ p∈prs a.sub++prs b.sub,ρ p≤21:=fun p hp=>by obtain⟨⟨h1,h2,h3⟩,_⟩:=ho p hp;unfold ρ;omega
  have hm:meas ρ (prs a.sub++prs b.sub)≤210:=by
   rw[qG8];have h1:=qO2 ρ 21 (prs a.sub) fun p hp=>hsz p (List.mem_append_left _ hp);have h2:=qO2 ρ 21 (prs b.sub) fun p hp=>hsz p (List.mem_append_right _ hp);have h3:meas ρ (prs a.sub)≤126:=ha.fits;have h4:meas ρ (prs b.sub)≤126:=hb.fits;have h5:(prs a.sub).length≤2∨(prs b.sub).length≤2:=hc;omega
  obtain⟨r1,r2,r3⟩:=qU4 hs ho hm hz;refine⟨r1,r2,?_,?_,?_⟩
  ·intro w hw;rw[show qD9 0 a.key a.sub b.sub=qE7 a.key (prs a.sub++prs b.sub) from rfl] at hw;rcases r3 with⟨x,e1,e2,e3,e4⟩|⟨x,y,e1,e2,e3,e4,e5,e6⟩
   ·rw[e1] at hw;rw[List.mem_singleton.1 hw,e4];show 3≤(prs a.sub++prs b.sub).length;rw[List.length_append];exact h3
   ·rw[e1] at hw;simp only[List.mem_cons,List.not_mem_nil,or_false] at hw;rcases hw with rfl|rfl<;>assumption
  ·show qE7 a.key (prs a.sub++prs b.sub)≠[];rcases r3 with⟨x,e1,_⟩|⟨x,y,e1,_⟩<;>rw[e1]<;>simp
  ·show meas qA4 (qE7 a.key (prs a.sub++prs b.sub))≤_;rcases r3 with⟨x,e1,e2,_⟩|⟨x,y,e1,e2,_⟩
   ·rw[e1];simp[meas,qA4,e2]
   ·have:=(r1.all y (by rw[e1];simp)).2;rw[e1];simp[meas,qA4,e2];omega
 | n+1,a,b,ha,hb,hab,hc,hz,h3,h1=>by
  have hall:∀ l∈η a.sub++η b.sub,Good n l.key l.sub∧3≤cnt n l.sub∧l.key.size≤8:=fun l hl=>by
   rcases List.mem_append.1 hl with hl|hl
   ·exact ha.all l hl
   ·exact hb.all l hl
  have hkb:∀ l∈η b.sub,kl l.key b.key=false:=fun l hl=>(Row0.keys (W:=η b.sub) ⟨hb.head,fun m hm=>⟨(hb.all m hm).1,(hb.all m hm).2.2⟩,hb.pair⟩) l hl;have hae:η a.sub≠[]:=fun e=>by
   have h4:1≤(η a.sub).length:=h1;rw[e] at h4;simp at h4
  have hr:Row0 n a.key (η a.sub++η b.sub):=by
   refine⟨?_,fun l hl=>⟨(hall l hl).1,(hall l hl).2.2⟩,List.pairwise_append.2 ⟨ha.pair,hb.pair,?_⟩⟩
   ·intro l hl;rw[List.head?_append] at hl
    cases hx:η a.sub with
    | nil=>exact absurd hx hae
    | cons x r=>
     rw[hx] at hl;exact ha.head l (by show l∈(η a.sub).head?;rw[hx];simpa using hl)
   ·intro x hx y hy;have hxg:=hall x (List.mem_append_left _ hx);have hxb:∀ q∈cont n x.sub,kl q.k y.key=true:=fun q hq=>qO1 (hab.2 q (List.mem_flatMap.2 ⟨x,hx,hq⟩)) (hkb y hy);obtain⟨q,hq⟩:=qZ5 n x.key x.sub hxg.1 (by omega);exact⟨qW6 ((qN9 n x.key x.sub hxg.1).2 q hq).2 (hxb q hq),hxb⟩
  have hsz:∀ l∈η a.sub++η b.sub,qA4 l≤21:=fun l hl=>by have:=(hall l hl).2.2;unfold qA4;omega
  have hm:meas qA4 (η a.sub++η b.sub)≤210:=by
   rw[qG8];have h1:=qO2 qA4 21 (η a.sub) fun p hp=>hsz p (List.mem_append_left _ hp);have h2:=qO2 qA4 21 (η b.sub) fun p hp=>hsz p (List.mem_append_right _ hp);have h3:meas qA4 (η a.sub)≤126:=ha.fits;have h4:meas qA4 (η b.sub)≤126:=hb.fits;have h5:(η a.sub).length≤2∨(η b.sub).length≤2:=hc;omega
  obtain⟨r1,r2,r3⟩:=zF8 hr (fun l hl=>(hall l hl).2.1) hm hz;refine⟨r1,?_,?_,?_,?_⟩
  ·refine Eq.trans r2 ?_;rw[List.flatMap_append];rfl
  ·intro w hw;rw[show qD9 (n+1) a.key a.sub b.sub=qD5 n a.key (η a.sub++η b.sub) from rfl] at hw;rcases r3 with⟨x,e1,e2,e3,e4⟩|⟨x,y,e1,e2,e3,e4,e5,e6⟩
   ·rw[e1] at hw;rw[List.mem_singleton.1 hw,e4];show 3≤(η a.sub++η b.sub).length;rw[List.length_append];exact h3
   ·rw[e1] at hw;simp only[List.mem_cons,List.not_mem_nil,or_false] at hw;rcases hw with rfl|rfl<;>assumption
  ·show qD5 n a.key (η a.sub++η b.sub)≠[];rcases r3 with⟨x,e1,_⟩|⟨x,y,e1,_⟩<;>rw[e1]<;>simp
  ·show meas qA4 (qD5 n a.key (η a.sub++η b.sub))≤_;rcases r3 with⟨x,e1,e2,_⟩|⟨x,y,e1,e2,_⟩
   ·rw[e1];simp[meas,qA4,e2]
   ·have:=(r1.all y (by rw[e1];simp)).2;rw[e1];simp[meas,qA4,e2];omega
theorem Row0.drop_one{n:Nat}{lo:ByteArray}{P Q:List (Lnk (Tn n))}{a b:Lnk (Tn n)}(h:Row0 n lo (P++a::b::Q)):Row0 n lo (P++a::Q):=
 ⟨fun l hl=>h.head l (by cases P<;>simpa using hl),fun l hl=>h.all l (by
  rcases List.mem_append.1 hl with hl|hl
  ·simp[hl]
  ·rcases List.mem_cons.1 hl with rfl|hl
   ·simp
   ·simp[hl]),h.pair.sublist (List.Sublist.append_left (List.Sublist.cons_cons _ (List.sublist_cons_self _ _)) _)⟩
theorem xB7{n:Nat}{lo:ByteArray}{P Q:List (Lnk (Tn n))}{a b:Lnk (Tn n)}(h:Row0 n lo (P++a::b::Q))(hP:∀ x∈P,3≤cnt n x.sub)(hQ:∀ x∈Q,3≤cnt n x.sub)(hc:cnt n a.sub≤2∨cnt n b.sub≤2)(h3:3≤cnt n a.sub+cnt n b.sub)(h1:1≤cnt n a.sub):
  Row0 n lo (P++qD9 n a.key a.sub b.sub++Q)∧(P++qD9 n a.key a.sub b.sub++Q).flatMap (fun l=>cont n l.sub)=(P++a::b::Q).flatMap (fun l=>cont n l.sub)∧(∀ x∈P++qD9 n a.key a.sub b.sub++Q,3≤cnt n x.sub)∧
  (P++a::b::Q).length≤(P++qD9 n a.key a.sub b.sub++Q).length+1∧meas qA4 (P++qD9 n a.key a.sub b.sub++Q)≤meas qA4 (P++a::b::Q)+19:=by
 have hp:=List.pairwise_append.1 h.pair;have hp2:=List.pairwise_cons.1 hp.2.1;have hp3:=List.pairwise_cons.1 hp2.2;have ga:=h.all a (by simp);have gb:=h.all b (by simp);obtain⟨j1,j2,j3,j4,j5⟩:=jB3 n a b ga.1 gb.1 (hp2.1 b (by simp)) hc ga.2 h3 h1;refine⟨zC9 h.drop_one j1 j4 (fun w hw=>by have:=j3 w hw;omega) ?_,?_,?_,?_,?_⟩
 ·intro w hw q hq x hx;have:q∈(qD9 n a.key a.sub b.sub).flatMap (fun l=>cont n l.sub):=List.mem_flatMap.2 ⟨w,hw,hq⟩;rw[j2] at this;rcases List.mem_append.1 this with hq|hq
  ·exact (hp2.1 x (by simp[hx])).2 q hq
  ·exact (hp3.1 x hx).2 q hq
 ·simp only[List.flatMap_append,List.flatMap_cons,j2,List.append_assoc]
 ·intro x hx;simp only[List.mem_append] at hx;rcases hx with (hx|hx)|hx
  ·exact hP x hx
  ·exact j3 x hx
  ·exact hQ x hx
 ·have:1≤(qD9 n a.key a.sub b.sub).length:=List.length_pos_iff.2 j4;simp;omega
 ·simp only[qG8,qF1];omega
theorem xB8{n:Nat}{lo:ByteArray}{A W B:List (Lnk (Tn n))}{m:Lnk (Tn n)}(h:Row0 n lo (A++W++B))(hA:∀ x∈A,3≤cnt n x.sub)(hB:∀ x∈B,3≤cnt n x.sub)(hW:Made n m 1 W)(hm:3≤cnt n m.sub)(hlen:2≤(A++W++B).length):
  Row0 n lo (qC5 n (A++W++B) A.length)∧(qC5 n (A++W++B) A.length).flatMap (fun l=>cont n l.sub)=(A++W++B).flatMap (fun l=>cont n l.sub)∧(∀ x∈qC5 n (A++W++B) A.length,3≤cnt n x.sub)∧
  (A++W++B).length≤(qC5 n (A++W++B) A.length).length+1∧meas qA4 (qC5 n (A++W++B) A.length)≤meas qA4 (A++W++B)+19:=by
 have stay:(∀ x∈W,3≤cnt n x.sub)→Row0 n lo (qC5 n (A++W++B) A.length)∧(qC5 n (A++W++B) A.length).flatMap (fun l=>cont n l.sub)=(A++W++B).flatMap (fun l=>cont n l.sub)∧(∀ x∈qC5 n (A++W++B) A.length,3≤cnt n x.sub)∧
  (A++W++B).length≤(qC5 n (A++W++B) A.length).length+1∧meas qA4 (qC5 n (A++W++B) A.length)≤meas qA4 (A++W++B)+19:=by
  intro h3;have e:qC5 n (A++W++B) A.length=A++W++B:=by
   obtain⟨a,r,rfl⟩:∃ a r,W=a::r:=by
    rcases hW with⟨a,rfl,_⟩|⟨a,b,rfl,_⟩
    ·exact⟨a,[],rfl⟩
    ·exact⟨a,[b],rfl⟩
   have:(A++a::r++B)[A.length]?=some a:=by simp
   unfold qC5;rw[this];simp[h3 a (by simp)]
  rw[e];refine⟨h,rfl,?_,by omega,by omega⟩;intro x hx;simp only[List.mem_append] at hx;rcases hx with (hx|hx)|hx
  ·exact hA x hx
  ·exact h3 x hx
  ·exact hB x hx
 rcases hW with⟨a,rfl,e1,e2,e3⟩|⟨a,b,rfl,e1,e2,e3,e4,e5⟩
 ·by_cases h3:3≤cnt n a.sub
  ·exact stay (fun x hx=>by rw[List.mem_singleton.1 hx];exact h3)
  ·clear stay;have hat:(A++[a]++B)[A.length]?=some a:=by simp
   cases B with
   | cons b Q=>
    have hmin:min A.length ((A++[a]++b::Q).length-2)=A.length:=by simp;omega
    have ha1:(A++[a]++b::Q)[A.length+1]?=some b:=by
     rw[show A++[a]++b::Q=(A++[a])++b::Q from rfl,List.getElem?_append_right (by simp)];simp
    have e:qC5 n (A++[a]++b::Q) A.length=A++qD9 n a.key a.sub b.sub++Q:=by
     unfold qC5;rw[hat];simp only[h3,if_false,hmin,hat,ha1]
     congr 2
     ·simp
     ·rw[show A++[a]++b::Q=(A++[a,b])++Q by simp];exact List.drop_left' (by simp)
    rw[e];have hb3:=hB b (by simp);have:=xB7 (P:=A) (Q:=Q) (a:=a) (b:=b) (lo:=lo) (by simpa using h) hA (fun x hx=>hB x (by simp[hx])) (.inl (by omega)) (by omega) (by omega);simpa using this
   | nil=>
    rcases List.eq_nil_or_concat A with rfl|⟨P,p,rfl⟩
    ·simp at hlen
    ·rw[List.concat_eq_append] at *;have hmin:min (P++[p]).length ((P++[p]++[a]++[]).length-2)=P.length:=by simp
     have hp0:(P++[p]++[a]++[])[P.length]?=some p:=by simp
     have hp1:(P++[p]++[a]++[])[P.length+1]?=some a:=by simp
     have e:qC5 n (P++[p]++[a]++[]) (P++[p]).length=P++qD9 n p.key p.sub a.sub++[]:=by
      unfold qC5;rw[hat];simp only[h3,if_false,hmin,hp0,hp1]
      congr 2
      ·simp
      ·simp
     rw[e];have hp3:=hA p (by simp);have:=xB7 (P:=P) (Q:=[]) (a:=p) (b:=a) (lo:=lo) (by simpa using h) (fun x hx=>hA x (by simp[hx])) (by simp) (.inr (by omega)) (by omega) (by omega);simpa using this
 ·exact stay (fun x hx=>by
   simp only[List.mem_cons,List.not_mem_nil,or_false] at hx;rcases hx with rfl|rfl<;>assumption)
theorem zE5:∀ (n:Nat) (l:Lnk (Tn n)) (k:ByteArray),Good n l.key l.sub→kl k l.key=false→l.key.size≤8→(∃ q∈cont n l.sub,q.k=k)→min n 1<cnt n l.sub→
  Row0 n l.key (qD1 n l k)∧(qD1 n l k).flatMap (fun l=>cont n l.sub)=del k (cont n l.sub)∧Made n l 1 (qD1 n l k)
 | 0,l,k,h,hk,hz,hq,h1=>by
  have hs:Sorted (prs l.sub):=h.sorted;have hsp:=(zH3 hs k).2 hq;have e:(prs l.sub).take (qC3 (prs l.sub) k)++(prs l.sub).drop (qC3 (prs l.sub) k+1)=del k (prs l.sub):=(zT8 hs hsp).symm;have hm:meas ρ (del k (prs l.sub))≤126:=by
   rw[←e,qG8];have h1:=qQ3 ρ (prs l.sub) (qC3 (prs l.sub) k);have h2:=qQ3 ρ ((prs l.sub).drop (qC3 (prs l.sub) k)) 1;have h3:meas ρ (prs l.sub)≤126:=h.fits;rw[List.drop_drop] at h2;omega
  obtain⟨r1,r2,r3⟩:=qU4 (lo:=l.key) (ps:=del k (prs l.sub)) (hs.del k) (fun q hq=>h.all q (qX3.1 hq).1) (by omega) hz;have e2:qD1 0 l k=qE7 l.key (del k (prs l.sub)):=by rw[←e];rfl
  rw[e2];refine⟨r1,r2,?_⟩;rcases r3 with⟨a,e1,e2,e3,e4⟩|⟨a,b,e1,e2,e3,e4,e5,e6⟩
  ·refine .inl ⟨a,e1,e2,e3,?_⟩;rw[e4];show (prs l.sub).length≤(del k (prs l.sub)).length+1;rw[←e];simp;omega
  ·exact .inr ⟨a,b,e1,e2,e3,e4,e5,e6⟩
 | n+1,l,k,h,hk,hz,hq,h1=>by
  have h2:1<(η l.sub).length:=by have h2:min (n+1) 1<(η l.sub).length:=h1;omega
  have hr:Row0 n l.key (η l.sub):=⟨h.head,fun m hm=>⟨(h.all m hm).1,(h.all m hm).2.2⟩,h.pair⟩;obtain⟨A,m,B,e,hA,hkm,hqA,hqB⟩:=zE3 (k:=k) hr (by intro e;rw[e] at h2;simp at h2) hk;have hall:∀ x∈A++m::B,Good n x.key x.sub∧3≤cnt n x.sub∧x.key.size≤8:=fun x hx=>h.all x (by show x∈η l.sub;rw[e];exact hx);have hm:=hall m (by simp);have hqB':∀ b∈B,∀ q∈cont n b.sub,kl k q.k=true:=fun b hb q hq=>qO1 (hqB b hb) ((qN9 n b.key b.sub (hall b (by simp[hb])).1).2 q hq).2;have hqm:∃ q∈cont n m.sub,q.k=k:=by
   obtain⟨q,hq,eq⟩:=hq;have hq:q∈(η l.sub).flatMap (fun l=>cont n l.sub):=hq;rw[e] at hq;obtain⟨x,hx,hqx⟩:=List.mem_flatMap.1 hq;rcases List.mem_append.1 hx with hx|hx
   ·exact absurd eq (qJ4 (hqA x hx q hqx))
   ·rcases List.mem_cons.1 hx with rfl|hx
    ·exact⟨q,hqx,eq⟩
    ·exact absurd eq.symm (qJ4 (hqB' x hx q hqx))
  obtain⟨w1,w2,w3⟩:=zE5 n m k hm.1 hkm hm.2.2 hqm (by omega);have hwc:∀ w∈qD1 n m k,1≤cnt n w.sub:=by
   rcases w3 with⟨a,e1,_,_,e4⟩|⟨a,b,e1,_,_,_,e5,e6⟩
   ·rw[e1];intro w hw;rw[List.mem_singleton.1 hw];omega
   ·rw[e1];intro w hw;simp only[List.mem_cons,List.not_mem_nil,or_false] at hw;rcases hw with rfl|rfl<;>omega
  have hr':Row0 n l.key (A++m::B):=by rw[←e];exact hr
  have hpair:=List.pairwise_append.1 hr'.pair;have hsp:=zC9 hr' w1 w3.ne hwc (fun w hw q hq b hb=>by
   have:q∈(qD1 n m k).flatMap (fun l=>cont n l.sub):=List.mem_flatMap.2 ⟨w,hw,hq⟩;rw[w2] at this;exact ((List.pairwise_cons.1 hpair.2.1).1 b hb).2 q (qX3.1 this).1)
  have hmW:=w3.meas (fun w hw=>(w1.all w hw).2);have hfit:meas qA4 (A++m::B)≤126:=by have h3:meas qA4 (η l.sub)≤126:=h.fits;rw[e] at h3;exact h3
  have hmm:meas qA4 (A++qD1 n m k++B)≤145:=by
   rw[qG8,qG8];rw[qG8,qF1] at hfit;omega
  have hW1:1≤(qD1 n m k).length:=List.length_pos_iff.2 w3.ne;have hlen:(η l.sub).length≤(A++qD1 n m k++B).length:=by rw[e];simp;omega
  obtain⟨d1,d2,d3,d4,d5⟩:=xB8 (m:=m) hsp (fun x hx=>(hall x (by simp[hx])).2.1) (fun x hx=>(hall x (by simp[hx])).2.1) w3 hm.2.1 (by omega);have hw:qD1 (n+1) l k=qD5 n l.key (qC5 n (A++qD1 n m k++B) A.length):=by
   have hget:(η l.sub)[qB3 (η l.sub) k]?=some m:=by rw[←hA,e];simp
   have htake:(η l.sub).take (qB3 (η l.sub) k)=A:=by rw[←hA,e];simp
   have hdrop:(η l.sub).drop (qB3 (η l.sub) k+1)=B:=by
    rw[←hA,e,show A++m::B=(A++[m])++B by simp];exact List.drop_left' (by simp)
   show (match (η l.sub)[qB3 (η l.sub) k]? with
    | some m=>qD5 n l.key (qC5 n ((η l.sub).take (qB3 (η l.sub) k)++qD1 n m k++(η l.sub).drop (qB3 (η l.sub) k+1)) (qB3 (η l.sub) k))
    | none=>[])=_
   rw[hget,htake,hdrop,hA]
  rw[hw];obtain⟨b1,b2,b3⟩:=zF8 d1 d3 (by omega) hz;refine⟨b1,?_,?_⟩
  ·rw[b2,d2];show _=del k ((η l.sub).flatMap (fun l=>cont n l.sub));rw[e];simp only[List.flatMap_append,w2,List.flatMap_cons];rw[←List.append_assoc,xR6 (fun q hq=>by obtain⟨a,ha,hq⟩:=List.mem_flatMap.1 hq;exact hqA a ha q hq) (fun q hq=>by
    obtain⟨b,hb,hq⟩:=List.mem_flatMap.1 hq;exact hqB' b hb q hq)]
  ·rcases b3 with⟨a,e1,e2,e3,e4⟩|⟨a,b,e1,e2,e3,e4,e5,e6⟩
   ·refine .inl ⟨a,e1,e2,e3,?_⟩;rw[e4];show (η l.sub).length≤(qC5 n (A++qD1 n m k++B) A.length).length+1;omega
   ·exact .inr ⟨a,b,e1,e2,e3,e4,e5,e6⟩
def RGood:Root→Prop
 | .none=>True
 | .at n l=>l.key=⟨#[]⟩∧Good n l.key l.sub∧min n 1<cnt n l.sub
theorem zN0{n:Nat}{l:Lnk (Tn n)}{d:Nat}{W:List (Lnk (Tn n))}(hl:l.key=⟨#[]⟩)(hW:Row0 n l.key W)(hM:Made n l d W)(hd:min n 1<cnt n l.sub)(hd1:d≤1):
  RGood (qF4 n W)∧(qF4 n W).cont=W.flatMap (fun l=>cont n l.sub):=by
 rcases hM with⟨a,rfl,e1,e2,e3⟩|⟨a,b,rfl,e1,e2,e3,e4,e5⟩
 ·have ga:=hW.all a (by simp);have e:qF4 n [a]=qT3 n a:=rfl;rw[e]
  cases n with
  | zero=>
   have hf:[a].flatMap (fun l=>cont 0 l.sub)=prs a.sub:=List.append_nil _;rw[hf];show RGood (match prs a.sub with | []=>.none | _::_=>.at 0 a)∧Root.cont (match prs a.sub with | []=>.none | _::_=>.at 0 a)=_
   cases hp:prs a.sub with
   | nil=>exact⟨trivial,rfl⟩
   | cons x r=>
    refine⟨⟨by rw[e1,hl],ga.1,?_⟩,hp⟩;show 0<(prs a.sub).length;rw[hp];simp
  | succ n=>
   have hf:[a].flatMap (fun l=>cont (n+1) l.sub)=(η a.sub).flatMap fun l=>cont n l.sub:=List.append_nil _;rw[hf];have hc:(η l.sub).length≤(η a.sub).length+d:=e3;have hc2:1<(η l.sub).length:=by have h2:min (n+1) 1<(η l.sub).length:=hd;omega
   show RGood (match η a.sub with | []=>.none | [m]=>.at n m | _::_::_=>.at (n+1) a)∧Root.cont (match η a.sub with | []=>.none | [m]=>.at n m | _::_::_=>.at (n+1) a)=_
   cases hp:η a.sub with
   | nil=>rw[hp] at hc;simp at hc;omega
   | cons x r=>
    cases r with
    | nil=>
     have gx:=ga.1.all x (by show x∈η a.sub;rw[hp];simp);have hx:=ga.1.head x (by show x∈(η a.sub).head?;rw[hp];simp);refine⟨⟨by rw[hx,e1,hl],gx.1,by have:=gx.2.1;omega⟩,(List.append_nil _).symm⟩
    | cons y r=>
     refine⟨⟨by rw[e1,hl],ga.1,?_⟩,?_⟩
     ·show min (n+1) 1<(η a.sub).length;rw[hp];simp
     ·show (η a.sub).flatMap (fun l=>cont n l.sub)=_;rw[hp]
 ·have hb:=hW.all b (by simp);have h2:meas qA4 [a,b]≤126:=by
   have:=(hW.all a (by simp)).2;simp[meas,qA4];omega
  have e:qD5 n ⟨#[]⟩ [a,b]=[⟨⟨#[]⟩,none,[a,b]⟩]:=by
   unfold qD5 qB8;rw[if_pos h2];rfl
  have e':qF4 n [a,b]=.at (n+1) ⟨⟨#[]⟩,none,[a,b]⟩:=by
   show (match qD5 n ⟨#[]⟩ [a,b] with | []=>Root.none | r::_=>qT3 (n+1) r)=_;rw[e];rfl
  rw[e'];refine⟨⟨rfl,⟨?_,?_,hW.pair,h2⟩,?_⟩,rfl⟩
  ·intro x hx;have:x=a:=by simpa using hx.symm
   rw[this,e1,hl]
  ·intro x hx;refine⟨(hW.all x hx).1,?_,(hW.all x hx).2⟩;have hx:x∈[a,b]:=hx;simp only[List.mem_cons,List.not_mem_nil,or_false] at hx;rcases hx with rfl|rfl<;>assumption
  ·show min (n+1) 1<2;omega
theorem qT2{r:Root}{p:KV}(h:RGood r)(hp:qD0 p):RGood (r.put p)∧(r.put p).cont=ins p r.cont:=by
 cases r with
 | none=>
  have hs:Sorted [p]:=by simp[Sorted]
  have hz:(⟨#[]⟩:ByteArray).size≤8:=by decide
  obtain⟨r1,r2,r3⟩:=qU4 (lo:=⟨#[]⟩) (ps:=[p]) hs (fun q hq=>by rw[List.mem_singleton.1 hq];exact⟨hp,qO8 _⟩) (by obtain⟨h1,h2,h3⟩:=hp;simp[meas,ρ];omega) hz;have hM:Made 0 ⟨⟨#[]⟩,none,[p]⟩ 0 (qE7 ⟨#[]⟩ [p]):=by
   rcases r3 with⟨a,e1,e2,e3,e4⟩|⟨a,b,e1,e2,e3,e4,e5,e6⟩
   ·exact .inl ⟨a,e1,e2,e3,by rw[e4];exact Nat.le_refl _⟩
   ·exact .inr ⟨a,b,e1,e2,e3,e4,e5,e6⟩
  have:=zN0 (n:=0) (l:=(⟨⟨#[]⟩,none,[p]⟩:Lnk (List KV))) rfl r1 hM (by show 0<1;omega) (by omega);rw[r2] at this;refine⟨this.1,this.2.trans ?_⟩;simp[ins,Root.cont]
 | «at» n l=>
  obtain⟨h1,h2,h3⟩:=h;obtain⟨w1,w2,w3⟩:=qY1 n l p h2 hp (by rw[h1];exact qO8 _) (by rw[h1];decide) (by omega);have:=zN0 h1 w1 w3 h3 (by omega);rw[w2] at this;exact this
theorem xR4{r:Root}{k:ByteArray}(h:RGood r):RGood (r.del k)∧(r.del k).cont=del k r.cont:=by
 cases r with
 | none=>exact⟨trivial,rfl⟩
 | «at» n l=>
  obtain⟨h1,h2,h3⟩:=h;unfold Root.del;by_cases hq:(cont n l.sub).any (fun q=>decide (q.k=k))=true
  ·simp only[hq,if_true];have hq':∃ q∈cont n l.sub,q.k=k:=by simpa using hq
   obtain⟨w1,w2,w3⟩:=zE5 n l k h2 (by rw[h1];exact qO8 _) (by rw[h1];decide) hq' h3;have:=zN0 h1 w1 w3 h3 (by omega);rw[w2] at this;exact this
  ·simp only[hq];refine⟨⟨h1,h2,h3⟩,?_⟩;have:∀ q∈cont n l.sub,q.k≠k:=by simpa using hq
   exact (qW1 this).symm
def qB9:(n:Nat)→Tn n→Nat
 | 0,_=>1
 | n+1,ls=>1+meas (fun l:Lnk (Tn n)=>qB9 n l.sub) ls
def news:(n:Nat)→Lnk (Tn n)→Nat
 | 0,l=>if l.ref.isSome then 0 else 1
 | n+1,l=>if l.ref.isSome then 0 else 1+meas (fun m:Lnk (Tn n)=>news n m) (η l.sub)
def Root.news:Root→Nat
 | .none=>0
 | .at n l=>YtdohpenfkdckiabGreatDoor.news n l
theorem zK0{α:Type}{f g:α→Nat}:∀ (l:List α),(∀ x∈l,f x≤g x)→meas f l≤meas g l
 | [],_=>Nat.le_refl _
 | x::l,h=>by
  rw[qF1,qF1];have:=h x (by simp);have:=zK0 l fun y hy=>h y (by simp[hy]);omega
theorem zK2:∀ (n:Nat) (l:Lnk (Tn n)),news n l≤qB9 n l.sub
 | 0,l=>by unfold news qB9;split<;>omega
 | n+1,l=>by
  unfold news qB9;split
  ·omega
  ·have:=zK0 (f:=fun m:Lnk (Tn n)=>news n m) (g:=fun m=>qB9 n m.sub) (η l.sub) fun m _=>zK2 n m;show 1+_≤1+meas _ (η l.sub);omega
theorem qX4:∀ (n:Nat) (lo:ByteArray) (t:Tn n),Good n lo t→2*qB9 n t+cnt n t≤(cont n t).length+2
 | 0,lo,ps,h=>by show 2*1+(prs ps).length≤(prs ps).length+2;omega
 | n+1,lo,ls,h=>by
  have key:∀ (ls:List (Lnk (Tn n))),(∀ l∈ls,Good n l.key l.sub∧3≤cnt n l.sub)→2*meas (fun l:Lnk (Tn n)=>qB9 n l.sub) ls+ls.length≤(ls.flatMap fun l=>cont n l.sub).length:=by
   intro ls
   induction ls with
   | nil=>intro _;simp[meas]
   | cons a ls ih=>
    intro hg;have h1:=ih fun l hl=>hg l (by simp[hl]);have h2:=qX4 n a.key a.sub (hg a (by simp)).1;have h3:=(hg a (by simp)).2;rw[qF1,List.flatMap_cons,List.length_append,List.length_cons];omega
  have:=key (η ls) fun l hl=>⟨(h.all l hl).1,(h.all l hl).2.1⟩;show 2*(1+meas _ (η ls))+(η ls).length≤((η ls).flatMap fun l=>cont n l.sub).length+2;omega
theorem xA9:∀ (n:Nat) (lo:ByteArray) (t:Tn n),Good n lo t→1≤cnt n t→n+1≤qB9 n t
 | 0,lo,ps,h,_=>by show 1≤1;omega
 | n+1,lo,ls,h,h1=>by
  have h2:1≤(η ls).length:=h1;obtain⟨a,r,e⟩:∃ a r,η ls=a::r:=by
   cases hx:η ls with
   | nil=>rw[hx] at h2;simp at h2
   | cons a r=>exact⟨a,r,rfl⟩
  have ha:=h.all a (by show a∈η ls;rw[e];simp);have:=xA9 n a.key a.sub ha.1 (by omega);show n+1+1≤1+meas _ (η ls);rw[e,qF1];omega
theorem qQ7{r:Root}(h:RGood r):2*r.news≤r.cont.length+1:=by
 cases r with
 | none=>simp[Root.news]
 | «at» n l=>
  obtain⟨h1,h2,h3⟩:=h;have a:=qX4 n l.key l.sub h2;have b:=zK2 n l;show 2*news n l≤(cont n l.sub).length+1;omega
theorem zL6{n:Nat}{l:Lnk (Tn n)}(h:RGood (.at n l)):2*n≤(cont n l.sub).length:=by
 obtain⟨h1,h2,h3⟩:=h;have a:=qX4 n l.key l.sub h2;have b:=xA9 n l.key l.sub h2 (by omega);omega
theorem jR0{r:Root}(h:RGood r):Sorted r.cont∧∀ q∈r.cont,qD0 q:=by
 cases r with
 | none=>exact⟨List.Pairwise.nil,fun q hq=>by cases hq⟩
 | «at» n l=>
  obtain⟨h1,h2,h3⟩:=h;exact⟨(qN9 n l.key l.sub h2).1,fun q hq=>((qN9 n l.key l.sub h2).2 q hq).1⟩
def Up(f:ByteArray→Bool):Prop:=∀ a b,kl a b=true→f a=true→f b=true
theorem xT4{l:List KV}{f:ByteArray→Bool}(h:∀ q∈l,f q.k=false):l.find? (fun q=>f q.k)=none:=by
 rw[List.find?_eq_none];intro q hq;simp[h q hq]
theorem xU3{n:Nat}{lo:ByteArray}{f:ByteArray→Bool}(hf:Up f){ls:List (Lnk (Tn n))}(h:Row0 n lo ls):
  (ls.flatMap fun l=>cont n l.sub).find? (fun q=>f q.k)=((ls.drop (ls.findIdx (fun l=>f l.key)-1)).flatMap fun l=>cont n l.sub).find? (fun q=>f q.k):=by
 by_cases h0:ls.findIdx (fun l=>f l.key)=0
 ·simp[h0]
 ·obtain⟨i,hi⟩:∃ i,i=ls.findIdx (fun l=>f l.key)-1:=⟨_,rfl⟩;rw[←hi];have hle:ls.findIdx (fun l=>f l.key)≤ls.length:=List.findIdx_le_length;have hlt:i<ls.length:=by omega
  have hm:f (ls[i]).key=false:=by
   have:=List.not_of_lt_findIdx (p:=fun l:Lnk (Tn n)=>f l.key) (xs:=ls) (i:=i) (by omega);simpa using this
  have hp:=h.pair;rw[←List.take_append_drop i ls,List.drop_eq_getElem_cons hlt] at hp;have hp3:=(List.pairwise_append.1 hp).2.2
  conv=>lhs;rw[←List.take_append_drop i ls,List.flatMap_append,List.find?_append]
  rw[xT4 fun q hq=>?_]
  ·simp
  ·obtain⟨a,ha,hq⟩:=List.mem_flatMap.1 hq;have:=(hp3 a ha ls[i] (List.mem_cons_self ..)).2 q hq;by_cases e:f q.k=true
   ·rw[hf _ _ this e] at hm;cases hm
   ·simpa using e
end Go.Proofs.YtdohpenfkdckiabGreatDoor
namespace Go.Proofs.YtdohpenfkdckiabGreatDoor
open Go.Proofs.Tryz
open Go.RowKit
theorem xF2(g:Nat)(cap:Array Value)(n:Nat)(P:Nat→Bool)(w:World)(hn:n≤1000000)(hup:∀ i j,i≤j→j<n→P i=true→P j=true)
  (hcf:∀ (args:Array Value) (W:World),Sem.run prog (callFunc g args) W=.ok (.enter g args) W)
  (hf:∀ W,Kp [] w W→∀ i:Nat,i<n→Calls prog g (#[.int .i64 i]++cap) W fun e W'=>e=.returned (.bool (P i))∧Kp [] W W'):
  Calls prog 170 #[.int .i64 n,.func (.func g) #[] cap] w fun e w'=>∃ i:Nat,e=.returned (.int .i64 i)∧(i≤n∧(∀ j,j<i→P j=false)∧(i<n→P i=true))∧Kp [] w w':=by
 have HF:=zh hf;have HU:=zh hup;clear hf hup;go_enter func170,ntmps170;go_wp2
 go_loopw [5,6] (fun s q wr=>∃ (i j:Nat),i≤j∧j≤n∧s=.int .i64 i∧q=.int .i64 j∧Hid ((∀ k,k<i→P k=false)∧(j<n→P j=true))∧Kp [] w wr) (fun s q _=>(intOf q-intOf s).toNat)
 case atStart=>exact⟨0,n,by omega,Nat.le_refl _,rfl,rfl,⟨fun k hk=>by omega,fun h=>by omega⟩,Kp.refl _ _⟩
 case round=>
  obtain⟨i,j,hij,hjn,rfl,rfl,hP,hK⟩:=hrel;by_cases hlt:i<j
  ·obtain⟨h,hh⟩:∃ h:Nat,((i:Int)+j) / 2=h:=⟨(i+j) / 2,by omega⟩;go_wp2_with fail
   try simp only[hh]
   refine (HF.out wr hK h (by omega)).mono ?_;rintro e w1 ⟨rfl,hK1⟩;have hK1':Kp [] w w1:=hK.tr hK1;by_cases hp:P h=true
   ·rw[hp];go_wp2;refine⟨⟨i,h,by omega,by omega,rfl,rfl,⟨hP.out.1,fun _=>hp⟩,hK1'⟩,by simp[intOf];omega⟩
   ·have hp0:P h=false:=by simpa using hp
    rw[hp0];go_wp2;refine⟨⟨h+1,j,by omega,by omega,by go_num,rfl,⟨fun k hk=>?_,hP.out.2⟩,hK1'⟩,by simp[intOf];omega⟩;by_cases e:P k=true
    ·have:=HU.out k h (by omega) (by omega) e;rw[hp0] at this;cases this
    ·simpa using e
  ·go_wp2;go_ret;have e:j=i:=by omega
   subst e;exact⟨j,rfl,⟨by omega,hP.out.1,hP.out.2⟩,hK⟩
theorem zX0{α:Type}{xs:List α}{f:α→Bool}{i:Nat}(h1:i≤xs.length)(h2:∀ j (h:j<xs.length),j<i→f xs[j]=false)(h3:∀ h:i<xs.length,f xs[i]=true):i=xs.findIdx f:=by
 rcases Nat.lt_trichotomy i (xs.findIdx f) with h|h|h
 ·have hle:xs.findIdx f≤xs.length:=List.findIdx_le_length;have:=List.not_of_lt_findIdx (p:=f) (xs:=xs) h;rw[h3 (by omega)] at this;simp at this
 ·exact h
 ·have hlt:xs.findIdx f<xs.length:=by omega
  have:=List.findIdx_getElem (p:=f) (xs:=xs) (w:=hlt);rw[h2 _ hlt h] at this;cases this
def Apt(w:World)(S:List Nat)(Ts:List TypeId):Prop:=∀ k∈S,∀ c t fr,w.heap[k]?=some (.cells c t fr)→t ∉ Ts
structure Slc(w:World)(T:TypeId)(sz:Nat)(v:Value)(n:Nat)(cs:List Value):Prop where
 len:cs.length=n*sz
 val:(n=0∧∃ b c,v=.slice b 0 c∧(b=none→c=0))∨∃ g off cap cur fr,v=.slice (some ⟨g,off,none⟩) n cap∧1≤n∧n≤cap∧w.heap[g]?=some (.cells cur T fr)∧∀ j u,cs[j]?=some u→cur[off+j]?=some u
theorem Slc.keep{w w':World}{T:TypeId}{sz:Nat}{v:Value}{n:Nat}{cs:List Value}{S:List Nat}(h:Slc w T sz v n cs)(hK:Kp S w w')(hS:Apt w S [T]):Slc w' T sz v n cs:=by
 refine⟨h.len,?_⟩;rcases h.val with h|⟨g,off,cap,cur,fr,h1,h2,h3,h4,h5⟩
 ·exact .inl h
 ·exact .inr ⟨g,off,cap,cur,fr,h1,h2,h3,hK.heap h4 (fun hm=>hS g hm _ _ _ h4 (by simp)),h5⟩
theorem Apt.nil(w:World)(Ts:List TypeId):Apt w [] Ts:=fun k hk=>by simp at hk
theorem Slc.keep0{w w':World}{T:TypeId}{sz:Nat}{v:Value}{n:Nat}{cs:List Value}(h:Slc w T sz v n cs)(hK:Kp [] w w'):Slc w' T sz v n cs:=h.keep hK (Apt.nil _ _)
def pcs(p:KV):List Value:=[.string p.k,.string p.v]
def qB0(ps:List KV):List Value:=ps.flatMap pcs
theorem zL4(ps:List KV):(qB0 ps).length=ps.length*2:=by
 induction ps with
 | nil=>rfl
 | cons p ps ih=>simp[qB0,pcs] at *;omega
theorem zC5{ps:List KV}{i:Nat}(h:i<ps.length):(qB0 ps)[i*2]?=some (.string ps[i].k)∧(qB0 ps)[i*2+1]?=some (.string ps[i].v):=by
 induction ps generalizing i with
 | nil=>simp at h
 | cons p ps ih=>
  cases i with
  | zero=>simp[qB0,pcs]
  | succ i=>
   have:=ih (i:=i) (by simpa using h);have e1:(qB0 (p::ps))[(i+1)*2]?=(qB0 ps)[i*2]?:=by
    rw[show qB0 (p::ps)=.string p.k::.string p.v::qB0 ps from rfl,show (i+1)*2=i*2+1+1 by omega];simp
   have e2:(qB0 (p::ps))[(i+1)*2+1]?=(qB0 ps)[i*2+1]?:=by
    rw[show qB0 (p::ps)=.string p.k::.string p.v::qB0 ps from rfl,show (i+1)*2+1=i*2+1+1+1 by omega];simp
   rw[e1,e2];simpa using this
theorem Slc.pair{w:World}{v:Value}{ps:List KV}(h:Slc w 158 2 v ps.length (qB0 ps))(hn:1≤ps.length):
  ∃ g off cap cur fr,v=.slice (some ⟨g,off,none⟩) ps.length cap∧ps.length≤cap∧w.heap[g]?=some (.cells cur 158 fr)∧∀ i (h:i<ps.length),cur[off+i*2]?=some (.string ps[i].k)∧cur[off+i*2+1]?=some (.string ps[i].v):=by
 rcases h.val with⟨h0,_⟩|⟨g,off,cap,cur,fr,h1,h2,h3,h4,h5⟩
 ·omega
 ·exact⟨g,off,cap,cur,fr,h1,h3,h4,fun i hi=>⟨h5 _ _ (zC5 hi).1,h5 _ _ (zC5 hi).2⟩⟩
structure HL where
 key:ByteArray
 b:Int
 s:Int
 p:Option Nat
def HL.ptr(l:HL):Option Addr:=l.p.map fun q=>⟨q,0,none⟩
def lcs(l:HL):List Value:=[.string l.key,.int .i64 l.b,.int .u64 l.s,.pointer l.ptr]
def qA7(ls:List HL):List Value:=ls.flatMap lcs
theorem zJ4(ls:List HL):(qA7 ls).length=ls.length*4:=by
 induction ls with
 | nil=>rfl
 | cons p ps ih=>simp[qA7,lcs] at *;omega
theorem qU3{ls:List HL}{i:Nat}(h:i<ls.length):(qA7 ls)[i*4]?=some (.string ls[i].key)∧(qA7 ls)[i*4+1]?=some (.int .i64 ls[i].b)∧(qA7 ls)[i*4+2]?=some (.int .u64 ls[i].s)∧(qA7 ls)[i*4+3]?=some (.pointer ls[i].ptr):=by
 induction ls generalizing i with
 | nil=>simp at h
 | cons p ps ih=>
  cases i with
  | zero=>simp[qA7,lcs]
  | succ i=>
   have:=ih (i:=i) (by simpa using h);have e:∀ c,(qA7 (p::ps))[(i+1)*4+c]?=(qA7 ps)[i*4+c]?:=fun c=>by
    rw[show qA7 (p::ps)=.string p.key::.int .i64 p.b::.int .u64 p.s::.pointer p.ptr::qA7 ps from rfl,show (i+1)*4+c=i*4+c+1+1+1+1 by omega];simp
   have e0:=e 0;rw[Nat.add_zero,Nat.add_zero] at e0;rw[e0,e 1,e 2,e 3];simpa using this
theorem Slc.link{w:World}{v:Value}{ls:List HL}(h:Slc w 81 4 v ls.length (qA7 ls))(hn:1≤ls.length):
  ∃ g off cap cur fr,v=.slice (some ⟨g,off,none⟩) ls.length cap∧ls.length≤cap∧w.heap[g]?=some (.cells cur 81 fr)∧∀ i (h:i<ls.length),cur[off+i*4]?=some (.string ls[i].key)∧cur[off+i*4+1]?=some (.int .i64 ls[i].b)∧cur[off+i*4+2]?=some (.int .u64 ls[i].s)∧cur[off+i*4+3]?=some (.pointer ls[i].ptr):=by
 rcases h.val with⟨h0,_⟩|⟨g,off,cap,cur,fr,h1,h2,h3,h4,h5⟩
 ·omega
 ·exact⟨g,off,cap,cur,fr,h1,h3,h4,fun i hi=>⟨h5 _ _ (qU3 hi).1,h5 _ _ (qU3 hi).2.1,h5 _ _ (qU3 hi).2.2.1,h5 _ _ (qU3 hi).2.2.2⟩⟩
theorem xT9(g F L:Nat)(cap:Array Value)(v:Value)(ps:List KV)(f:KV→Bool)(i:Nat)(w:World)(hF:w.heap[F]?=some (.cells #[.func (.func g) #[] cap] 215))(hL:w.heap[L]?=some (.cells #[v] 149))
  (hs:Slc w 158 2 v ps.length (qB0 ps)) (hi:i<ps.length) (hn:ps.length≤1000000)
  (hcf:∀ (args:Array Value) (W:World),Sem.run prog (callFunc g args) W=.ok (.enter g args) W)
  (hf:∀ W,Kp [] w W→Calls prog g (#[.agg #[.string ps[i].k,.string ps[i].v]]++cap) W fun e W'=>e=.returned (.bool (f ps[i]))∧Kp [] W W'):
  Calls prog 171 #[.int .i64 i,.pointer (some ⟨F,0,none⟩),.pointer (some ⟨L,0,none⟩)] w fun e w'=>e=.returned (.bool (f ps[i]))∧Kp [] w w':=by
 obtain⟨gb,off,cp,cur,fr,rfl,hcp,hrow,hcur⟩:=hs.pair (by omega);obtain⟨c0,c1⟩:=hcur i hi;have HF:=zh hf;clear hf hs hcur;go_enter func171,ntmps171;go_wp2_with fail;have hS0:w.heap[F]?=some (.cells #[.func (.func g) #[] cap] 215)∧w.heap[L]?=some (.cells #[.slice (some ⟨gb,off,none⟩) ps.length cp] 149)∧w.heap[gb]?=some (.cells cur 158 fr):=⟨hF,hL,hrow⟩;refine wp_region_held_drew (S:=fun W=>W.heap[F]?=some (.cells #[.func (.func g) #[] cap] 215)∧W.heap[L]?=some (.cells #[.slice (some ⟨gb,off,none⟩) ps.length cp] 149)∧W.heap[gb]?=some (.cells cur 158 fr)) (by kernel_rfl) hS0 (fun _=>?_);refine zV 0 (.func (.func g) #[] cap) rfl (fun W hS=>by have c:=ξ hS.1 0;simp at c;clear hS;go_simp) hS0 ?_;refine zV 1 (.slice (some ⟨gb,off,none⟩) ps.length cp) rfl (fun W hS=>by have c:=ξ hS.2.1 0;simp at c;clear hS;go_simp) hS0 ?_;refine zU 2 (.int .i64 i) hS0 ?_;refine zU 3 (.pointer (some ⟨gb,off+i*2,none⟩)) hS0 ?_;refine zV 4 (.agg #[.string ps[i].k,.string ps[i].v]) rfl (fun W hS=>by have a0:=ξ hS.2.2 (off+i*2);rw[c0] at a0;have a1:=ξ hS.2.2 (off+i*2+1);rw[c1] at a1;clear hS;go_simp) hS0 ?_;refine zq 5 fun K hK=>?_;go_simp;refine (HF.out w.drew ((Kp.refl _ _).drew)).mono ?_;rintro e w1 ⟨rfl,hK1⟩;have hK1':Kp [] w w1:=((Kp.refl _ w).drew).tr hK1;have hS1:=And.intro (hK1'.hp hF) (And.intro (hK1'.hp hL) (hK1'.hp hrow));refine hK.out _ _ hS1 (fun _=>?_);clear hK K
 try simp only[zZ]
 refine zq 6 fun K hK=>?_;go_simp;refine hK.out _ _ hS1 (fun _=>?_);clear hK K;refine zd ?_;go_wp2;go_ret;exact⟨rfl,hK1'⟩
theorem zV2(g:Nat)(cap:Array Value)(v:Value)(ps:List KV)(f:KV→Bool)(w:World)
  (hs:Slc w 158 2 v ps.length (qB0 ps)) (hn:ps.length≤1000000) (hup:∀ i j (hi:i<ps.length) (hj:j<ps.length),i≤j→f ps[i]=true→f ps[j]=true)
  (hcf:∀ (args:Array Value) (W:World),Sem.run prog (callFunc g args) W=.ok (.enter g args) W)
  (hf:∀ W,Kp [] w W→∀ i (h:i<ps.length),Calls prog g (#[.agg #[.string ps[i].k,.string ps[i].v]]++cap) W fun e W'=>e=.returned (.bool (f ps[i]))∧Kp [] W W'):
  Calls prog 126 #[v,.func (.func g) #[] cap] w fun e w'=>e=.returned (.int .i64 (ps.findIdx f:Nat))∧Kp [] w w':=by
 have hmf:=zM;obtain⟨bs,cp,hv⟩:∃ bs cp,v=.slice bs ps.length cp:=by
  rcases hs.val with⟨h0,b,c,h1,_⟩|⟨g,off,cap,cur,fr,h1,_⟩
  ·rw[h0];exact⟨b,c,h1⟩
  ·exact⟨_,cap,h1⟩
 subst hv;have HF:=zh hf;have HU:=zh hup;clear hf hup;go_enter func126,ntmps126;go_wp2_with fail;obtain⟨w1,hw1,hL1,hF1,hK1⟩:∃ w1,w1=(w.alloc (.cells #[.slice bs ps.length cp] 149)).alloc (.cells #[.func (.func g) #[] cap] 215)∧w1.heap[w.heap.size]?=some (.cells #[.slice bs ps.length cp] 149)∧w1.heap[w.heap.size+1]?=some (.cells #[.func (.func g) #[] cap] 215)∧Kp [] w w1:=by
  refine⟨_,rfl,θ _ (μ _ _),?_,((Kp.refl _ _).alloc _).alloc _⟩;have e:=μ (w.alloc (.cells #[.slice bs ps.length cp] 149)) (.cells #[.func (.func g) #[] cap] 215);simpa using e
 rw[←hw1];clear hw1;refine (xF2 171 _ ps.length (fun i=>((ps[i]?.map f).getD false)) w1 hn ?_ ?_ ?_).mono ?_
 ·intro i j hij hj hp;have hi:i<ps.length:=by omega
  simp only[List.getElem?_eq_getElem hi,List.getElem?_eq_getElem hj,Option.map_some,Option.getD_some] at *;exact HU.out i j hi hj hij hp
 ·intro args W;simp[go_sem,func171]
 ·intro W hKW i hi;refine (xT9 g (w.heap.size+1) w.heap.size cap _ ps f i W (hKW.hp hF1) (hKW.hp hL1) (hs.keep0 (hK1.tr hKW)) hi hn hcf (fun W' hK'=>HF.out W' ((hK1.tr hKW).tr hK') i hi)).mono ?_;rintro e W' ⟨rfl,hK'⟩;exact⟨by simp[List.getElem?_eq_getElem hi],hK'⟩
 ·rintro e w2 ⟨i,rfl,⟨h1,h2,h3⟩,hK2⟩;have e:i=ps.findIdx f:=zX0 h1 (fun j hj hji=>by
   have:=h2 j hji;simpa [List.getElem?_eq_getElem hj] using this) (fun h=>by
   have:=h3 h;simpa [List.getElem?_eq_getElem h] using this)
  subst e;have hK2':=hK1.tr hK2;go_wp2;go_ret;exact⟨rfl,hK2'⟩
theorem xT7(g F L:Nat)(cap:Array Value)(v:Value)(ps:List HL)(f:HL→Bool)(i:Nat)(w:World)(hF:w.heap[F]?=some (.cells #[.func (.func g) #[] cap] 213))(hL:w.heap[L]?=some (.cells #[v] 150))
  (hs:Slc w 81 4 v ps.length (qA7 ps)) (hi:i<ps.length) (hn:ps.length≤1000000)
  (hcf:∀ (args:Array Value) (W:World),Sem.run prog (callFunc g args) W=.ok (.enter g args) W)
  (hf:∀ W,Kp [] w W→Calls prog g (#[.agg #[.string ps[i].key,.int .i64 ps[i].b,.int .u64 ps[i].s,.pointer ps[i].ptr]]++cap) W fun e W'=>e=.returned (.bool (f ps[i]))∧Kp [] W W'):
  Calls prog 193 #[.int .i64 i,.pointer (some ⟨F,0,none⟩),.pointer (some ⟨L,0,none⟩)] w fun e w'=>e=.returned (.bool (f ps[i]))∧Kp [] w w':=by
 obtain⟨gb,off,cp,cur,fr,rfl,hcp,hrow,hcur⟩:=hs.link (by omega);obtain⟨c0,c1,c2,c3⟩:=hcur i hi;have HF:=zh hf;clear hf hs hcur;go_enter func193,ntmps193;go_wp2_with fail;have hS0:w.heap[F]?=some (.cells #[.func (.func g) #[] cap] 213)∧w.heap[L]?=some (.cells #[.slice (some ⟨gb,off,none⟩) ps.length cp] 150)∧w.heap[gb]?=some (.cells cur 81 fr):=⟨hF,hL,hrow⟩;refine wp_region_held_drew (S:=fun W=>W.heap[F]?=some (.cells #[.func (.func g) #[] cap] 213)∧W.heap[L]?=some (.cells #[.slice (some ⟨gb,off,none⟩) ps.length cp] 150)∧W.heap[gb]?=some (.cells cur 81 fr)) (by kernel_rfl) hS0 (fun _=>?_);refine zV 0 (.func (.func g) #[] cap) rfl (fun W hS=>by have c:=ξ hS.1 0;simp at c;clear hS;go_simp) hS0 ?_;refine zV 1 (.slice (some ⟨gb,off,none⟩) ps.length cp) rfl (fun W hS=>by have c:=ξ hS.2.1 0;simp at c;clear hS;go_simp) hS0 ?_;refine zU 2 (.int .i64 i) hS0 ?_;refine zU 3 (.pointer (some ⟨gb,off+i*4,none⟩)) hS0 ?_;refine zV 4 (.agg #[.string ps[i].key,.int .i64 ps[i].b,.int .u64 ps[i].s,.pointer ps[i].ptr]) rfl (fun W hS=>by have a0:=ξ hS.2.2 (off+i*4);rw[c0] at a0;have a1:=ξ hS.2.2 (off+i*4+1);rw[c1] at a1;have a2:=ξ hS.2.2 (off+i*4+2);rw[c2] at a2;have a3:=ξ hS.2.2 (off+i*4+3);rw[c3] at a3;clear hS;go_simp) hS0 ?_;refine zq 5 fun K hK=>?_;go_simp;refine (HF.out w.drew ((Kp.refl _ _).drew)).mono ?_;rintro e w1 ⟨rfl,hK1⟩;have hK1':Kp [] w w1:=((Kp.refl _ w).drew).tr hK1;have hS1:=And.intro (hK1'.hp hF) (And.intro (hK1'.hp hL) (hK1'.hp hrow));refine hK.out _ _ hS1 (fun _=>?_);clear hK K
 try simp only[zZ]
 refine zq 6 fun K hK=>?_;go_simp;refine hK.out _ _ hS1 (fun _=>?_);clear hK K;refine zd ?_;go_wp2;go_ret;exact⟨rfl,hK1'⟩
theorem xT8(g:Nat)(cap:Array Value)(v:Value)(ps:List HL)(f:HL→Bool)(w:World)
  (hs:Slc w 81 4 v ps.length (qA7 ps)) (hn:ps.length≤1000000) (hup:∀ i j (hi:i<ps.length) (hj:j<ps.length),i≤j→f ps[i]=true→f ps[j]=true)
  (hcf:∀ (args:Array Value) (W:World),Sem.run prog (callFunc g args) W=.ok (.enter g args) W)
  (hf:∀ W,Kp [] w W→∀ i (h:i<ps.length),Calls prog g (#[.agg #[.string ps[i].key,.int .i64 ps[i].b,.int .u64 ps[i].s,.pointer ps[i].ptr]]++cap) W fun e W'=>e=.returned (.bool (f ps[i]))∧Kp [] W W'):
  Calls prog 168 #[v,.func (.func g) #[] cap] w fun e w'=>e=.returned (.int .i64 (ps.findIdx f:Nat))∧Kp [] w w':=by
 have hmf:=zM;obtain⟨bs,cp,hv⟩:∃ bs cp,v=.slice bs ps.length cp:=by
  rcases hs.val with⟨h0,b,c,h1,_⟩|⟨g,off,cap,cur,fr,h1,_⟩
  ·rw[h0];exact⟨b,c,h1⟩
  ·exact⟨_,cap,h1⟩
 subst hv;have HF:=zh hf;have HU:=zh hup;clear hf hup;go_enter func168,ntmps168;go_wp2_with fail;obtain⟨w1,hw1,hL1,hF1,hK1⟩:∃ w1,w1=(w.alloc (.cells #[.slice bs ps.length cp] 150)).alloc (.cells #[.func (.func g) #[] cap] 213)∧w1.heap[w.heap.size]?=some (.cells #[.slice bs ps.length cp] 150)∧w1.heap[w.heap.size+1]?=some (.cells #[.func (.func g) #[] cap] 213)∧Kp [] w w1:=by
  refine⟨_,rfl,θ _ (μ _ _),?_,((Kp.refl _ _).alloc _).alloc _⟩;have e:=μ (w.alloc (.cells #[.slice bs ps.length cp] 150)) (.cells #[.func (.func g) #[] cap] 213);simpa using e
 rw[←hw1];clear hw1;refine (xF2 193 _ ps.length (fun i=>((ps[i]?.map f).getD false)) w1 hn ?_ ?_ ?_).mono ?_
 ·intro i j hij hj hp;have hi:i<ps.length:=by omega
  simp only[List.getElem?_eq_getElem hi,List.getElem?_eq_getElem hj,Option.map_some,Option.getD_some] at *;exact HU.out i j hi hj hij hp
 ·intro args W;simp[go_sem,func193]
 ·intro W hKW i hi;refine (xT7 g (w.heap.size+1) w.heap.size cap _ ps f i W (hKW.hp hF1) (hKW.hp hL1) (hs.keep0 (hK1.tr hKW)) hi hn hcf (fun W' hK'=>HF.out W' ((hK1.tr hKW).tr hK') i hi)).mono ?_;rintro e W' ⟨rfl,hK'⟩;exact⟨by simp[List.getElem?_eq_getElem hi],hK'⟩
 ·rintro e w2 ⟨i,rfl,⟨h1,h2,h3⟩,hK2⟩;have e:i=ps.findIdx f:=zX0 h1 (fun j hj hji=>by
   have:=h2 j hji;simpa [List.getElem?_eq_getElem hj] using this) (fun h=>by
   have:=h3 h;simpa [List.getElem?_eq_getElem h] using this)
  subst e;have hK2':=hK1.tr hK2;go_wp2;go_ret;exact⟨rfl,hK2'⟩
theorem jF5(g F:Nat)(cap:Array Value)(p:HL)(r:Bool)(w:World)(hF:w.heap[F]?=some (.cells #[.func (.func g) #[] cap] 213))
  (hcf:∀ (args:Array Value) (W:World),Sem.run prog (callFunc g args) W=.ok (.enter g args) W)
  (hf:∀ W,Kp [] w W→Calls prog g (#[.agg #[.string p.key,.int .i64 p.b,.int .u64 p.s,.pointer p.ptr]]++cap) W fun e W'=>e=.returned (.bool r)∧Kp [] W W'):
  Calls prog 169 #[.agg #[.string p.key,.int .i64 p.b,.int .u64 p.s,.pointer p.ptr],.pointer (some ⟨F,0,none⟩)] w fun e w'=>e=.returned (.bool !r)∧Kp [] w w':=by
 have HF:=zh hf;clear hf;have hFs:=ζ hF;have f0:=ξ hF 0;simp only[zG,zH,zI] at f0;go_enter func169,ntmps169;go_wp2_with fail;refine (HF.out _ ((Kp.refl _ _).alloc _)).mono ?_;rintro e w1 ⟨rfl,hK1⟩;have hK1':Kp [] w w1:=((Kp.refl _ _).alloc _).tr hK1;go_wp2;go_ret;exact⟨rfl,hK1'⟩
theorem zZ3(g:Nat)(cap:Array Value)(v:Value)(ps:List HL)(f:HL→Bool)(w:World)
  (hs:Slc w 81 4 v ps.length (qA7 ps)) (hn:ps.length≤1000000) (hdn:∀ i j (hi:i<ps.length) (hj:j<ps.length),i≤j→f ps[j]=true→f ps[i]=true)
  (hcf:∀ (args:Array Value) (W:World),Sem.run prog (callFunc g args) W=.ok (.enter g args) W)
  (hf:∀ W,Kp [] w W→∀ i (h:i<ps.length),Calls prog g (#[.agg #[.string ps[i].key,.int .i64 ps[i].b,.int .u64 ps[i].s,.pointer ps[i].ptr]]++cap) W fun e W'=>e=.returned (.bool (f ps[i]))∧Kp [] W W'):
  Calls prog 124 #[v,.func (.func g) #[] cap] w fun e w'=>e=.returned (.int .i64 (ps.findIdx (fun p=>!f p)-1:Nat))∧Kp [] w w':=by
 have hmf:=zM;have HF:=zh hf;have HU:=zh hdn;clear hf hdn;go_enter func124,ntmps124;go_wp2_with fail;have hF1:=μ w (.cells #[.func (.func g) #[] cap] 213);have hK1:Kp [] w (w.alloc (.cells #[.func (.func g) #[] cap] 213)):=(Kp.refl _ _).alloc _;refine (xT8 169 _ v ps (fun p=>!f p) _ (hs.keep0 hK1) hn ?_ ?_ ?_).mono ?_
 ·intro i j hi hj hij hp;by_cases e:f ps[j]=true
  ·rw[HU.out i j hi hj hij e] at hp;simp at hp
  ·simpa using e
 ·intro args W;simp[go_sem,func169]
 ·intro W hKW i hi;exact jF5 g w.heap.size cap ps[i] (f ps[i]) W (hKW.hp hF1) hcf (fun W' hK'=>HF.out W' ((hK1.tr hKW).tr hK') i hi)
 ·rintro e w2 ⟨rfl,hK2⟩;have hK2':=hK1.tr hK2;have hle:ps.findIdx (fun p=>!f p)≤ps.length:=List.findIdx_le_length;go_wp2
  all_goals
   go_ret;exact⟨qK9 (by omega),hK2'⟩
def υ(lvl:Int)(vp vl:Value):Obj:=.cells #[.int .i64 lvl,vp,vl] 152
theorem jY0(K:Nat)(k:ByteArray)(p:HL)(w:World)(hK:w.heap[K]?=some (.cells #[.string k] 9)):
  Calls prog 125 #[.agg #[.string p.key,.int .i64 p.b,.int .u64 p.s,.pointer p.ptr],.pointer (some ⟨K,0,none⟩)] w fun e w'=>e=.returned (.bool !kl k p.key)∧Kp [] w w':=by
 have hKs:=ζ hK;have k0:=ξ hK 0;simp only[zG,zH,zI] at k0;go_enter func125,ntmps125;go_wp2;go_ret;exact⟨by rw[←zY6];rfl,(Kp.refl _ _).alloc _⟩
def Rise(ls:List HL):Prop:=ls.Pairwise fun a b=>kl a.key b.key=true
theorem Rise.at{ls:List HL}(h:Rise ls){i j:Nat}(hi:i<ls.length)(hj:j<ls.length)(hij:i<j):kl ls[i].key ls[j].key=true:=
 List.pairwise_iff_getElem.1 h i j hi hj hij
theorem zN4(q:Nat)(lvl:Int)(vp vl:Value)(ls:List HL)(k:ByteArray)(w:World)(hq:w.heap[q]?=some (υ lvl vp vl))(hs:Slc w 81 4 vl ls.length (qA7 ls))(hn:ls.length≤1000000)(hr:Rise ls):
  Calls prog 88 #[.pointer (some ⟨q,0,none⟩),.string k] w fun e w'=>e=.returned (.int .i64 (ls.findIdx (fun l=>kl k l.key)-1:Nat))∧Kp [] w w':=by
 have hmf:=zM;have hqs:=ζ hq;have q2:=ξ hq 2;simp only[υ,zG,zH,zI] at q2;go_enter func88,ntmps88;go_wp2_with fail;have hK0:=μ w (.cells #[.string k] 9);have hK1:Kp [] w (w.alloc (.cells #[.string k] 9)):=(Kp.refl _ _).alloc _;refine (zZ3 125 _ vl ls (fun l=>!kl k l.key) _ (hs.keep0 hK1) hn ?_ ?_ ?_).mono ?_
 ·intro i j hi hj hij hp;by_cases e:i=j
  ·subst e;exact hp
  ·have h1:=hr.at hi hj (by omega);have hp':kl k ls[j].key=false:=by simpa using hp
   by_cases e2:kl k ls[i].key=true
   ·rw[qQ1 e2 h1] at hp';cases hp'
   ·simpa using e2
 ·intro args W;simp[go_sem,func125]
 ·intro W hKW i hi;exact jY0 w.heap.size k ls[i] W (hKW.hp hK0)
 ·rintro e w2 ⟨rfl,hK2⟩;have hK2':=hK1.tr hK2;go_wp2;go_ret;exact⟨by simp,hK2'⟩
theorem jU1(K:Nat)(k:ByteArray)(p:KV)(w:World)(hK:w.heap[K]?=some (.cells #[.string k] 9)):
  Calls prog 127 #[.agg #[.string p.k,.string p.v],.pointer (some ⟨K,0,none⟩)] w fun e w'=>e=.returned (.bool !kl p.k k)∧Kp [] w w':=by
 have hKs:=ζ hK;have k0:=ξ hK 0;simp only[zG,zH,zI] at k0;go_enter func127,ntmps127;go_wp2;go_ret;exact⟨rfl,(Kp.refl _ _).alloc _⟩
theorem jU2{ps:List KV}(hs:Sorted ps)(k:ByteArray):∀ i j (hi:i<ps.length) (hj:j<ps.length),i≤j→(!kl ps[i].k k)=true→(!kl ps[j].k k)=true:=by
 intro i j hi hj hij hp;by_cases e:i=j
 ·subst e;exact hp
 ·have h1:kl ps[i].k ps[j].k=true:=List.pairwise_iff_getElem.1 hs i j hi hj (by omega);by_cases e2:kl ps[j].k k=true
  ·rw[qQ1 h1 e2] at hp;cases hp
  ·simpa using e2
theorem zD4(q:Nat)(lvl:Int)(vp vl:Value)(ps:List KV)(k:ByteArray)(w:World)(hq:w.heap[q]?=some (υ lvl vp vl))(hs:Slc w 158 2 vp ps.length (qB0 ps))(hn:ps.length≤1000000)(hr:Sorted ps):
  Calls prog 89 #[.pointer (some ⟨q,0,none⟩),.string k] w fun e w'=>e=.returned (.tuple #[.int .i64 (qC3 ps k),.bool (qG0 ps (qC3 ps k) k)])∧Kp [] w w':=by
 have hmf:=zM;have hqs:=ζ hq;have q1:=ξ hq 1;simp only[υ,zG,zH,zI] at q1;go_enter func89,ntmps89;go_wp2_with fail;have hK0:=μ w (.cells #[.string k] 9);have hK1:Kp [] w (w.alloc (.cells #[.string k] 9)):=(Kp.refl _ _).alloc _;refine (zV2 127 _ vp ps (fun p=>!kl p.k k) _ (hs.keep0 hK1) hn (jU2 hr k) ?_ ?_).mono ?_
 ·intro args W;simp[go_sem,func127]
 ·intro W hKW i hi;exact jU1 w.heap.size k ps[i] W (hKW.hp hK0)
 rintro e w2 ⟨rfl,hK2⟩;have hK2':=hK1.tr hK2;have hq2:=hK2'.hp hq;have hk2:=hK2.hp hK0;have hs2:=hs.keep0 hK2';have e:ps.findIdx (fun p=>!kl p.k k)=qC3 ps k:=rfl;rw[e];clear hK2 hK1 hK0 hs hq q1 hqs e;have hqs:=ζ hq2;have hks:=ζ hk2;have q1:=ξ hq2 1;simp only[υ,zG,zH,zI] at q1;have k0:=ξ hk2 0;simp only[zG,zH,zI] at k0;have hle:=zD3 ps k;obtain⟨i,hi0⟩:∃ i,qC3 ps k=i:=⟨_,rfl⟩;rw[hi0] at hle ⊢;by_cases hi:i<ps.length
 ·obtain⟨gb,off,cp,cur,fr,rfl,hcp,hrow,hcur⟩:=hs2.pair (by omega);obtain⟨c0,_⟩:=hcur i hi;have r0:=ξ hrow (off+i*2);rw[c0] at r0;have hgs:=ζ hrow;have hib:(i:Int)<(ps.length:Int):=by omega
  clear hcur hs2;go_wp2_with fail
  go_quiet (fail)
  go_wp2
  go_ret2
  refine⟨?_,hK2'.drewN _⟩;rw[hi0];simp[qG0,List.getElem?_eq_getElem hi,qU9]
 ·have hib:¬(i:Int)<(ps.length:Int):=by omega
  obtain⟨bs,cp,hv⟩:∃ bs cp,vp=.slice bs ps.length cp:=by
   rcases hs2.val with⟨h0,b,c,h1,_⟩|⟨g,off,cap,cur,fr,h1,_⟩
   ·rw[h0];exact⟨b,c,h1⟩
   ·exact⟨_,cap,h1⟩
  subst hv;go_wp2_with fail
  go_quiet (fail)
  go_wp2
  go_ret2
  refine⟨?_,hK2'.drewN _⟩;rw[hi0];have:qG0 ps i k=false:=by unfold qG0;rw[List.getElem?_eq_none (by omega)]
  rw[this];rfl
def qA0(l:HL):Nat:=11+l.key.size
theorem xF4(p:KV)(w:World)(hp:ρ p≤1000):
  Calls prog 263 #[.agg #[.string p.k,.string p.v]] w fun e w'=>e=.returned (.int .i64 (ρ p))∧Kp [] w w':=by
 unfold ρ at hp;go_enter func263,ntmps263;go_wp2;go_ret;exact⟨qK9 (by unfold ρ;omega),(Kp.refl _ _).alloc _⟩
theorem xF3(p:HL)(w:World)(hp:qA0 p≤1000):
  Calls prog 257 #[.agg #[.string p.key,.int .i64 p.b,.int .u64 p.s,.pointer p.ptr]] w fun e w'=>e=.returned (.int .i64 (qA0 p))∧Kp [] w w':=by
 unfold qA0 at hp;go_enter func257,ntmps257;go_wp2;go_ret;exact⟨qK9 (by unfold qA0;omega),(Kp.refl _ _).alloc _⟩
theorem jH5(p:KV)(w:World):
  Calls prog 262 #[.agg #[.string p.k,.string p.v]] w fun e w'=>e=.returned (.string p.k)∧Kp [] w w':=by
 go_enter func262,ntmps262;go_wp2;go_ret;exact⟨rfl,(Kp.refl _ _).alloc _⟩
theorem jH4(p:HL)(w:World):
  Calls prog 256 #[.agg #[.string p.key,.int .i64 p.b,.int .u64 p.s,.pointer p.ptr]] w fun e w'=>e=.returned (.string p.key)∧Kp [] w w':=by
 go_enter func256,ntmps256;go_wp2;go_ret;exact⟨rfl,(Kp.refl _ _).alloc _⟩
theorem qK8{α:Type}(f:α→Nat)(l:List α)(j:Nat)(h:j<l.length):meas f (l.take (j+1))=meas f (l.take j)+f l[j]:=by
 rw[List.take_succ_eq_append_getElem h,qG8,qF1,qE2];omega
theorem qM8{α:Type}(f:α→Nat)(l:List α)(j:Nat):meas f (l.take j)≤meas f l:=by
 have:=qQ3 f l j;omega
theorem jH7(v:Value)(ps:List KV)(w:World)(hs:Slc w 158 2 v ps.length (qB0 ps))(hn:ps.length≤1000000)(hz:∀ p∈ps,ρ p≤1000)(hm:meas ρ ps≤1000000):
  Calls prog 197 #[v] w fun e w'=>e=.returned (.int .i64 (meas ρ ps))∧Kp [] w w':=by
 obtain⟨bs,cp,hv⟩:∃ bs cp,v=.slice bs ps.length cp:=by
  rcases hs.val with⟨h0,b,c,h1,_⟩|⟨g,off,cap,cur,fr,h1,_⟩
  ·rw[h0];exact⟨b,c,h1⟩
  ·exact⟨_,cap,h1⟩
 subst hv;have HS:=zh hs;have HZ:=zh hz;clear hs hz;go_enter func197,ntmps197;go_wp2
 go_loopw [3,8] (fun s i wr=>∃ (j:Nat),j≤ps.length∧i=.int .i64 j∧s=.int .i64 (meas ρ (ps.take j):Nat)∧Kp [] w wr) (fun _ i _=>ps.length-(intOf i).toNat)
 case atStart=>exact⟨0,Nat.zero_le _,rfl,rfl,Kp.refl _ _⟩
 case round=>
  obtain⟨j,hj,rfl,rfl,hK⟩:=hrel;by_cases hlt:j<ps.length
  ·obtain⟨gb,off,cp',cur,fr,hv,hcp,hrow,hcur⟩:=HS.out.pair (by omega);obtain⟨c0,c1⟩:=hcur j hlt;simp only[Value.slice.injEq,true_and] at hv;obtain⟨rfl,rfl⟩:=hv;have hR:=hK.hp hrow;have a0:=ξ hR (off+j*2);rw[c0] at a0;have a1:=ξ hR (off+j*2+1);rw[c1] at a1;have hgs:=ζ hR;have hjb:(j:Int)<(ps.length:Int):=by omega
   have hz0:=HZ.out ps[j] (List.getElem_mem hlt);have hmt:=qM8 ρ ps j;have HMS:Hid (meas ρ (ps.take (j+1))=meas ρ (ps.take j)+ρ ps[j]):=qK8 ρ ps j hlt;clear hcur;go_wp2_with fail;refine (xF4 ps[j] _ hz0).mono ?_;rintro e w1 ⟨rfl,hK1⟩;have hK1':Kp [] w w1:=((hK.alloc _)).tr hK1;go_wp2;refine⟨⟨j+1,by omega,by go_num,by rw[HMS.out];go_num,hK1'⟩,by simp[intOf];omega⟩
  ·have hjb:¬(j:Int)<(ps.length:Int):=by omega
   go_wp2;go_ret;exact⟨qK9 (by rw[List.take_of_length_le (by omega)]),hK⟩
theorem jH6(v:Value)(ps:List HL)(w:World)(hs:Slc w 81 4 v ps.length (qA7 ps))(hn:ps.length≤1000000)(hz:∀ p∈ps,qA0 p≤1000)(hm:meas qA0 ps≤1000000):
  Calls prog 214 #[v] w fun e w'=>e=.returned (.int .i64 (meas qA0 ps))∧Kp [] w w':=by
 obtain⟨bs,cp,hv⟩:∃ bs cp,v=.slice bs ps.length cp:=by
  rcases hs.val with⟨h0,b,c,h1,_⟩|⟨g,off,cap,cur,fr,h1,_⟩
  ·rw[h0];exact⟨b,c,h1⟩
  ·exact⟨_,cap,h1⟩
 subst hv;have HS:=zh hs;have HZ:=zh hz;clear hs hz;go_enter func214,ntmps214;go_wp2
 go_loopw [3,8] (fun s i wr=>∃ (j:Nat),j≤ps.length∧i=.int .i64 j∧s=.int .i64 (meas qA0 (ps.take j):Nat)∧Kp [] w wr) (fun _ i _=>ps.length-(intOf i).toNat)
 case atStart=>exact⟨0,Nat.zero_le _,rfl,rfl,Kp.refl _ _⟩
 case round=>
  obtain⟨j,hj,rfl,rfl,hK⟩:=hrel;by_cases hlt:j<ps.length
  ·obtain⟨gb,off,cp',cur,fr,hv,hcp,hrow,hcur⟩:=HS.out.link (by omega);obtain⟨c0,c1,c2,c3⟩:=hcur j hlt;simp only[Value.slice.injEq,true_and] at hv;obtain⟨rfl,rfl⟩:=hv;have hR:=hK.hp hrow;have a0:=ξ hR (off+j*4);rw[c0] at a0;have a1:=ξ hR (off+j*4+1);rw[c1] at a1;have a2:=ξ hR (off+j*4+2);rw[c2] at a2;have a3:=ξ hR (off+j*4+3);rw[c3] at a3;have hgs:=ζ hR;have hjb:(j:Int)<(ps.length:Int):=by omega
   have hz0:=HZ.out ps[j] (List.getElem_mem hlt);have hmt:=qM8 qA0 ps j;have HMS:Hid (meas qA0 (ps.take (j+1))=meas qA0 (ps.take j)+qA0 ps[j]):=qK8 qA0 ps j hlt;clear hcur;go_wp2_with fail;refine (xF3 ps[j] _ hz0).mono ?_;rintro e w1 ⟨rfl,hK1⟩;have hK1':Kp [] w w1:=((hK.alloc _)).tr hK1;go_wp2;refine⟨⟨j+1,by omega,by go_num,by rw[HMS.out];go_num,hK1'⟩,by simp[intOf];omega⟩
  ·have hjb:¬(j:Int)<(ps.length:Int):=by omega
   go_wp2;go_ret;exact⟨qK9 (by rw[List.take_of_length_le (by omega)]),hK⟩
theorem zH0{α:Type}(f:α→List Value)(sz:Nat)(hf:∀ x,(f x).length=sz):∀ (l:List α) (i:Nat),(l.take i).flatMap f=(l.flatMap f).take (i*sz)
 | [],i=>by simp
 | x::l,0=>by simp
 | x::l,i+1=>by
  rw[List.take_succ_cons,List.flatMap_cons,List.flatMap_cons,zH0 f sz hf l i,List.take_append];rw[List.take_of_length_le (l:=f x) (by rw[hf,Nat.succ_mul];omega),hf,show (i+1)*sz-sz=i*sz by rw[Nat.succ_mul];omega]
theorem zG8{α:Type}(f:α→List Value)(sz:Nat)(hf:∀ x,(f x).length=sz):∀ (l:List α) (i:Nat),(l.drop i).flatMap f=(l.flatMap f).drop (i*sz)
 | [],i=>by simp
 | x::l,0=>by simp
 | x::l,i+1=>by
  rw[List.drop_succ_cons,List.flatMap_cons,zG8 f sz hf l i,List.drop_append];rw[List.drop_of_length_le (l:=f x) (by rw[hf,Nat.succ_mul];omega),hf,show (i+1)*sz-sz=i*sz by rw[Nat.succ_mul];omega];simp
theorem xE1(ps:List KV)(i:Nat):qB0 (ps.take i)=(qB0 ps).take (i*2):=zH0 pcs 2 (fun _=>rfl) ps i
theorem xD9(ps:List KV)(i:Nat):qB0 (ps.drop i)=(qB0 ps).drop (i*2):=zG8 pcs 2 (fun _=>rfl) ps i
theorem xA5(ps:List HL)(i:Nat):qA7 (ps.take i)=(qA7 ps).take (i*4):=zH0 lcs 4 (fun _=>rfl) ps i
theorem xA3(ps:List HL)(i:Nat):qA7 (ps.drop i)=(qA7 ps).drop (i*4):=zG8 lcs 4 (fun _=>rfl) ps i
theorem qS0{w:World}{T:TypeId}{sz g off n:Nat}{cur:Array Value}{fr:Nat × Nat}{cs:List Value}(hrow:w.heap[g]?=some (.cells cur T fr))(hcur:∀ j u,cs[j]?=some u→cur[off+j]?=some u)(hl:cs.length=n*sz)(i m c:Nat)(him:i+m≤n)(hc:m≤c):
  Slc w T sz (.slice (some ⟨g,off+i*sz,none⟩) m c) m ((cs.drop (i*sz)).take (m*sz)):=by
 refine⟨?_,?_⟩
 ·rw[List.length_take,List.length_drop,hl,←Nat.mul_sub_right_distrib];have:=Nat.mul_le_mul_right sz (show m≤n-i by omega);omega
 ·by_cases h0:m=0
  ·subst h0;exact .inl ⟨rfl,_,_,rfl,by simp⟩
  ·refine .inr ⟨g,off+i*sz,c,cur,fr,rfl,by omega,hc,hrow,fun j u hu=>?_⟩;rw[List.getElem?_take] at hu;split at hu
   ·rw[List.getElem?_drop] at hu;rw[Nat.add_assoc];exact hcur _ _ hu
   ·cases hu
theorem zT7{α:Type}(f:α→Nat)(all:Nat)(l:List α)(j n:Nat)(h:j<l.length)(hn:2*n<all):qF2 f all (l.drop j) n=qF2 f all (l.drop (j+1)) (n+f l[j])+1:=by
 rw[List.drop_eq_getElem_cons h];simp[qF2,hn]
theorem zT5{α:Type}(f:α→Nat)(all:Nat)(l:List α)(n:Nat)(hn:¬2*n<all):qF2 f all l n=0:=by
 cases l with
 | nil=>rfl
 | cons x l=>simp[qF2,hn]
def qY5(w:World)(T:TypeId)(sz:Nat)(vs:List Value)(css:List (Nat × List Value)):Prop:=vs.length=css.length∧∀ i (h:i<css.length) (h':i<vs.length),Slc w T sz vs[i] css[i].1 css[i].2
theorem xY3(v:Value)(ps:List KV)(w:World)(hs:Slc w 158 2 v ps.length (qB0 ps))(hn:ps.length≤1000000)(hz:∀ p∈ps,ρ p≤21)(hm:meas ρ ps≤1000000):
  Calls prog 176 #[v] w fun e w'=>∃ g vs,e=.returned (.slice (some ⟨g,0,none⟩) (qB8 ρ ps).length (qB8 ρ ps).length)∧w'.heap[g]?=some (.cells vs.toArray 149)∧qY5 w 158 2 vs ((qB8 ρ ps).map fun l=>(l.length,qB0 l))∧Kp [] w w':=by
 obtain⟨bs,cp,hv⟩:∃ bs cp,v=.slice bs ps.length cp:=by
  rcases hs.val with⟨h0,b,c,h1,_⟩|⟨g,off,cap,cur,fr,h1,_⟩
  ·rw[h0];exact⟨b,c,h1⟩
  ·exact⟨_,cap,h1⟩
 subst hv;have HS:=zh hs;have HZ:=zh hz;clear hs hz;go_enter func176,ntmps176;go_wp2_with fail;refine (jH7 _ ps w HS.out hn (fun p hp=>Nat.le_trans (HZ.out p hp) (by omega)) hm).mono ?_;rintro e w1 ⟨rfl,hK1⟩;by_cases hfit:meas ρ ps≤126
 ·have hb:((meas ρ ps:Nat):Int)≤126:=by omega
  go_wp2;go_ret;have hK2:Kp [] w (w1.alloc (.cells #[.slice bs ps.length cp] 149)):=hK1.alloc _;have e:qB8 ρ ps=[ps]:=by unfold qB8;rw[if_pos hfit]
  rw[e];refine⟨w1.heap.size,[.slice bs ps.length cp],rfl,μ _ _,⟨rfl,fun i h1 h2=>?_⟩,hK2⟩;have:i=0:=by simp at h1;omega
  subst this;exact HS.out
 ·have hb:¬((meas ρ ps:Nat):Int)≤126:=by omega
  have hne:1≤ps.length:=by
   cases ps with
   | nil=>simp[meas] at hfit
   | cons x l=>simp
  obtain⟨gb,off,cp',cur,fr,hv,hcp,hrow,hcur⟩:=HS.out.pair hne;simp only[Value.slice.injEq,true_and] at hv;obtain⟨rfl,rfl⟩:=hv;go_wp2
  go_loopw [4,5] (fun s q wr=>∃ (j:Nat),j≤ps.length∧s=.int .i64 j∧q=.int .i64 (meas ρ (ps.take j):Nat)∧qF2 ρ (meas ρ ps) ps 0=qF2 ρ (meas ρ ps) (ps.drop j) (meas ρ (ps.take j))+j∧Kp [] w wr) (fun s _ _=>ps.length-(intOf s).toNat)
  case atStart=>exact⟨0,Nat.zero_le _,rfl,rfl,by simp[meas],hK1⟩
  case round=>
   obtain⟨j,hj,rfl,rfl,hcut,hK⟩:=hrel;have HC:=zh hcut;clear hcut;have hmt:=qM8 ρ ps j;by_cases hgo:2*meas ρ (ps.take j)<meas ρ ps
   ·have hlt:j<ps.length:=by
     by_cases h:j<ps.length
     ·exact h
     ·rw[List.take_of_length_le (by omega)] at hgo;omega
    obtain⟨c0,c1⟩:=hcur j hlt;have hR:=hK.hp hrow;have a0:=ξ hR (off+j*2);rw[c0] at a0;have a1:=ξ hR (off+j*2+1);rw[c1] at a1;have hgs:=ζ hR;have hjb:(j:Int)<(ps.length:Int):=by omega
    have hgb:2*((meas ρ (ps.take j):Nat):Int)<((meas ρ ps:Nat):Int):=by omega
    have hz0:=HZ.out ps[j] (List.getElem_mem hlt);have HMS:Hid (meas ρ (ps.take (j+1))=meas ρ (ps.take j)+ρ ps[j]):=qK8 ρ ps j hlt;have HCN:Hid (qF2 ρ (meas ρ ps) (ps.drop j) (meas ρ (ps.take j))=qF2 ρ (meas ρ ps) (ps.drop (j+1)) (meas ρ (ps.take j)+ρ ps[j])+1):=zT7 ρ _ ps j _ hlt hgo;clear hcur;go_wp2_with fail;refine (xF4 ps[j] _ (by omega)).mono ?_;rintro e w2 ⟨rfl,hK2⟩;have hK2':Kp [] w w2:=hK.tr hK2;go_wp2;refine⟨⟨j+1,by omega,by go_num,by rw[HMS.out];go_num,?_,hK2'⟩,by simp[intOf];omega⟩;rw[HC.out,HCN.out,HMS.out];omega
   ·have hgb:¬2*((meas ρ (ps.take j):Nat):Int)<((meas ρ ps:Nat):Int):=by omega
    have hjc:qF2 ρ (meas ρ ps) ps 0=j:=by rw[HC.out,zT5 _ _ _ _ hgo];omega
    have HJ:=zh hjc;clear hjc;go_wp2_with fail;have hjl:j<ps.length:=by
     have hsp:=qZ6 ρ (meas ρ ps) 21 ps 0 HZ.out (by omega) (by omega);rw[HJ.out] at hsp;by_cases h:j<ps.length
     ·exact h
     ·rw[List.take_of_length_le (by omega)] at hsp;omega
    have hjn:¬cp=j:=by omega
    have hji:(j:Int)≤(ps.length:Int):=by omega
    have hjc:(j:Int)≤(cp:Int):=by omega
    have hncp:(ps.length:Int)≤(cp:Int):=by omega
    refine wp_region_any (by kernel_rfl) ?_;change wpAny _ _ _ _ _ _ _ (World.drew _);refine zu 0 (.slice (some ⟨gb,off,none⟩) ps.length cp) ?_;refine zu 1 (.int .i64 j) ?_;refine zu 2 (.int .i64 j) ?_;refine zu 3 (.slice (some ⟨gb,off,none⟩) j j) ?_;refine zu 4 (.slice (some ⟨gb,off,none⟩) ps.length cp) ?_;refine zu 5 (.int .i64 j) ?_;refine zu 6 (.slice (some ⟨gb,off+j*2,none⟩) (ps.length-j) (cp-j)) ?_;have hK':=hK;refine zQ 7 fun K hK=>?_;go_simp;obtain⟨w2,hw2,hG2,hK2⟩:∃ w2,w2=(wr.alloc (.cells #[.slice (some ⟨gb,off,none⟩) j j,.slice (some ⟨gb,off+j*2,none⟩) (ps.length-j) (cp-j)] 149)).drew∧w2.heap[wr.heap.size]?=some (.cells #[.slice (some ⟨gb,off,none⟩) j j,.slice (some ⟨gb,off+j*2,none⟩) (ps.length-j) (cp-j)] 149)∧Kp [] w w2:=⟨_,rfl,μ _ _,(hK'.alloc _).drew⟩;rw[←hw2];clear hw2;refine hK _ _ ?_;clear hK K
    try simp only[zZ]
    refine zQ 8 fun K hK=>?_;go_simp;refine hK _ _ ?_;clear hK K;refine wpAny_done (by kernel_rfl) ?_ _;go_wp2;go_ret;have e:qB8 ρ ps=[ps.take j,ps.drop j]:=by unfold qB8;rw[if_neg hfit,HJ.out]
    rw[e];obtain⟨hlen,hval⟩:=HS.out;have hcs:∀ k u,(qB0 ps)[k]?=some u→cur[off+k]?=some u:=by
     rcases hval with⟨h0,_⟩|⟨g',off',cap',cur',fr',h1,_,_,h4,h5⟩
     ·omega
     ·simp only[Value.slice.injEq,Option.some.injEq,Addr.mk.injEq] at h1;obtain⟨⟨rfl,rfl,_⟩,_,_⟩:=h1;rw[hrow] at h4;cases h4;exact h5
    refine⟨wr.heap.size,[.slice (some ⟨gb,off,none⟩) j j,.slice (some ⟨gb,off+j*2,none⟩) (ps.length-j) (cp-j)],rfl,hG2,⟨rfl,fun i h1 h2=>?_⟩,hK2⟩;have hi:i=0∨i=1:=by simp at h1;omega
    rcases hi with rfl|rfl
    ·have:=qS0 (T:=158) (sz:=2) hrow hcs hlen 0 j j (by omega) (Nat.le_refl _);simp only[Nat.zero_mul,Nat.add_zero,List.drop_zero] at this;rw[←xE1] at this;simpa [Nat.min_eq_left hj] using this
    ·have:=qS0 (T:=158) (sz:=2) hrow hcs hlen j (ps.length-j) (cp-j) (by omega) (by omega);rw[←xD9,List.take_of_length_le (by rw[zL4];simp)] at this;simpa using this
theorem xY2(v:Value)(ps:List HL)(w:World)(hs:Slc w 81 4 v ps.length (qA7 ps))(hn:ps.length≤1000000)(hz:∀ p∈ps,qA0 p≤21)(hm:meas qA0 ps≤1000000):
  Calls prog 194 #[v] w fun e w'=>∃ g vs,e=.returned (.slice (some ⟨g,0,none⟩) (qB8 qA0 ps).length (qB8 qA0 ps).length)∧w'.heap[g]?=some (.cells vs.toArray 150)∧qY5 w 81 4 vs ((qB8 qA0 ps).map fun l=>(l.length,qA7 l))∧Kp [] w w':=by
 obtain⟨bs,cp,hv⟩:∃ bs cp,v=.slice bs ps.length cp:=by
  rcases hs.val with⟨h0,b,c,h1,_⟩|⟨g,off,cap,cur,fr,h1,_⟩
  ·rw[h0];exact⟨b,c,h1⟩
  ·exact⟨_,cap,h1⟩
 subst hv;have HS:=zh hs;have HZ:=zh hz;clear hs hz;go_enter func194,ntmps194;go_wp2_with fail;refine (jH6 _ ps w HS.out hn (fun p hp=>Nat.le_trans (HZ.out p hp) (by omega)) hm).mono ?_;rintro e w1 ⟨rfl,hK1⟩;by_cases hfit:meas qA0 ps≤126
 ·have hb:((meas qA0 ps:Nat):Int)≤126:=by omega
  go_wp2;go_ret;have hK2:Kp [] w (w1.alloc (.cells #[.slice bs ps.length cp] 150)):=hK1.alloc _;have e:qB8 qA0 ps=[ps]:=by unfold qB8;rw[if_pos hfit]
  rw[e];refine⟨w1.heap.size,[.slice bs ps.length cp],rfl,μ _ _,⟨rfl,fun i h1 h2=>?_⟩,hK2⟩;have:i=0:=by simp at h1;omega
  subst this;exact HS.out
 ·have hb:¬((meas qA0 ps:Nat):Int)≤126:=by omega
  have hne:1≤ps.length:=by
   cases ps with
   | nil=>simp[meas] at hfit
   | cons x l=>simp
  obtain⟨gb,off,cp',cur,fr,hv,hcp,hrow,hcur⟩:=HS.out.link hne;simp only[Value.slice.injEq,true_and] at hv;obtain⟨rfl,rfl⟩:=hv;go_wp2
  go_loopw [4,5] (fun s q wr=>∃ (j:Nat),j≤ps.length∧s=.int .i64 j∧q=.int .i64 (meas qA0 (ps.take j):Nat)∧qF2 qA0 (meas qA0 ps) ps 0=qF2 qA0 (meas qA0 ps) (ps.drop j) (meas qA0 (ps.take j))+j∧Kp [] w wr) (fun s _ _=>ps.length-(intOf s).toNat)
  case atStart=>exact⟨0,Nat.zero_le _,rfl,rfl,by simp[meas],hK1⟩
  case round=>
   obtain⟨j,hj,rfl,rfl,hcut,hK⟩:=hrel;have HC:=zh hcut;clear hcut;have hmt:=qM8 qA0 ps j;by_cases hgo:2*meas qA0 (ps.take j)<meas qA0 ps
   ·have hlt:j<ps.length:=by
     by_cases h:j<ps.length
     ·exact h
     ·rw[List.take_of_length_le (by omega)] at hgo;omega
    obtain⟨c0,c1,c2,c3⟩:=hcur j hlt;have hR:=hK.hp hrow;have a0:=ξ hR (off+j*4);rw[c0] at a0;have a1:=ξ hR (off+j*4+1);rw[c1] at a1;have a2:=ξ hR (off+j*4+2);rw[c2] at a2;have a3:=ξ hR (off+j*4+3);rw[c3] at a3;have hgs:=ζ hR;have hjb:(j:Int)<(ps.length:Int):=by omega
    have hgb:2*((meas qA0 (ps.take j):Nat):Int)<((meas qA0 ps:Nat):Int):=by omega
    have hz0:=HZ.out ps[j] (List.getElem_mem hlt);have HMS:Hid (meas qA0 (ps.take (j+1))=meas qA0 (ps.take j)+qA0 ps[j]):=qK8 qA0 ps j hlt;have HCN:Hid (qF2 qA0 (meas qA0 ps) (ps.drop j) (meas qA0 (ps.take j))=qF2 qA0 (meas qA0 ps) (ps.drop (j+1)) (meas qA0 (ps.take j)+qA0 ps[j])+1):=zT7 qA0 _ ps j _ hlt hgo;clear hcur;go_wp2_with fail;refine (xF3 ps[j] _ (by omega)).mono ?_;rintro e w2 ⟨rfl,hK2⟩;have hK2':Kp [] w w2:=hK.tr hK2;go_wp2;refine⟨⟨j+1,by omega,by go_num,by rw[HMS.out];go_num,?_,hK2'⟩,by simp[intOf];omega⟩;rw[HC.out,HCN.out,HMS.out];omega
   ·have hgb:¬2*((meas qA0 (ps.take j):Nat):Int)<((meas qA0 ps:Nat):Int):=by omega
    have hjc:qF2 qA0 (meas qA0 ps) ps 0=j:=by rw[HC.out,zT5 _ _ _ _ hgo];omega
    have HJ:=zh hjc;clear hjc;go_wp2_with fail;have hjl:j<ps.length:=by
     have hsp:=qZ6 qA0 (meas qA0 ps) 21 ps 0 HZ.out (by omega) (by omega);rw[HJ.out] at hsp;by_cases h:j<ps.length
     ·exact h
     ·rw[List.take_of_length_le (by omega)] at hsp;omega
    have hjn:¬cp=j:=by omega
    have hji:(j:Int)≤(ps.length:Int):=by omega
    have hjc:(j:Int)≤(cp:Int):=by omega
    have hncp:(ps.length:Int)≤(cp:Int):=by omega
    refine wp_region_any (by kernel_rfl) ?_;change wpAny _ _ _ _ _ _ _ (World.drew _);refine zu 0 (.slice (some ⟨gb,off,none⟩) ps.length cp) ?_;refine zu 1 (.int .i64 j) ?_;refine zu 2 (.int .i64 j) ?_;refine zu 3 (.slice (some ⟨gb,off,none⟩) j j) ?_;refine zu 4 (.slice (some ⟨gb,off,none⟩) ps.length cp) ?_;refine zu 5 (.int .i64 j) ?_;refine zu 6 (.slice (some ⟨gb,off+j*4,none⟩) (ps.length-j) (cp-j)) ?_;have hK':=hK;refine zQ 7 fun K hK=>?_;go_simp;obtain⟨w2,hw2,hG2,hK2⟩:∃ w2,w2=(wr.alloc (.cells #[.slice (some ⟨gb,off,none⟩) j j,.slice (some ⟨gb,off+j*4,none⟩) (ps.length-j) (cp-j)] 150)).drew∧w2.heap[wr.heap.size]?=some (.cells #[.slice (some ⟨gb,off,none⟩) j j,.slice (some ⟨gb,off+j*4,none⟩) (ps.length-j) (cp-j)] 150)∧Kp [] w w2:=⟨_,rfl,μ _ _,(hK'.alloc _).drew⟩;rw[←hw2];clear hw2;refine hK _ _ ?_;clear hK K
    try simp only[zZ]
    refine zQ 8 fun K hK=>?_;go_simp;refine hK _ _ ?_;clear hK K;refine wpAny_done (by kernel_rfl) ?_ _;go_wp2;go_ret;have e:qB8 qA0 ps=[ps.take j,ps.drop j]:=by unfold qB8;rw[if_neg hfit,HJ.out]
    rw[e];obtain⟨hlen,hval⟩:=HS.out;have hcs:∀ k u,(qA7 ps)[k]?=some u→cur[off+k]?=some u:=by
     rcases hval with⟨h0,_⟩|⟨g',off',cap',cur',fr',h1,_,_,h4,h5⟩
     ·omega
     ·simp only[Value.slice.injEq,Option.some.injEq,Addr.mk.injEq] at h1;obtain⟨⟨rfl,rfl,_⟩,_,_⟩:=h1;rw[hrow] at h4;cases h4;exact h5
    refine⟨wr.heap.size,[.slice (some ⟨gb,off,none⟩) j j,.slice (some ⟨gb,off+j*4,none⟩) (ps.length-j) (cp-j)],rfl,hG2,⟨rfl,fun i h1 h2=>?_⟩,hK2⟩;have hi:i=0∨i=1:=by simp at h1;omega
    rcases hi with rfl|rfl
    ·have:=qS0 (T:=81) (sz:=4) hrow hcs hlen 0 j j (by omega) (Nat.le_refl _);simp only[Nat.zero_mul,Nat.add_zero,List.drop_zero] at this;rw[←xA5] at this;simpa [Nat.min_eq_left hj] using this
    ·have:=qS0 (T:=81) (sz:=4) hrow hcs hlen j (ps.length-j) (cp-j) (by omega) (by omega);rw[←xA3,List.take_of_length_le (by rw[zJ4];simp)] at this;simpa using this
end Go.Proofs.YtdohpenfkdckiabGreatDoor
