import Derived.Test.YtdohpenfkdckiabGreatDoorP16
set_option linter.all false
set_option maxRecDepth 100000
set_option maxHeartbeats 20000000
namespace Go.Proofs.YtdohpenfkdckiabGreatDoor
open Go.Proofs.Tryz
open Go.RowKit
theorem zR9{N:Nat}{l:List UInt8}:∀ (n b:Nat) (s:Int) (t:Tn n),Laid N l n b s t→∀ k∈Blk n b t,k<N
 | 0,b,s,t,h,k,hk=>by simp[Blk] at hk;have:=h.at;omega
 | n+1,b,s,t,h,k,hk=>by
  have hb:=h.at;obtain⟨h1,h2,h3,hs,h4,h5⟩:=h;simp only[Blk,List.mem_cons,List.mem_flatMap] at hk;rcases hk with rfl|⟨m,hm,hk⟩
  ·omega
  ·obtain⟨i,hi,rfl⟩:=List.getElem_of_mem hm;have hr:=(h4.2 i (by rw[h4.1];exact hi) hi).2
   cases hx:(η t)[i].ref with
   | none=>rw[hx] at hk;cases hk
   | some x=>
    rw[hx] at hk hr;exact zR9 n x.1 x.2 _ hr.2.2.2 k hk
theorem Lie.lt{N:Nat}{l:List UInt8}{rb rs:Int}{r:Root}(h:Lie N l rb rs r):∀ k∈qL3 r,k<N:=fun k hk=>by
 cases r with
 | none=>cases hk
 | «at» n L=>
  obtain⟨b,rfl,h2,h3⟩:=h;have hk':k∈qH8 n L:=hk;rw[qR1 h2] at hk';exact zR9 n b rs L.sub h3 k hk'
def qN7(NB kc:Nat)(l2:List UInt8)(n0:Int)(a b:List KV):Prop:=∃ N' rb' rs' rr,Heads l2 N' rb' rs'∧Lie NB l2 rb' rs' rr∧RGood rr∧(rr.cont=a∨rr.cont=b)∧rr.cont.length≤kc∧n0≤N'∧N'≤n0+2
theorem xR0{NB kc:Nat}{l l1 l2:List UInt8}{ws1:List (Nat × List UInt8)}{N rb rs:Int}{rt nw:Root}{rds:List Root}{i j:Nat}(hN1:NB≤1000)(h2N:2≤NB)(hl:NB*128≤l.length)(hh:Heads l N rb rs)(hlie:Lie NB l rb rs nw)(hg:RGood nw)(hi:(N+1) % 2=(i:Int))(hj:(N+1+1) % 2=(j:Int))(hN0:0≤N)(hN9:N≤999999999)
  (hold:∀ u∈rds++[nw],qN8 NB (qB6 l i (qB4 (N+1) rb rs)) u) (hor:qN8 NB (qB6 l i (qB4 (N+1) rb rs)) rt)
  (hlies:∀ fr,fr=qC0 NB ((rds++[nw]).foldl qA5 (qA5 [] rt))→rt.news≤fr.length→∃ nt:Root,Lie NB (laidAll (qB6 l i (qB4 (N+1) rb rs)) (qB5 rt fr).2) (qB5 rt fr).1.b (qB5 rt fr).1.s nt∧RGood nt∧nt.cont=rt.cont∧(∀ u∈rds++[nw],∀ k∈qL3 u,χ (laidAll (qB6 l i (qB4 (N+1) rb rs)) (qB5 rt fr).2) k=χ (qB6 l i (qB4 (N+1) rb rs)) k)∧(∀ k,k<2→χ (laidAll (qB6 l i (qB4 (N+1) rb rs)) (qB5 rt fr).2) k=χ (qB6 l i (qB4 (N+1) rb rs)) k))
  (hkn:nw.cont.length≤kc) (hkr:rt.cont.length≤kc) (hc:qV3 NB l N rb rs rt nw rds i j l1 ws1) (hm:Mixed NB l1 ws1 l2):qN7 NB kc l2 N nw.cont rt.cont:=by
 have hi2:i<2:=by omega
 have hj2:j<2:=by omega
 have hij:i≠j:=by omega
 have hbn:=hlie.bnd hN1;have ho1:HeadOk i (N+1) rb rs:=⟨hi,by omega,by omega,hbn.1,hbn.2.1,hbn.2.2,hlie.sum⟩;have hbi:=qR0 l (qB4 (N+1) rb rs) i NB (qJ2 _ _ _) hl (by omega);have hbo:∀ k,k≠i→χ (qB6 l i (qB4 (N+1) rb rs)) k=χ l k:=fun k hk=>qP2 l _ i k NB (qJ2 _ _ _) hl (by omega) hk;have hh1:Heads (qB6 l i (qB4 (N+1) rb rs)) (N+1) rb rs:=hh.lay hi (fun k _ hk=>by rw[hbo k hk]) (by rw[hbi]) ho1;have hlie1:Lie NB (qB6 l i (qB4 (N+1) rb rs)) rb rs nw:=hlie.head hl (by omega) i hi2 _ _ _;rcases hc with⟨rfl,hw⟩|⟨rfl,hw⟩|⟨fr,hfr,hfit,rfl,hw⟩
 ·have hlie2:Lie NB l2 rb rs nw:=hlie.move fun k hk=>hm.oth k (hlie.lt k hk) (fun hmm=>by
   have h2:=hlie.ge k hk;rcases hw with rfl|rfl
   ·cases hmm
   ·simp at hmm;omega)
  rcases hw with rfl|rfl
  ·exact⟨N,rb,rs,nw,hh.same (fun k h2=>by rw[hm.oth k (by omega) (by simp)]),hlie2,hg,.inl rfl,hkn,by omega,by omega⟩
  ·have hoth:∀ k,k<2→k≠i→(χ l2 k).take 32=(χ l1 k).take 32:=fun k h2 hk=>by rw[hm.oth k (by omega) (by simpa using hk)]
   rcases hm.sec i (by omega) with h1|⟨x,hx,_,h1⟩
   ·exact⟨N,rb,rs,nw,hh.same (fun k h2=>by by_cases hk:k=i;rw[hk];exact h1;exact hoth k h2 hk),hlie2,hg,.inl rfl,hkn,by omega,by omega⟩
   ·rw[List.mem_singleton.1 hx] at h1;exact⟨N+1,rb,rs,nw,hh.lay hi hoth h1 ho1,hlie2,hg,.inl rfl,hkn,by omega,by omega⟩
 ·have hfo:=qW4 (N:=NB) (ks:=(rds++[nw]).foldl qA5 (qA5 [] rt));obtain⟨a1,a2,a3⟩:=zF0 hN1 rt [] hor (ClA.nil NB _);obtain⟨b1,b2,b3⟩:=zF1 hN1 (rds++[nw]) _ hold a2;have hsame:∀ k,k<NB→(k∈qL3 nw∨k<2)→χ l2 k=χ (qB6 l i (qB4 (N+1) rb rs)) k:=fun k hkN hk=>hm.oth k hkN (fun hmm=>by
   obtain⟨x,hx,rfl⟩:=List.mem_map.1 hmm;have h3:=hfo _ (hw x hx);rcases hk with hk|hk
   ·exact h3.2.2 (b3 nw (by simp) _ hk)
   ·omega)
  exact⟨N+1,rb,rs,nw,hh1.same (fun k h2=>by rw[hsame k (by omega) (.inr h2)]),hlie1.move (fun k hk=>hsame k (hlie1.lt k hk) (.inl hk)),hg,.inl rfl,hkn,by omega,by omega⟩
 ·obtain⟨nt,d1,d2,d3,d5,d6⟩:=hlies fr hfr hfit;have hb1:=d1.bnd hN1;have hh2:=hh1.move (l':=laidAll (qB6 l i (qB4 (N+1) rb rs)) (qB5 rt fr).2) d6;have hlie2:=hlie1.move (l':=laidAll (qB6 l i (qB4 (N+1) rb rs)) (qB5 rt fr).2) (d5 nw (by simp));generalize laidAll (qB6 l i (qB4 (N+1) rb rs)) (qB5 rt fr).2=l3 at *;have hnin:∀ {a b:Int} {u:Root},Lie NB l3 a b u→Lie NB l2 a b u:=fun {a b u} hu=>hu.move fun k hk=>hm.oth k (hu.lt k hk) (fun hmm=>by
   have h2:=hu.ge k hk;rcases hw with rfl|rfl
   ·cases hmm
   ·simp at hmm;omega)
  rcases hw with rfl|rfl
  ·exact⟨N+1,rb,rs,nw,hh2.same (fun k h2=>by rw[hm.oth k (by omega) (by simp)]),hnin hlie2,hg,.inl rfl,hkn,by omega,by omega⟩
  ·have hoth:∀ k,k<2→k≠j→(χ l2 k).take 32=(χ l3 k).take 32:=fun k h2 hk=>by rw[hm.oth k (by omega) (by simpa using hk)]
   rcases hm.sec j (by omega) with h1|⟨x,hx,_,h1⟩
   ·exact⟨N+1,rb,rs,nw,hh2.same (fun k h2=>by by_cases hk:k=j;rw[hk];exact h1;exact hoth k h2 hk),hnin hlie2,hg,.inl rfl,hkn,by omega,by omega⟩
   ·rw[List.mem_singleton.1 hx] at h1;exact⟨N+1+1,_,_,nt,hh2.lay hj hoth h1 ⟨hj,by omega,by omega,hb1.1,hb1.2.1,hb1.2.2,d1.sum⟩,hnin d1,d2,.inr d3,by rw[d3];exact hkr,by omega,by omega⟩
end Go.Proofs.YtdohpenfkdckiabGreatDoor
