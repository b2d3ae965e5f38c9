import Derived.Test.YtdohpenfkdckiabGreatDoorB17
import Derived.Test.YtdohpenfkdckiabGreatDoorRows
import Derived.ChangeSame
import Derived.ChangeVars
import Derived.JoinedOf
import Derived.RowKit
import Derived.LaidLaws
import Derived.LaidHandle
import Derived.Deep.Slices
import Derived.Stop.Joined
import Derived.Lay
set_option linter.all false
set_option maxRecDepth 100000
set_option maxHeartbeats 20000000
namespace Go.Proofs.YtdohpenfkdckiabGreatDoor
open Go.Proofs.Tryz
def Old:(n:Nat)→Lnk (Tn n)→Prop
 | 0,l=>l.ref.isSome=true
 | n+1,l=>l.ref.isSome=true∧∀ m∈ζ l.sub,Old n m
theorem Old.some{n:Nat}{l:Lnk (Tn n)}(h:Old n l):l.ref.isSome=true:=by
 cases n with
 | zero=>exact h
 | succ n=>exact h.1
theorem Old.news{n:Nat}{l:Lnk (Tn n)}(h:Old n l):news n l=0:=by
 have e:=h.some;cases n<;>simp[YtdohpenfkdckiabGreatDoor.news,e]
theorem qN1{n:Nat}:∀ {ls:List (Lnk (Tn n))},(∀ m∈ls,Old n m)→meas (fun m=>news n m) ls=0
 | [],_=>rfl
 | a::ls,h=>by rw[qC9,(h a (by simp)).news,qN1 fun m hm=>h m (by simp[hm])]
theorem zO5{N:Nat}{l:List UInt8}:∀ (n b:Nat) (s:Int) (t:Tn (n+1)),Laid N l (n+1) b s t→∀ m∈ζ t,Old n m
 | n,b,s,t,h,m,hm=>by
  obtain⟨h1,h2,h3,hs,h4,h5⟩:=h;obtain⟨i,hi,rfl⟩:=List.getElem_of_mem hm;have hr:=(h4.2 i (by rw[h4.1];exact hi) hi).2
  cases hx:(ζ t)[i].ref with
  | none=>
   rw[hx] at hr;obtain⟨_,_,q,_,hq⟩:=hr;exact hq.elim
  | some x=>
   rw[hx] at hr
   cases n with
   | zero=>show (ζ t)[i].ref.isSome=true;rw[hx];rfl
   | succ n=>exact⟨by rw[hx];rfl,zO5 n x.1 x.2 _ hr.2.2.2⟩
def Root.old:Root→Prop
 | .none=>True
 | .at n l=>Old n l
theorem Lie.olds{N:Nat}{l:List UInt8}{rb rs:Int}{r:Root}(h:Lie N l rb rs r):r.old:=by
 cases r with
 | none=>trivial
 | «at» n L=>
  obtain⟨b,rfl,h2,h3⟩:=h
  cases n with
  | zero=>show L.ref.isSome=true;rw[h2];rfl
  | succ n=>exact⟨by rw[h2];rfl,zO5 n b rs _ h3⟩
theorem qY0(key:ByteArray)(ps:List KV):meas (fun m=>news 0 m) (qC8 key ps)≤2:=by
 unfold qC8 qB2;split
 ·show meas _ [(⟨key,none,ps⟩:Lnk (Tn 0))]≤2;rw[qC9,qD1];show (0+1)+0≤2;decide
 ·show meas _ [(⟨key,none,_⟩:Lnk (Tn 0)),⟨_,none,_⟩]≤2;rw[qC9,qC9,qD1];show (0+1)+((0+1)+0)≤2;decide
theorem qY3{n:Nat}(key:ByteArray)(ls:List (Lnk (Tn n))):news (n+1) ⟨key,none,ls⟩=1+meas (fun m=>news n m) ls:=by
 simp[news];rfl
theorem qV7{n:Nat}(key:ByteArray)(ls:List (Lnk (Tn n))):meas (fun m=>news (n+1) m) (qC0 n key ls)≤2+meas (fun m=>news n m) ls:=by
 unfold qC0 qB2;split
 ·show meas _ [(⟨key,none,ls⟩:Lnk (Tn (n+1)))]≤_;rw[qC9,qD1,qY3];omega
 ·show meas _ [(⟨key,none,_⟩:Lnk (Tn (n+1))),⟨_,none,_⟩]≤_;rw[qC9,qC9,qD1,qY3,qY3];have:=qL5 (fun m=>news n m) ls (qD8 qA0 (meas qA0 ls) ls 0);omega
theorem zZ4:∀ (n:Nat) (l:Lnk (Tn n)) (p:KV),Old n l→meas (fun m=>news n m) (qD2 n l p)≤2*n+2
 | 0,l,p,h=>qY0 _ _
 | n+1,l,p,h=>by
  show meas _ (match (ζ l.sub)[qA6 (ζ l.sub) p.k]? with
    | some m=>qC0 n l.key ((ζ l.sub).take (qA6 (ζ l.sub) p.k)++qD2 n m p++(ζ l.sub).drop (qA6 (ζ l.sub) p.k+1))
    | none=>[])≤_
  cases hx:(ζ l.sub)[qA6 (ζ l.sub) p.k]? with
  | none=>simp[meas]
  | some m=>
   have hm:m∈ζ l.sub:=List.mem_of_getElem? hx;have h1:=qV7 l.key ((ζ l.sub).take (qA6 (ζ l.sub) p.k)++qD2 n m p++(ζ l.sub).drop (qA6 (ζ l.sub) p.k+1));have h2:=zZ4 n m p (h.2 m hm);rw[qE0,qE0,qN1 fun x hx=>h.2 x (List.mem_of_mem_take hx),qN1 fun x hx=>h.2 x (List.mem_of_mem_drop hx)] at h1;show meas _ (qC0 n l.key _)≤_;omega
theorem zS4{n:Nat}{l:Lnk (Tn (n+1))}(h:Old (n+1) l):meas (fun m=>news n m) (ζ l.sub)=0:=qN1 h.2
theorem xO1:∀ {n:Nat} {a b:Lnk (Tn n)},a.ref=none→Old n b→meas (fun m=>news n m) (qD0 n a.key a.sub b.sub)≤news n a+1
 | 0,a,b,ha,hb=>by
  have h1:=qY0 a.key (List.append (α:=KV) a.sub b.sub);have h2:news 0 a=1:=by simp[news,ha]
  show meas _ (qC8 a.key (List.append (α:=KV) a.sub b.sub))≤_;omega
 | n+1,a,b,ha,hb=>by
  have h1:=qV7 a.key (ζ a.sub++ζ b.sub);have h2:news (n+1) a=1+meas (fun m=>news n m) (ζ a.sub):=by simp[news,ha]
  rw[qE0,zS4 hb] at h1;show meas _ (qC0 n a.key (ζ a.sub++ζ b.sub))≤_;omega
theorem xO2:∀ {n:Nat} {a b:Lnk (Tn n)},Old n a→b.ref=none→meas (fun m=>news n m) (qD0 n a.key a.sub b.sub)≤news n b+1
 | 0,a,b,ha,hb=>by
  have h1:=qY0 a.key (List.append (α:=KV) a.sub b.sub);have h2:news 0 b=1:=by simp[news,hb]
  show meas _ (qC8 a.key (List.append (α:=KV) a.sub b.sub))≤_;omega
 | n+1,a,b,ha,hb=>by
  have h1:=qV7 a.key (ζ a.sub++ζ b.sub);have h2:news (n+1) b=1+meas (fun m=>news n m) (ζ b.sub):=by simp[news,hb]
  rw[qE0,zS4 ha] at h1;show meas _ (qC0 n a.key (ζ a.sub++ζ b.sub))≤_;omega
theorem xR3{n:Nat}{A W B:List (Lnk (Tn n))}{m:Lnk (Tn n)}(hA:∀ x∈A,Old n x)(hB:∀ x∈B,Old n x)(hW:Made n m 1 W)(hlen:2≤(A++W++B).length):
  meas (fun m=>news n m) (qB3 n (A++W++B) A.length)≤meas (fun m=>news n m) W+1:=by
 have all:meas (fun m=>news n m) (A++W++B)=meas (fun m=>news n m) W:=by rw[qE0,qE0,qN1 hA,qN1 hB];omega
 have stay:(∀ x∈W.head?,3≤cnt n x.sub)→W≠[]→meas (fun m=>news n m) (qB3 n (A++W++B) A.length)≤meas (fun m=>news n m) W+1:=fun h3 hne=>by
  obtain⟨a,r,rfl⟩:∃ a r,W=a::r:=by
   cases W with
   | nil=>exact absurd rfl hne
   | cons a r=>exact⟨a,r,rfl⟩
  have h4:(A++a::r++B)[A.length]?=some a:=by simp
  have h5:=h3 a (by simp);have e:qB3 n (A++a::r++B) A.length=A++a::r++B:=by
   unfold qB3;rw[h4];simp[h5]
  rw[e,all];omega
 rcases hW with⟨a,rfl,e1,e2,e3⟩|⟨a,b,rfl,e1,e2,e3,e4,e5⟩
 ·by_cases h3:3≤cnt n a.sub
  ·exact stay (by simpa using h3) (by simp)
  ·have hat:(A++[a]++B)[A.length]?=some a:=by simp
   cases B with
   | cons b Q=>
    have hmin:min A.length ((A++[a]++b::Q).length-2)=A.length:=by simp;omega
    have ha1:(A++[a]++b::Q)[A.length+1]?=some b:=by
     rw[show A++[a]++b::Q=(A++[a])++b::Q from rfl,List.getElem?_append_right (by simp)];simp
    have e:qB3 n (A++[a]++b::Q) A.length=A++qD0 n a.key a.sub b.sub++Q:=by
     unfold qB3;rw[hat];simp only[h3,if_false,hmin,hat,ha1]
     congr 2
     ·simp
     ·rw[show A++[a]++b::Q=(A++[a,b])++Q by simp];exact List.drop_left' (by simp)
    have h5:=xO1 (a:=a) (b:=b) e2 (hB b (by simp));have hQ:meas (fun m=>news n m) Q=0:=qN1 fun x hx=>hB x (by simp[hx]);rw[e,qE0,qE0,qN1 hA,hQ,qC9,qD1];omega
   | nil=>
    rcases List.eq_nil_or_concat A with rfl|⟨P,p,rfl⟩
    ·simp at hlen
    ·rw[List.concat_eq_append] at *;have hmin:min (P++[p]).length ((P++[p]++[a]++[]).length-2)=P.length:=by simp
     have hp0:(P++[p]++[a]++[])[P.length]?=some p:=by simp
     have hp1:(P++[p]++[a]++[])[P.length+1]?=some a:=by simp
     have e:qB3 n (P++[p]++[a]++[]) (P++[p]).length=P++qD0 n p.key p.sub a.sub++[]:=by
      unfold qB3;rw[hat];simp only[h3,if_false,hmin,hp0,hp1]
      congr 2
      ·simp
      ·simp
     have h5:=xO2 (a:=p) (b:=a) (hA p (by simp)) e2;have hP:meas (fun m=>news n m) P=0:=qN1 fun x hx=>hA x (by simp[hx]);rw[e,qE0,qE0,hP,qD1,qC9,qD1];omega
 ·exact stay (by simpa using e4) (by simp)
theorem zZ5:∀ (n:Nat) (l:Lnk (Tn n)) (k:ByteArray),Old n l→Good n l.key l.sub→kl k l.key=false→l.key.size≤8→(∃ q∈cont n l.sub,q.k=k)→min n 1<cnt n l.sub→
  meas (fun m=>news n m) (qB7 n l k)≤3*n+2
 | 0,l,k,ho,h,hk,hz,hq,h1=>qY0 _ _
 | n+1,l,k,ho,h,hk,hz,hq,h1=>by
  have h2:1<(ζ l.sub).length:=by have h2:min (n+1) 1<(ζ l.sub).length:=h1;omega
  have hr:Row0 n l.key (ζ l.sub):=⟨h.head,fun m hm=>⟨(h.all m hm).1,(h.all m hm).2.2⟩,h.pair⟩;obtain⟨A,m,B,e,hA,hkm,hqA,hqB⟩:=qU4 (k:=k) hr (by intro e;rw[e] at h2;simp at h2) hk;have hall:∀ x∈A++m::B,Good n x.key x.sub∧3≤cnt n x.sub∧x.key.size≤8:=fun x hx=>h.all x (by show x∈ζ l.sub;rw[e];exact hx);have hold:∀ x∈A++m::B,Old n x:=fun x hx=>ho.2 x (by rw[e];exact hx);have hm:=hall m (by simp);have hqB':∀ b∈B,∀ q∈cont n b.sub,kl k q.k=true:=fun b hb q hq=>qK7 (hqB b hb) ((qM0 n b.key b.sub (hall b (by simp[hb])).1).2 q hq).2;have hqm:∃ q∈cont n m.sub,q.k=k:=by
   obtain⟨q,hq,eq⟩:=hq;have hq:q∈(ζ l.sub).flatMap (fun l=>cont n l.sub):=hq;rw[e] at hq;obtain⟨x,hx,hqx⟩:=List.mem_flatMap.1 hq;rcases List.mem_append.1 hx with hx|hx
   ·exact absurd eq (qG9 (hqA x hx q hqx))
   ·rcases List.mem_cons.1 hx with rfl|hx
    ·exact⟨q,hqx,eq⟩
    ·exact absurd eq.symm (qG9 (hqB' x hx q hqx))
  obtain⟨w1,w2,w3⟩:=qS3 n m k hm.1 hkm hm.2.2 hqm (by omega);have hW1:1≤(qB7 n m k).length:=List.length_pos_iff.2 w3.ne;have hlen:(ζ l.sub).length≤(A++qB7 n m k++B).length:=by rw[e];simp;omega
  have hf:=xR3 (A:=A) (B:=B) (W:=qB7 n m k) (m:=m) (fun x hx=>hold x (by simp[hx])) (fun x hx=>hold x (by simp[hx])) w3 (by omega);have hi:=zZ5 n m k (hold m (by simp)) hm.1 hkm hm.2.2 hqm (by omega);have hw:qB7 (n+1) l k=qC0 n l.key (qB3 n (A++qB7 n m k++B) A.length):=by
   have hget:(ζ l.sub)[qA6 (ζ l.sub) k]?=some m:=by rw[←hA,e];simp
   have htake:(ζ l.sub).take (qA6 (ζ l.sub) k)=A:=by rw[←hA,e];simp
   have hdrop:(ζ l.sub).drop (qA6 (ζ l.sub) k+1)=B:=by
    rw[←hA,e,show A++m::B=(A++[m])++B by simp];exact List.drop_left' (by simp)
   show (match (ζ l.sub)[qA6 (ζ l.sub) k]? with
    | some m=>qC0 n l.key (qB3 n ((ζ l.sub).take (qA6 (ζ l.sub) k)++qB7 n m k++(ζ l.sub).drop (qA6 (ζ l.sub) k+1)) (qA6 (ζ l.sub) k))
    | none=>[])=_
   rw[hget,htake,hdrop,hA]
  rw[hw];have hb:=qV7 l.key (qB3 n (A++qB7 n m k++B) A.length);omega
theorem xY2:∀ (n:Nat) (l:Lnk (Tn n)),l.ref=none→(qL7 n l).news≤news n l
 | 0,l,h=>by
  show Root.news (match prs l.sub with | []=>.none | _::_=>.at 0 l)≤_
  cases prs l.sub with
  | nil=>exact Nat.zero_le _
  | cons x r=>exact Nat.le_refl _
 | n+1,l,h=>by
  have e:news (n+1) l=1+meas (fun m=>news n m) (ζ l.sub):=by simp[news,h]
  show Root.news (match ζ l.sub with | []=>.none | [m]=>.at n m | _::_::_=>.at (n+1) l)≤_
  cases hx:ζ l.sub with
  | nil=>exact Nat.zero_le _
  | cons x r=>
   cases r with
   | nil=>rw[e,hx,qC9,qD1];show news n x≤_;omega
   | cons y r=>exact Nat.le_refl _
theorem zY9{n:Nat}{l:Lnk (Tn n)}{d:Nat}{W:List (Lnk (Tn n))}(hM:Made n l d W)(hW:∀ w∈W,w.key.size≤8):(qE2 n W).news≤meas (fun m=>news n m) W+1:=by
 rcases hM with⟨a,rfl,e1,e2,e3⟩|⟨a,b,rfl,e1,e2,e3,e4,e5⟩
 ·have h1:=xY2 n a e2;rw[qC9,qD1];show (qL7 n a).news≤_;omega
 ·have h2:meas qA0 [a,b]≤126:=by
   have:=hW a (by simp);have:=hW b (by simp);simp[meas,qA0];omega
  have e:qC0 n ⟨#[]⟩ [a,b]=[⟨⟨#[]⟩,none,[a,b]⟩]:=by
   unfold qC0 qB2;rw[if_pos h2];rfl
  have e':qE2 n [a,b]=.at (n+1) ⟨⟨#[]⟩,none,[a,b]⟩:=by
   show (match qC0 n ⟨#[]⟩ [a,b] with | []=>Root.none | r::_=>qL7 (n+1) r)=_;rw[e];rfl
  rw[e'];show news (n+1) ⟨⟨#[]⟩,none,[a,b]⟩≤_;rw[qY3];omega
theorem zW9{n:Nat}{l:Lnk (Tn n)}(h:RGood (.at n l))(hc:(cont n l.sub).length≤161):n≤3:=by
 obtain⟨h1,h2,h3⟩:=h;have h4:=zC5 n l.key l.sub h2;by_cases hn:n≤3
 ·exact hn
 ·have h5:3 ^ 4≤3 ^ n:=Nat.pow_le_pow_right (by omega) (by omega);have h6:2*3 ^ n≤cnt n l.sub*3 ^ n:=Nat.mul_le_mul_right _ (by omega);omega
theorem zW6{r:Root}{p:KV}(h:RGood r)(ho:r.old)(hp:qC2 p)(hc:r.cont.length≤161):(r.put p).news≤12:=by
 cases r with
 | none=>
  have h1:=qL3 (r:=.none) (p:=p) trivial hp;have h2:=qM1 h1.1;have h3:=qJ1 p Root.none.cont;rw[h1.2] at h2;have h4:Root.none.cont.length=0:=rfl;omega
 | «at» n l=>
  have hd:=zW9 h hc;obtain⟨h1,h2,h3⟩:=h;obtain⟨w1,w2,w3⟩:=qS2 n l p h2 hp (by rw[h1];exact qK3 _) (by rw[h1];decide) (by omega);have h4:=zY9 w3 (fun w hw=>(w1.all w hw).2);have h5:=zZ4 n l p ho;show (qE2 n (qD2 n l p)).news≤_;omega
theorem xI0{r:Root}{k:ByteArray}(h:RGood r)(ho:r.old)(hc:r.cont.length≤161):(r.del k).news≤12:=by
 cases r with
 | none=>exact Nat.zero_le _
 | «at» n l=>
  have hd:=zW9 h hc;obtain⟨h1,h2,h3⟩:=h;unfold Root.del;by_cases hq:(cont n l.sub).any (fun q=>decide (q.k=k))=true
  ·simp only[hq,if_true];have hq':∃ q∈cont n l.sub,q.k=k:=by simpa using hq
   obtain⟨w1,w2,w3⟩:=qS3 n l k h2 (by rw[h1];exact qK3 _) (by rw[h1];decide) hq' h3;have h4:=zY9 w3 (fun w hw=>(w1.all w hw).2);have h5:=zZ5 n l k ho h2 (by rw[h1];exact qK3 _) (by rw[h1];decide) hq' h3;omega
  ·simp only[hq];have h6:news n l=0:=Old.news ho;show news n l≤12;omega
end Go.Proofs.YtdohpenfkdckiabGreatDoor
namespace Go.Proofs.YtdohpenfkdckiabGreatDoor
open Go.Proofs.Tryz
open Go.RowKit
theorem zY3{α:Type}{f:α→Bool}{x:α}:∀ {l:List α},x∈l.takeWhile f→f x=true
 | a::l,h=>by
  rw[List.takeWhile_cons] at h;by_cases e:f a=true
  ·rw[if_pos e] at h;rcases List.mem_cons.1 h with rfl|h
   ·exact e
   ·exact zY3 h
  ·rw[if_neg e] at h;cases h
theorem xM6{p q:KV}{l:List KV}(h:q∈ins p l)(hk:q.k=p.k):q=p:=by
 simp only[ins,List.mem_append,List.mem_cons,List.mem_filter] at h;rcases h with h|h|h
 ·have h1:=zY3 h;rw[hk,qQ5] at h1;cases h1
 ·exact h
 ·simp[hk] at h
section
variable {w:World} {kc db St A C N nM:Nat} {s:Sto} {D:DataW Unit} {l:List UInt8} {wr:Int} {nw:Root}
end
theorem qX6(A n C:Nat)(cache:Value)(calls writes:Int)(w:World)(h:w.heap[A]?=some (φ n C cache calls writes)):
  Calls prog 30 #[.pointer (some ⟨A,0,none⟩)] w fun e w'=>e=.returned (.int .i64 writes)∧w'=w:=by
 have c0:=ξ h;simp only[φ,zG,zH,zI] at c0;clear h;go_enter func30,ntmps30;go_wp2;go_ret;exact⟨rfl,rfl⟩
section
variable {w:World} {kc db St A C N nM:Nat} {s:Sto} {D:DataW Unit} {l:List UInt8} {wr:Int} {nw:Root}
end
def qL8:ByteArray:=⟨#[98,97,57,56,55,54,53,52,51,50,49,48]⟩
theorem xG8(a n:Int)(ha0:-9223372036854775808≤a)(ha1:a≤9223372036854775807)(hn0:-9223372036854775808≤n)(hn1:n≤9223372036854775807)(w:World):
  Calls prog 6 #[.int .i64 a,.int .i64 n] w fun e w'=>e=.returned (.bool true)∧Kp [] w w':=by
 go_enter func6,ntmps6;go_wp2_with fail;refine (qX5 n 120 hn0 hn1 (by omega) (by omega) w).mono ?_;rintro e w1 ⟨⟨k0,rfl,hk0,hk1⟩,hw⟩;rw[hw];clear hw w1;obtain⟨m,hm⟩:∃ m:Nat,(m:Int)=1+k0:=⟨(1+k0).toNat,by omega⟩;have HF:Hid (Calls prog 24 #[.int .i64 400,.int .i64 m] w fun e w'=>∃ db St A C s l wr nw,e=.returned (.tuple #[.pointer (some ⟨A,0,none⟩),.pointer (some ⟨db,0,none⟩)])∧Shop w' 200 db St A C 400 0 s emp l wr nw∧s.wr=0∧s.bg=1∧s.N≤10∧0≤wr∧wr≤1000∧nw.cont.length≤m∧(∀ j:Nat,j<m→(⟨qB8 j,qH1⟩:KV)∈nw.cont)∧(∀ q∈nw.cont,∃ j:Nat,j<m∧q.k=qB8 j)∧w.heap.size≤A∧w.heap.size≤C∧w.heap.size≤St∧w.heap.size≤db∧w.heap.size≤s.M∧Kp [] w w'):=xA8 400 200 m (by omega) (by omega) (by omega) (by omega) (by omega) (by omega) w;have HM:=zh hm;have hm1:(1:Int)≤(m:Int):=by omega
 have hm2:(m:Int)≤120:=by omega
 clear hm;go_wp2_with fail;rw[←HM.out];clear HM hk0 hk1;refine (show Calls _ _ _ _ _ from HF.out).mono ?_;rintro e w1 ⟨db,St,A,C,s0,l0,wr0,nw0,rfl,hS1,q1,q2,q3,q4,q5,q6,q7,q8,gA,gC,gS,gd,gM,hK1⟩;have HS1:=zh hS1;obtain⟨M,hM⟩:∃ M,M=s0.M:=⟨_,rfl⟩;have HQ1:Hid (s0.wr=0∧s0.bg=1+((0:Nat):Int)∧s0.N≤10+2*((0:Nat):Int)∧0≤wr0∧wr0≤1000+20*((0:Nat):Int)∧nw0.cont.length≤m+0∧s0.M=M):=⟨q1,by omega,by omega,q4,by omega,by omega,hM.symm⟩;have HA1:=zh q7;have HK1:=zh hK1;rw[←hM] at gM;clear hS1 hM q1 q2 q3 q4 q5 q6 q7 q8 hK1 HF;go_wp2_with fail;refine (qX5 a 2147483648 ha0 ha1 (by omega) (by omega) w1).mono ?_;rintro e w2 ⟨⟨v0,rfl,hv0,hv1⟩,hw⟩;rw[hw];clear hw w2;go_wp2_with fail
 go_loopw [8,9] (fun v i wr=>∃ (j:Nat) (vi:Int) (s:Sto) (l:List UInt8) (wc:Int) (nw:Root),j≤10∧i=.int .i64 j∧v=.int .i64 vi∧0≤vi∧vi<2147483648∧Hid (Shop wr 200 db St A C 400 0 s emp l wc nw)∧Hid (s.wr=0∧s.bg=1+(j:Int)∧s.N≤10+2*(j:Int)∧0≤wc∧wc≤1000+20*(j:Int)∧nw.cont.length≤m+j∧s.M=M)∧Hid (j=0→∀ i:Nat,i<m→(⟨qB8 i,qH1⟩:KV)∈nw.cont)∧Hid (Kp [] w wr)) (fun _ i _=>10-(intOf i).toNat)
 case atStart=>exact⟨0,v0,s0,l0,wr0,nw0,by omega,rfl,rfl,hv0,hv1,HS1,HQ1,fun _=>HA1.out,HK1⟩
 case round=>
  obtain⟨j,vi,s,l,wc,nw,hj,rfl,rfl,hi0,hi1,HS,HQ,HA,HK⟩:=hrel;clear HS1 HQ1 HA1 HK1;by_cases hlt:j<10
  ·have hjb:(j:Int)<10:=by omega
   go_wp2_with fail;refine (zO2 vi hi0 hi1 wr).mono ?_;rintro e w2 ⟨⟨u,rfl,hu0,hu1⟩,hw⟩;rw[hw];clear hw w2;have hm0:¬(m:Int)=0:=by omega
   have d1:(u / 16).tmod (m:Int)=u / 16 % (m:Int):=Int.tmod_eq_emod_of_nonneg (by omega);obtain⟨i0,hi0'⟩:∃ i0:Nat,(i0:Int)=u / 16 % (m:Int):=⟨(u / 16 % (m:Int)).toNat,by have:=Int.emod_nonneg (u / 16) hm0;omega⟩;have hi1':(i0:Int)<(m:Int):=by rw[hi0'];exact Int.emod_lt_of_pos _ (by omega)
   have d2:(u / 16).tmod (m:Int)=(i0:Int):=d1.trans hi0'.symm;clear d1 hi0';go_wp2_with fail;refine (zI3 i0 (by omega) (by omega) wr).mono ?_;rintro e w3 ⟨rfl,hK3⟩;have hS3:=HS.out.more hK3;have HB:Hid (Calls prog 22 #[.pointer (some ⟨db,0,none⟩),.bool true] w3 fun e w'=>∃ x t,e=.returned (.tuple #[.pointer (some ⟨x,0,none⟩),.nilIface])∧w3.heap.size≤x∧t.St=St∧t.nr=s.bg+1∧t.wrt=true∧t.ch=0∧Kp [St] w3 w'∧∃ hS':Shop w' 200 db St A C 400 0 s.wrote emp l wc nw,LiveT hS'.E w' x A 400 t s.wrote nw):=hS3.beginW HQ.out.1 (by have:=HQ.out.2.1;omega);have HK3:Hid (Kp [] w w3):=HK.out.tr hK3;have HO:=zh hS3.lie.olds;clear hS3 hK3 HS HK d2;go_wp2_with fail;refine (show Calls _ _ _ _ _ from HB.out).mono ?_;rintro e w4 ⟨x,t,rfl,hx4,ht1,ht2,ht3,ht4,hK4,hS4,hL4⟩;have hs3:=HK3.out.size;have HW4:Hid (Wrt w4 200 db St A C 400 0 s.wrote emp l wc nw x t nw (s.bg+1)):=⟨hS4,hL4,ht1,ht2,ht3⟩;have HK4:Hid (Kp [] w w4):=HK3.out.trans hK4 (by intro i hi hlt;simp at hi;omega);clear hK4 hS4 hL4 ht1 ht2 ht3 HB HK3;by_cases hd:u / 4096 % 3=0
   ·have HD:Hid (Calls prog 27 #[.pointer (some ⟨x,0,none⟩),.string (qB8 i0)] w4 fun e w'=>e=.returned .nilIface∧∃ h',FineT HW4.out.shop.E w4 w' x t s.wrote (nw.del (qB8 i0)) h'):=zL4 HW4.out.shop.E x A 400 t s.wrote nw (qB8 i0) w4 HW4.out.live HW4.out.wrt ((qU8 _).2 ⟨by rw[qU5];omega,by rw[qU5];omega⟩);go_wp2_with fail;refine (show Calls _ _ _ _ _ from HD.out).mono ?_;rintro e w5 ⟨rfl,h5,hF⟩;obtain⟨hW5,hK5,hcn⟩:=HW4.out.del hF (by omega) (by have:=HQ.out.2.2.2.2.2.1;omega);obtain⟨t5,ht5⟩:∃ t5:Tx,t5={ t with h:=h5,ch:=t.ch+1 }:=⟨_,rfl⟩;rw[←ht5] at hW5;have HR5:Hid ((nw.del (qB8 i0)).cont.length≤m+(j+1)∧(nw.del (qB8 i0)).news≤12∧(j=0→(nw.del (qB8 i0)).cont≠nw.cont)):=by
     have hq:=HQ.out.2.2.2.2.2.1;refine⟨?_,xI0 HW4.out.shop.good HO.out (by omega),fun h e=>?_⟩
     ·rw[hcn];have:=zH4 (qB8 i0) nw.cont;omega
     ·have h1:=HA.out h i0 (by omega);rw[←e,hcn] at h1;exact (qR4.1 h1).2 rfl
    obtain⟨r5,hr5⟩:∃ r5,r5=nw.del (qB8 i0):=⟨_,rfl⟩;rw[←hr5] at hW5 HR5;have HW5:=zh hW5;have hs4:=HK4.out.size;have HK5:Hid (Kp [] w w5):=HK4.out.trans hK5 (by intro i hi hlt;simp at hi;omega);clear hF hW5 hK5 hcn ht5 hr5 HD HW4 HK4 HO HA hd;have HWR:Hid (Calls prog 30 #[.pointer (some ⟨A,0,none⟩)] w5 fun e w'=>e=.returned (.int .i64 wc)∧w'=w5):=by obtain⟨c,h⟩:=HW5.out.shop.hA;exact qX6 A 400 C _ c wc w5 h
    have HC:Hid (Calls prog 14 #[.pointer (some ⟨x,0,none⟩)] w5 fun e w'=>e=.returned .nilIface∧∃ s' l' wr' nt,Shop w' 200 db St A C 400 0 s' (emp.del (qA5 t5.nr)) l' wr' nt∧nt.cont=r5.cont∧(wr'=nx (nk (nx wc) r5.news)∨wr'=wc∧nw.cont=r5.cont)∧s'.N≤s.N+2∧s'.bg=s.bg+1∧s'.wr=(s.wrote.left t5.nr).wr∧s'.M=s.M∧Kp [St,x,s.M,A,C] w5 w'):=by
     have h1:=qM1 HW5.out.live.good;have h2:=qN5 HW5.out.live.good;have h3:=qN5 HW5.out.shop.good;have h4:=HR5.out.1;have h5:=HQ.out.2.2.2.2.2.1;refine (HW5.out.shop.commitsW HW5.out.live HW5.out.st HW5.out.wrt (by rw[HW5.out.nr];have:=HQ.out.2.1;omega) (by rw[HW5.out.nr];have:=HQ.out.2.1;omega) (by omega) (by show s.N≤_;have:=HQ.out.2.2.1;omega) (by show _+_+0*200+_+2≤400;omega)).mono ?_;rintro e w' ⟨c0,s',l',wr',nt,c1,c2,c3,c4,c5,c6,c7,c8,_,c9,_⟩;exact⟨c0,s',l',wr',nt,c1,c2,c3,c4,c5,c6,c8,c9⟩
    have HT5:=zh HW5.out.nr;clear HW5;go_wp2_with fail;refine (show Calls _ _ _ _ _ from HWR.out).mono ?_;rintro e w5' ⟨rfl,hw⟩;rw[hw];clear hw w5';go_wp2_with fail;refine (show Calls _ _ _ _ _ from HC.out).mono ?_;rintro e w6 ⟨rfl,s',l',wc',nt,hS6,e1,e2,e3,e4,e5,e6,hK6⟩;rw[qU7] at hS6;have hw6:s'.wr=0:=by rw[e5];show (if t5.nr=s.bg+1 then 0 else _)=(0:Int);rw[if_pos HT5.out]
    have hq:=HQ.out;have hr:=HR5.out;have hdf:0≤wc'∧wc'≤wc+14∧(j=0→¬wc'=wc):=by
     rcases e2 with e2|⟨e2,e2'⟩
     ·rw[e2,zH3 _ _ (by omega) (by omega)];exact⟨by omega,by omega,fun _=>by omega⟩
     ·exact⟨by omega,by omega,fun h=>absurd e2'.symm (hr.2.2 h)⟩
    have HWR6:Hid (Calls prog 30 #[.pointer (some ⟨A,0,none⟩)] w6 fun e w'=>e=.returned (.int .i64 wc')∧w'=w6):=by obtain⟨c,h⟩:=hS6.hA;exact qX6 A 400 C _ c wc' w6 h
    have HS6:=zh hS6;have HQ6:Hid (s'.wr=0∧s'.bg=1+((j+1:Nat):Int)∧s'.N≤10+2*((j+1:Nat):Int)∧0≤wc'∧wc'≤1000+20*((j+1:Nat):Int)∧nt.cont.length≤m+(j+1)∧s'.M=M):=⟨hw6,by omega,by omega,by omega,by omega,by rw[e1];omega,by rw[e6];exact hq.2.2.2.2.2.2⟩;have HK6:Hid (Kp [] w w6):=HK5.out.trans hK6 (by intro i hi hlt;have:=hq.2.2.2.2.2.2;simp at hi;omega);have hw1:wrap64 (wc'-wc)=wc'-wc:=by simp only[wrap64];omega
    have hgt:¬(14:Int)<wc'-wc:=by omega
    have hwd:∃ z,z=wc'-wc:=⟨_,rfl⟩;obtain⟨h6a,h6b,h6c⟩:=hdf;clear hS6 e1 e2 e3 e4 e5 e6 hK6 hw6 hq hr HC HWR HT5;by_cases hj0:j=0
    ·have hne:=h6c hj0;subst hj0;clear h6c;go_wp2_with fail;refine (show Calls _ _ _ _ _ from HWR6.out).mono ?_;rintro e w7 ⟨rfl,hw⟩;rw[hw];clear hw w7;go_wp2_with fail;refine (show Calls _ _ _ _ _ from HWR6.out).mono ?_;rintro e w7 ⟨rfl,hw⟩;rw[hw];clear hw w7;go_wp2
     ·rename_i h;exfalso;rcases h with h|h
      ·omega
      ·simp at h;exact hne h
     exact⟨⟨0+1,u,s',l',wc',nt,by omega,by go_num,rfl,hu0,hu1,HS6,HQ6,fun h=>by omega,HK6⟩,by simp[intOf]⟩
    ·have hjn:¬(j:Int)=0:=by omega
     clear h6c;go_wp2_with fail;refine (show Calls _ _ _ _ _ from HWR6.out).mono ?_;rintro e w7 ⟨rfl,hw⟩;rw[hw];clear hw w7;go_wp2;exact⟨⟨j+1,u,s',l',wc',nt,by omega,by go_num,rfl,hu0,hu1,HS6,HQ6,fun h=>by omega,HK6⟩,by simp[intOf];omega⟩
   ·have hp:qC2 ⟨qB8 i0,qL8⟩:=okWide i0 qL8 (by decide);have HP:Hid (Calls prog 28 #[.pointer (some ⟨x,0,none⟩),.string (qB8 i0),.string ⟨#[98,97,57,56,55,54,53,52,51,50,49,48]⟩] w4 fun e w'=>e=.returned .nilIface∧∃ h',FineT HW4.out.shop.E w4 w' x t s.wrote (nw.put ⟨qB8 i0,qL8⟩) h'):=by
     refine zA4 HW4.out.shop.E x A 400 t s.wrote nw ⟨qB8 i0,qL8⟩ w4 HW4.out.live HW4.out.wrt hp ?_;have h1:=zW6 HW4.out.shop.good HO.out hp (by have:=HQ.out.2.2.2.2.2.1;omega);have h2:=HW4.out.shop.bl1;have h3:=HQ.out.2.2.2.2.2.1;have h4:s.wrote.bl=s.bl:=rfl;rw[h4] at h2 ⊢;omega
    go_wp2_with fail;refine (show Calls _ _ _ _ _ from HP.out).mono ?_;rintro e w5 ⟨rfl,h5,hF⟩;obtain⟨hW5,hK5,hcn,_,_⟩:=HW4.out.put hF hp (by omega) (by have:=HQ.out.2.2.2.2.2.1;omega);obtain⟨t5,ht5⟩:∃ t5:Tx,t5={ t with h:=h5,ch:=t.ch+1 }:=⟨_,rfl⟩;rw[←ht5] at hW5;have HR5:Hid ((nw.put ⟨qB8 i0,qL8⟩).cont.length≤m+(j+1)∧(nw.put ⟨qB8 i0,qL8⟩).news≤12∧(j=0→(nw.put ⟨qB8 i0,qL8⟩).cont≠nw.cont)):=by
     have hq:=HQ.out.2.2.2.2.2.1;refine⟨?_,zW6 HW4.out.shop.good HO.out hp (by omega),fun h e=>?_⟩
     ·rw[hcn];have:=qJ1 ⟨qB8 i0,qL8⟩ nw.cont;omega
     ·have h1:=HA.out h i0 (by omega);rw[←e,hcn] at h1;have h2:qH1=qL8:=congrArg KV.v (xM6 h1 rfl);exact absurd h2 (by decide)
    obtain⟨r5,hr5⟩:∃ r5,r5=nw.put ⟨qB8 i0,qL8⟩:=⟨_,rfl⟩;rw[←hr5] at hW5 HR5;have HW5:=zh hW5;have hs4:=HK4.out.size;have HK5:Hid (Kp [] w w5):=HK4.out.trans hK5 (by intro i hi hlt;simp at hi;omega);clear hF hW5 hK5 hcn ht5 hr5 HP HW4 HK4 HO HA hd hp;have HWR:Hid (Calls prog 30 #[.pointer (some ⟨A,0,none⟩)] w5 fun e w'=>e=.returned (.int .i64 wc)∧w'=w5):=by obtain⟨c,h⟩:=HW5.out.shop.hA;exact qX6 A 400 C _ c wc w5 h
    have HC:Hid (Calls prog 14 #[.pointer (some ⟨x,0,none⟩)] w5 fun e w'=>e=.returned .nilIface∧∃ s' l' wr' nt,Shop w' 200 db St A C 400 0 s' (emp.del (qA5 t5.nr)) l' wr' nt∧nt.cont=r5.cont∧(wr'=nx (nk (nx wc) r5.news)∨wr'=wc∧nw.cont=r5.cont)∧s'.N≤s.N+2∧s'.bg=s.bg+1∧s'.wr=(s.wrote.left t5.nr).wr∧s'.M=s.M∧Kp [St,x,s.M,A,C] w5 w'):=by
     have h1:=qM1 HW5.out.live.good;have h2:=qN5 HW5.out.live.good;have h3:=qN5 HW5.out.shop.good;have h4:=HR5.out.1;have h5:=HQ.out.2.2.2.2.2.1;refine (HW5.out.shop.commitsW HW5.out.live HW5.out.st HW5.out.wrt (by rw[HW5.out.nr];have:=HQ.out.2.1;omega) (by rw[HW5.out.nr];have:=HQ.out.2.1;omega) (by omega) (by show s.N≤_;have:=HQ.out.2.2.1;omega) (by show _+_+0*200+_+2≤400;omega)).mono ?_;rintro e w' ⟨c0,s',l',wr',nt,c1,c2,c3,c4,c5,c6,c7,c8,_,c9,_⟩;exact⟨c0,s',l',wr',nt,c1,c2,c3,c4,c5,c6,c8,c9⟩
    have HT5:=zh HW5.out.nr;clear HW5;go_wp2_with fail;refine (show Calls _ _ _ _ _ from HWR.out).mono ?_;rintro e w5' ⟨rfl,hw⟩;rw[hw];clear hw w5';go_wp2_with fail;refine (show Calls _ _ _ _ _ from HC.out).mono ?_;rintro e w6 ⟨rfl,s',l',wc',nt,hS6,e1,e2,e3,e4,e5,e6,hK6⟩;rw[qU7] at hS6;have hw6:s'.wr=0:=by rw[e5];show (if t5.nr=s.bg+1 then 0 else _)=(0:Int);rw[if_pos HT5.out]
    have hq:=HQ.out;have hr:=HR5.out;have hdf:0≤wc'∧wc'≤wc+14∧(j=0→¬wc'=wc):=by
     rcases e2 with e2|⟨e2,e2'⟩
     ·rw[e2,zH3 _ _ (by omega) (by omega)];exact⟨by omega,by omega,fun _=>by omega⟩
     ·exact⟨by omega,by omega,fun h=>absurd e2'.symm (hr.2.2 h)⟩
    have HWR6:Hid (Calls prog 30 #[.pointer (some ⟨A,0,none⟩)] w6 fun e w'=>e=.returned (.int .i64 wc')∧w'=w6):=by obtain⟨c,h⟩:=hS6.hA;exact qX6 A 400 C _ c wc' w6 h
    have HS6:=zh hS6;have HQ6:Hid (s'.wr=0∧s'.bg=1+((j+1:Nat):Int)∧s'.N≤10+2*((j+1:Nat):Int)∧0≤wc'∧wc'≤1000+20*((j+1:Nat):Int)∧nt.cont.length≤m+(j+1)∧s'.M=M):=⟨hw6,by omega,by omega,by omega,by omega,by rw[e1];omega,by rw[e6];exact hq.2.2.2.2.2.2⟩;have HK6:Hid (Kp [] w w6):=HK5.out.trans hK6 (by intro i hi hlt;have:=hq.2.2.2.2.2.2;simp at hi;omega);have hw1:wrap64 (wc'-wc)=wc'-wc:=by simp only[wrap64];omega
    have hgt:¬(14:Int)<wc'-wc:=by omega
    have hwd:∃ z,z=wc'-wc:=⟨_,rfl⟩;obtain⟨h6a,h6b,h6c⟩:=hdf;clear hS6 e1 e2 e3 e4 e5 e6 hK6 hw6 hq hr HC HWR HT5;by_cases hj0:j=0
    ·have hne:=h6c hj0;subst hj0;clear h6c;go_wp2_with fail;refine (show Calls _ _ _ _ _ from HWR6.out).mono ?_;rintro e w7 ⟨rfl,hw⟩;rw[hw];clear hw w7;go_wp2_with fail;refine (show Calls _ _ _ _ _ from HWR6.out).mono ?_;rintro e w7 ⟨rfl,hw⟩;rw[hw];clear hw w7;go_wp2
     ·rename_i h;exfalso;rcases h with h|h
      ·omega
      ·simp at h;exact hne h
     exact⟨⟨0+1,u,s',l',wc',nt,by omega,by go_num,rfl,hu0,hu1,HS6,HQ6,fun h=>by omega,HK6⟩,by simp[intOf]⟩
    ·have hjn:¬(j:Int)=0:=by omega
     clear h6c;go_wp2_with fail;refine (show Calls _ _ _ _ _ from HWR6.out).mono ?_;rintro e w7 ⟨rfl,hw⟩;rw[hw];clear hw w7;go_wp2;exact⟨⟨j+1,u,s',l',wc',nt,by omega,by go_num,rfl,hu0,hu1,HS6,HQ6,fun h=>by omega,HK6⟩,by simp[intOf];omega⟩
  ·have hjb:¬(j:Int)<10:=by omega
   go_wp2;go_ret;exact⟨rfl,HK.out⟩
end Go.Proofs.YtdohpenfkdckiabGreatDoor
namespace Go.Proofs.YtdohpenfkdckiabGreatDoor
open Go.Proofs.Tryz
open Go.ChangeShapes Go.WideShapes Go.RowKit Go.Deep
theorem zA6{n:Int}(h:(Lit.int .i64 n).wf=true):-9223372036854775808≤n∧n≤9223372036854775807:=by
 simp[Lit.wf,IntKind.min,IntKind.max,IntKind.bits,IntKind.signed] at h;omega
theorem zO3:laidOutB prog=true:=by kernel_rfl
theorem zX1:ownKnob prog.godebug=none:=by kernel_rfl
theorem zX2(os:Os)(H:Type)(enc:TypeId × Value→H):
  ∃ (w:World) (tape:Tape) (i:Input),w.os=os∧(w.forCall tape i).Shaped prog∧i.vars=[]∧Input.okWide prog (w.forCall tape i) .any w.heap.size 6 i∧
   ((Rows.cheapSpec.pre enc prog f6 [] false (w.forCall tape i).memory i.args∧laidMetH prog Rows.cheapRow.laid (w.forCall tape i).memory)∧sizedMet enc prog f6 (OpenSpec.ofChange Rows.cheapSpec) false (w.forCall tape i).memory i.args)∧({}:Assume).holds prog (lone (Frame.enter prog 6 i.args .normal) [] (w.forCall tape i)):=
 ChangeSpec.witness_at (enc:=enc) (C:=checked) (os:=os) (X:=fun w _=>laidMetH prog Rows.cheapRow.laid w) false (World.laidAll prog os (Rows.cheapRow.laid.filter fun x=>x.2.handleName?.isNone)) #[.int .i64 0,.int .i64 0] 8 rfl (by kernel_rfl) (by kernel_rfl) (by kernel_rfl) (by kernel_rfl) (by kernel_rfl) (laidMetH_of_parts (laidMet_of_run' 8 (by kernel_rfl) (by kernel_rfl)) (by kernel_rfl))
end Go.Proofs.YtdohpenfkdckiabGreatDoor
namespace Go.Proofs.YtdohpenfkdckiabGreatDoor
open Go.Proofs.Tryz
open Go Go.ChangeShapes Go.WideShapes Go.RowKit Go.Deep
theorem xG7(os:Os)(started:os.Started)(H:Type)(enc:TypeId × Value→H):
  ReturnsInHanded {} checked os 6 .any (fun w args=>(Rows.cheapSpec.pre enc prog f6 [] false w args∧laidMetH prog Rows.cheapRow.laid w)∧sizedMet enc prog f6 (OpenSpec.ofChange Rows.cheapSpec) false w args)
   (Rows.cheapSpec.post enc prog f6 false true false false):=by
 refine returnsInHanded_of_change_and (C:=checked) (X:=fun w _=>laidMetH prog Rows.cheapRow.laid w) (fun _ _ _ hh h=>h.of_heap hh) zX1 started (by kernel_rfl) func6 (zX2 os H enc) ?_;intro W base args ds gs before hval0 hW _ _ hL _;have hval:∀ (j:Nat) t v,f6.params[j]?=some t→args[j]?=some v→Value.okWide prog W .any base t v:=hval0;have hW':=hW;obtain⟨p,q,hA0,hV,rfl,_,_⟩:=hW;have hA:DataW.TrodAll enc prog W 0 (fun _=>true) true f6.params.toList args.toList ds p:=hA0;rw[params6] at hA hval;obtain⟨v0,v1,d0,d1,p0,p1,rfl,rfl,rfl,h0,h1⟩:=trodAll_two hA;obtain⟨rfl,rfl⟩:=trodVars_none hV;clear hA0 hval0;simp only[List.append_nil] at hW';obtain⟨a,rfl,rfl,rfl,wa⟩:=open_int underlying3 (hval 0 3 v0 rfl rfl) h0;obtain⟨b,rfl,rfl,rfl,wb⟩:=open_int underlying3 (hval 1 3 v1 rfl rfl) h1;have e1:Rows.cheapSpec.fn H ([.lit (.int .i64 a),.lit (.int .i64 b)]++[])={ results:=[.lit (.bool true)],args:=[.lit (.int .i64 a),.lit (.int .i64 b)] }:=by simp[Rows.cheapSpec]
 obtain⟨ha0,ha1⟩:=zA6 wa;obtain⟨hb0,hb1⟩:=zA6 wb;refine (xG8 a b ha0 ha1 hb0 hb1 W).mono fun e W' ⟨he,hK⟩=>?_;subst he;have hb:Below W.heap.size W W':=hK.below (Nat.le_refl _) (by simp);refine⟨_,rfl,_,_,_,[],[],[],hW',?_,?_,?_,hb.frame _,fun h=>by cases h⟩
 ·rw[e1];exact trodAll_mk1 (shut_bool underlying4 true)
 ·rw[e1];exact trodAll_mk2 (shut_int underlying3 wa) (shut_int underlying3 wb)
 ·rw[e1];rfl
end Go.Proofs.YtdohpenfkdckiabGreatDoor
