import Derived.Test.YtdohpenfkdckiabGreatDoorB14
import Derived.Test.YtdohpenfkdckiabGreatDoorF06
set_option linter.all false
set_option maxRecDepth 100000
set_option maxHeartbeats 20000000
namespace Go.Proofs.YtdohpenfkdckiabGreatDoor
open Go.Proofs.Tryz
open Go.RowKit
def Sto.cmt(s:Sto)(qb qs bl:Int):Sto:={ s with N:=s.N+1+1,rb:=qb,rs:=qs,bl:=bl }
def qC7:Root→List Nat→HL × List (Nat × List UInt8)
 | .none,_=>(⟨⟨#[]⟩,0,0,none⟩,[])
 | .at n L,fr=>(lhl (qA0 n L fr).1,(qA0 n L fr).2.1)
def qN0(s:Sto):HL:=⟨⟨#[]⟩,s.rb,s.rs,none⟩
def OkR:Root→Prop
 | .none=>True
 | .at n L=>OkL n L
theorem zI6{N:Nat}{rt:Root}{fr:List Nat}(ho:OkR rt)(hn:rt.news≤fr.length)(hf:∀ b∈fr,b<N):∀ x∈(qC7 rt fr).2,x.1<N∧x.2.length=128:=by
 cases rt with
 | none=>intro x hx;simp[qC7] at hx
 | «at» n L=>
  intro x hx;refine⟨hf x.1 ?_,zI9 n L fr ho x hx⟩;have h1:x.1∈((qA0 n L fr).2.1).map Prod.fst:=List.mem_map_of_mem hx;rw[zI8 n L fr hn] at h1;exact List.mem_of_mem_take h1
theorem jO3(V A N C:Nat)(l:List UInt8)(wn:Int)(E:Env)(hO:∀ (n b:Nat) (s:Int) (t:Tn n),E.O n b s t→b≤1000000∧0≤s)(hVA:V≠A)(hAC:C≠A)(hVC:V≠C)(hN:N≤1000)(hs:N*128≤l.length)(rt:Root)(h:HL)(fr:List Nat)(v:Value)(w:World)(hd:Devl V A N C l wn w)(hr:RR E w h rt)(ho:OkR rt)(hn:rt.news≤fr.length)(hf:∀ b∈fr,b<N)(hl:fr.length≤10000)(hv:Slc w 3 1 v fr.length (qG8 fr)):
  Calls prog 69 #[φ V h,v] w fun e w'=>e=.returned (.agg #[.int .i64 (qC7 rt fr).1.b,.int .u64 (qC7 rt fr).1.s])∧Devl V A N C (laidAll l (qC7 rt fr).2) (nk wn (qC7 rt fr).2.length) w'∧Kp [A,C] w w':=by
 cases rt with
 | none=>
  have hh:h=⟨⟨#[]⟩,0,0,none⟩:=hr;subst hh;exact jR0 V A N C l wn hVA hAC hVC hN hs fr v w hd hv
 | «at» n L=>
  exact jR1 V A N C l wn E.O hO hVA hAC hVC hN hs n h L fr v w hd hr ho hn hf hl hv (zI6 (rt:=.at n L) ho hn hf)
theorem jL0{w:World}{a b:Nat}{c d:Array Value}{fr gr:Nat × Nat}(ha:w.heap[a]?=some (.cells c 126 fr))(hb:w.heap[b]?=some (.cells d 87 gr)):a≠b:=fun e=>by
 subst e;rw[ha] at hb;simp at hb
theorem xT4(St A N C:Nat)(s:Sto)(h:HL)(rt nw:Root)(l:List UInt8)(wr:Int)(P:List HL→List Root→Prop)(w:World)(hN2:2≤N)(hN:N≤1000)(hl:N*128≤l.length)(hAC:C≠A)(hVA:s.V≠A)(hVC:s.V≠C)
  (hSt:w.heap[St]?=some (τ 1 s)) (hd:Devl s.V A N C l wr w) (hr:RR (EL s.V A N C l wr hN hl hAC hVA).toEnv w h rt) (hkt:∀ n l,rt=.at n l→l.key=⟨#[]⟩) (hg:RGood rt) (hsz:rt.cont.length≤1000000) (hok:OkR rt)
  (hnow:RR (EL s.V A N C l wr hN hl hAC hVA).toEnv w ⟨⟨#[]⟩,s.rb,s.rs,none⟩ nw) (hkn:∀ n l,nw=.at n l→l.key=⟨#[]⟩) (hN0:0≤s.N) (hN1:s.N≤999999999) (hb0:0≤s.rb) (hb1:s.rb≤1000) (hs0:0≤s.rs)
  (heq:∀ W:World,Sem.run prog (Op.equalIn 10000 83 (φ s.V h) (φ s.V ⟨⟨#[]⟩,s.rb,s.rs,none⟩)) W=.ok false W)
  (hread:∀ W,Kp [] w W→Calls prog 67 #[.pointer (some ⟨St,0,none⟩)] W fun e w'=>∃ v hs rs,e=.returned v∧w'.ownsRow W.heap.size 83 5 v hs.length (qK0 s.V hs)∧P hs rs∧Kp [] W w')
  (hP:∀ hs rs,P hs rs→hs.length=rs.length∧hs.length≤4∧(∀ i (h1:i<hs.length) (h2:i<rs.length),RR (EL s.V A N C l wr hN hl hAC hVA).toEnv w hs[i] rs[i]∧(∀ n l,rs[i]=.at n l→l.key=⟨#[]⟩))∧qB9 rt+meas qB9 (rs++[nw])<1000000∧rt.news≤(qC4 N ((rs++[nw]).foldl qA8 (qA8 [] rt))).length∧0≤(qC7 rt (qC4 N ((rs++[nw]).foldl qA8 (qA8 [] rt)))).1.b∧(qC7 rt (qC4 N ((rs++[nw]).foldl qA8 (qA8 [] rt)))).1.b≤1000∧0≤(qC7 rt (qC4 N ((rs++[nw]).foldl qA8 (qA8 [] rt)))).1.s)
  (i j:Nat) (hi:(s.N+1) % 2=i) (hj:(s.N+1+1) % 2=j):
  Calls prog 41 #[.pointer (some ⟨St,0,none⟩),φ s.V h] w fun e w'=>e=.returned (.tuple #[])∧∃ hs rs fr,P hs rs∧fr=qC4 N ((rs++[nw]).foldl qA8 (qA8 [] rt))∧
   w'.heap[St]?=some (τ 1 (s.cmt (qC7 rt fr).1.b (qC7 rt fr).1.s (((qA8 [] rt).length+rt.news:Nat):Int)))∧
   Devl s.V A N C (qC8 (laidAll (qC8 l i (qC0 (s.N+1) s.rb s.rs)) (qC7 rt fr).2) j (qC0 (s.N+1+1) (qC7 rt fr).1.b (qC7 rt fr).1.s)) (nx (nk (nx wr) (qC7 rt fr).2.length)) w'∧Kp [St,A,C] w w':=by
 have hSts:=ζ hSt;have HS:=zh hSt;have HD:=zh hd;have HR:=zh hr;have HNOW:=zh hnow;have HREAD:=zh hread;have HIJ:Hid ((s.N+1) % 2=(i:Int)∧(s.N+1+1) % 2=(j:Int)):=⟨hi,hj⟩;have HP:=zh hP;clear hSt hd hr hnow hread hi hj hP;rw[φ,show φ s.V ⟨⟨#[]⟩,s.rb,s.rs,none⟩=.agg #[.pointer (some ⟨s.V,0,none⟩),.string ⟨#[]⟩,.int .i64 s.rb,.int .u64 s.rs,.pointer none] from rfl] at heq;rw[φ];go_enter func41,ntmps41;go_wp2_with fail;obtain⟨w0,hw0,hT0,hK0,hs0'⟩:=qE8 w (.cells #[.pointer (some ⟨s.V,0,none⟩),.string h.key,.int .i64 h.b,.int .u64 h.s,.pointer h.ptr] 83);rw[←hw0];clear hw0;refine (qY2 St 1 s w0 (hK0.hp HS.out)).mono ?_;rintro e w1 ⟨rfl,hK1⟩;rw[show φ s.V ⟨⟨#[]⟩,s.rb,s.rs,none⟩=.agg #[.pointer (some ⟨s.V,0,none⟩),.string ⟨#[]⟩,.int .i64 s.rb,.int .u64 s.rs,.pointer none] from rfl];have hT1:=hK1.hp hT0;have hT1s:=ζ hT1;have t:=ξ hT1;go_wp2_with fail;rename_i K0 hK0';obtain⟨w2,hw2,hN2',hK2,hs2⟩:=qE8 w1 (.cells #[.pointer (some ⟨s.V,0,none⟩),.string ⟨#[]⟩,.int .i64 s.rb,.int .u64 s.rs,.pointer none] 83);rw[←hw2];clear hw2 t;have hAs:A<w.heap.size:=by obtain⟨c,h⟩:=HD.out.hA;exact ζ h
 have hCs:=ζ HD.out.hC;have hVs:=ζ HD.out.hV;have hKd:Kp [] w w2.drew:=((hK0.tr hK1).tr hK2).drew;have hs1:=hK1.size;obtain⟨Nn,hNn⟩:∃ Nn,Nn=w1.heap.size:=⟨_,rfl⟩;rw[←hNn] at hN2' hs2 ⊢;have hSd:w2.drew.heap[w.heap.size]?=some (.cells #[.pointer (some ⟨s.V,0,none⟩),.string h.key,.int .i64 h.b,.int .u64 h.s,.pointer h.ptr] 83)∧w2.drew.heap[Nn]?=some (.cells #[.pointer (some ⟨s.V,0,none⟩),.string ⟨#[]⟩,.int .i64 s.rb,.int .u64 s.rs,.pointer none] 83):=⟨hK2.hp hT1,hN2'⟩;have hTN:w.heap.size<Nn:=by omega
 clear hN2' hT1 hT0 hK0 hK1 hK2 hT1s heq hNn;obtain⟨szv,hszv⟩:∃ szv:Int,szv=(((qA8 [] rt).length+rt.news:Nat):Int):=⟨_,rfl⟩;have HSZ:=zh hszv;clear hszv;refine qZ5 (α:=Value→Nat→Nat→Nat→Nat→Value→Act) (R:=fun A0=>∀ v n d g c vf hs rs W,Hid (P hs rs∧Slc W 3 1 vf (qC4 N ((rs++[nw]).foldl qA8 (qA8 [] rt))).length (qG8 (qC4 N ((rs++[nw]).foldl qA8 (qA8 [] rt))))∧Devl s.V A N C l wr W∧Kp [A] w W∧W.heap[w.heap.size]?=some (.cells #[.pointer (some ⟨s.V,0,none⟩),.string h.key,.int .i64 h.b,.int .u64 h.s,.pointer h.ptr] 83))→K0 (A0 v n d g c vf) W) ?_;apply Exists.intro;apply And.intro
 rotate_left
 ·intro HREST;refine wp_region_held_drew (S:=fun W=>W.heap[w.heap.size]?=some (.cells #[.pointer (some ⟨s.V,0,none⟩),.string h.key,.int .i64 h.b,.int .u64 h.s,.pointer h.ptr] 83)∧W.heap[Nn]?=some (.cells #[.pointer (some ⟨s.V,0,none⟩),.string ⟨#[]⟩,.int .i64 s.rb,.int .u64 s.rs,.pointer none] 83)) (by kernel_rfl) hSd (fun _=>?_);refine zV 0 (.agg #[.pointer (some ⟨s.V,0,none⟩),.string h.key,.int .i64 h.b,.int .u64 h.s,.pointer h.ptr]) rfl (fun W hS=>by have a:=ξ hS.1;clear hS;go_simp) hSd ?_;refine zP 1 St 0 hSd ?_;refine zV 3 (.agg #[.pointer (some ⟨s.V,0,none⟩),.string ⟨#[]⟩,.int .i64 s.rb,.int .u64 s.rs,.pointer none]) rfl (fun W hS=>by have a:=ξ hS.2;clear hS;go_simp) hSd ?_;refine zr 2 4 (fun K hK=>?_) fun K hK=>?_
  ·skip
   go_simp;refine (show Calls _ _ _ _ _ from HREAD.out w2.drew hKd).mono ?_;rintro e w3 ⟨v,hs,rs,rfl,hown,hPr,hKr⟩;have hSr:=And.intro (hKr.hp hSd.1) (hKr.hp hSd.2);refine hK.out _ _ hSr (fun _=>?_);clear hK K
   try simp only[zZ]
   have how3:=qI7 hown (show Nn+1≤w2.drew.heap.size by show _≤w2.heap.size;omega);have hKw3:Kp [] w w3:=hKd.tr hKr;refine zq 4 fun K hK=>?_;go_simp;obtain⟨w4,hwb,hBb,hKb,hsb⟩:=qE8 w3 (.cells #[.pointer (some ⟨s.V,0,none⟩),.string ⟨#[]⟩,.int .i64 s.rb,.int .u64 s.rs,.pointer none] 83);rw[←hwb];clear hwb;obtain⟨d,hd⟩:∃ d,d=(w3).heap.size:=⟨_,rfl⟩
   try rw[←hd] at hBb ⊢
   clear hd;have hSb:=And.intro (hKb.hp hSr.1) (hKb.hp hSr.2);refine hK.out _ _ hSb (fun _=>?_);clear hK K
   try simp only[zZ]
   have hown4:=qF8 how3 hKb (Apt.nil _ _);have hKw4:Kp [] w w4:=hKw3.tr hKb;refine zq 5 fun K hK=>?_;obtain⟨hl1,hl2,hl3,hl4,hl5,_⟩:=HP.out hs rs hPr;obtain⟨n,hn⟩:∃ n,n=hs.length:=⟨_,rfl⟩;rw[←hn] at hown4;refine qM4 rfl rfl (.agg #[.pointer none,.string ⟨#[]⟩,.int .i64 0,.int .u64 0,.pointer none]) 5 48 underlying112 zI0 rfl (by decide) (Nn+1) v n _ (by simp[Act.eval]) hown4 d 0 1 1 #[.pointer (some ⟨s.V,0,none⟩),.string ⟨#[]⟩,.int .i64 s.rb,.int .u64 s.rs,.pointer none] 83 (0,0) (by simp[Act.eval]) hBb (by simp) (by simp[qA2,Value.oneCell']) (by omega) (by omega) (by have:=hKw4.size;have:=ζ hSb.2;omega) ?_;intro v5 w5 hown5 hgr5 _;obtain⟨g,c,rfl⟩:=qJ2 (n:=n) hown5;have hKg:Kp v.ownBlock.toList w4 w5:=(Kp.refl _ _).grown hgr5 (fun k hk=>Or.inl (by simp[hk]));have hlo:∀ k,k<Nn+1→k ∉ v.ownBlock.toList:=fun k hk hm=>by
    have h1:=qQ8 hown4 k (by simpa using hm);omega
   have hS5:=And.intro (hKg.heap hSb.1 (hlo _ (by omega))) (hKg.heap hSb.2 (hlo _ (by omega)));refine hK.out _ _ hS5 (fun _=>?_);clear hK K
   try simp only[zZ]
   have hKw5:Kp [] w w5:=hKw4.trans hKg (fun k hk hlt=>absurd hk (hlo k (by omega)));have hd5:Devl s.V A N C l wr w5:=(Env.To.of0 (E:=(EL s.V A N C l wr hN hl hAC hVA).toEnv) HD.out hKw5).dev;have hsl5:Slc w5 83 5 (.slice (some ⟨g,0,none⟩) (hs++[qN0 s]).length c) (hs++[qN0 s]).length (qK0 s.V (hs++[qN0 s])):=by
    have h:=qG3 hown5;rw[List.length_append,←hn,zM1];exact h
   refine zq 6 fun K hK=>?_;have HROOM:Hid (Calls prog 66 #[φ s.V h,.slice (some ⟨g,0,none⟩) (n+1) c] w5 fun e w'=>∃ vf,e=.returned (.tuple #[vf,.int .i64 szv])∧Slc w' 3 1 vf (qC4 N ((rs++[nw]).foldl qA8 (qA8 [] rt))).length (qG8 (qC4 N ((rs++[nw]).foldl qA8 (qA8 [] rt))))∧Devl s.V A N C l wr w'∧Kp [A] w5 w'):=by
    have h:=xF2 (EL s.V A N C l wr hN hl hAC hVA) (fun n b s t h=>by have:=Laid.at h;omega) A N h rt (.slice (some ⟨g,0,none⟩) (hs++[qN0 s]).length c) (hs++[qN0 s]) (rs++[nw]) w5 hd5 hsl5 (by simp[hl1]) (fun i h1 h2=>by
     by_cases hi:i<hs.length
     ·rw[List.getElem_append_left hi,List.getElem_append_left (by omega)];exact⟨RR.kp (hl3 i hi (by omega)).1 hKw5 (Apt.nil _ _),(hl3 i hi (by omega)).2⟩
     ·have e:i=hs.length:=by simp at h1;omega
      subst e;rw[List.getElem_append_right (by omega),List.getElem_append_right (by omega)];simp only[hl1,Nat.sub_self,zF];exact⟨RR.kp (h:=qN0 s) HNOW.out hKw5 (Apt.nil _ _),hkn⟩) (RR.kp HR.out hKw5 (Apt.nil _ _)) hkt hl4 (by simp;omega) (fun W hW=>hW.hV) hN2 hN (fun W hW hr=>qR1 _ rt h W hr hg hsz) (by have:=zB8 N ((rs++[nw]).foldl qA8 (qA8 [] rt));omega) hl5
    rw[List.length_append,←hn,←HSZ.out] at h;exact h
   clear hn hl1 hl2 hl3 hl4 hl5;rw[φ] at HROOM;go_simp;refine (show Calls _ _ _ _ _ from HROOM.out).mono ?_;rintro e w6 ⟨vf,rfl,hsf,hd6,hK6⟩;have hS6:=And.intro (hK6.ho hS5.1) (hK6.ho hS5.2);refine hK.out _ _ hS6 (fun _=>?_);clear hK K HROOM
   try simp only[zZ]
   refine zU 7 (.tuple #[vf,.int .i64 szv]) hS6 ?_;refine zU 8 vf hS6 ?_;refine zU 9 (.int .i64 szv) hS6 ?_;refine zU 10 vf hS6 ?_;refine zU 11 (.int .i64 szv) hS6 ?_;refine zd ?_;show K0 _ w6;exact HREST v n d g c vf hs rs w6 (Hid.mk' ⟨hPr,hsf,hd6,(hKw5.mono (by simp)).tr hK6,hS6.1⟩)
  ·skip
   go_simp;obtain⟨w3,hwb,hBb,hKb,hsb⟩:∃ w3,w3=(w2.alloc (.cells #[.pointer (some ⟨s.V,0,none⟩),.string ⟨#[]⟩,.int .i64 s.rb,.int .u64 s.rs,.pointer none] 83)).drew∧w3.heap[Nn+1]?=some (.cells #[.pointer (some ⟨s.V,0,none⟩),.string ⟨#[]⟩,.int .i64 s.rb,.int .u64 s.rs,.pointer none] 83)∧Kp [] w2.drew w3∧w3.heap.size=w2.heap.size+1:=⟨_,rfl,by rw[←hs2];exact μ w2 _,(by exact (Kp.refl [] w2.drew).alloc _),by simp⟩;rw[←hwb];clear hwb;obtain⟨d,hd⟩:∃ d,d=Nn+1:=⟨_,rfl⟩;rw[←hd] at hBb ⊢;clear hd;have hSb:=And.intro (hKb.hp hSd.1) (hKb.hp hSd.2);refine hK.out _ _ hSb (fun _=>?_);clear hK K
   try simp only[zZ]
   have hKw3:Kp [] w w3:=hKd.tr hKb;refine zq 2 fun K hK=>?_;have hS3:=hSb;have hB3:=hBb;clear hSb hBb;go_simp;refine (show Calls _ _ _ _ _ from HREAD.out w3 hKw3).mono ?_;rintro e w4 ⟨v,hs,rs,rfl,hown,hPr,hKr⟩;have hSr:=And.intro (hKr.hp hS3.1) (hKr.hp hS3.2);refine hK.out _ _ hSr (fun _=>?_);clear hK K
   try simp only[zZ]
   have hSb:=hSr;have hBb:=hKr.hp hB3;have hown4:=qI7 hown (show Nn+1≤w3.heap.size by have:=hKb.size;have e:w2.drew.heap.size=w2.heap.size:=rfl;omega);have hKw4:Kp [] w w4:=hKw3.tr hKr;refine zq 5 fun K hK=>?_;obtain⟨hl1,hl2,hl3,hl4,hl5,_⟩:=HP.out hs rs hPr;obtain⟨n,hn⟩:∃ n,n=hs.length:=⟨_,rfl⟩;rw[←hn] at hown4;refine qM4 rfl rfl (.agg #[.pointer none,.string ⟨#[]⟩,.int .i64 0,.int .u64 0,.pointer none]) 5 48 underlying112 zI0 rfl (by decide) (Nn+1) v n _ (by simp[Act.eval]) hown4 d 0 1 1 #[.pointer (some ⟨s.V,0,none⟩),.string ⟨#[]⟩,.int .i64 s.rb,.int .u64 s.rs,.pointer none] 83 (0,0) (by simp[Act.eval]) hBb (by simp) (by simp[qA2,Value.oneCell']) (by omega) (by omega) (by have:=hKw4.size;have:=ζ hSb.2;omega) ?_;intro v5 w5 hown5 hgr5 _;obtain⟨g,c,rfl⟩:=qJ2 (n:=n) hown5;have hKg:Kp v.ownBlock.toList w4 w5:=(Kp.refl _ _).grown hgr5 (fun k hk=>Or.inl (by simp[hk]));have hlo:∀ k,k<Nn+1→k ∉ v.ownBlock.toList:=fun k hk hm=>by
    have h1:=qQ8 hown4 k (by simpa using hm);omega
   have hS5:=And.intro (hKg.heap hSb.1 (hlo _ (by omega))) (hKg.heap hSb.2 (hlo _ (by omega)));refine hK.out _ _ hS5 (fun _=>?_);clear hK K
   try simp only[zZ]
   have hKw5:Kp [] w w5:=hKw4.trans hKg (fun k hk hlt=>absurd hk (hlo k (by omega)));have hd5:Devl s.V A N C l wr w5:=(Env.To.of0 (E:=(EL s.V A N C l wr hN hl hAC hVA).toEnv) HD.out hKw5).dev;have hsl5:Slc w5 83 5 (.slice (some ⟨g,0,none⟩) (hs++[qN0 s]).length c) (hs++[qN0 s]).length (qK0 s.V (hs++[qN0 s])):=by
    have h:=qG3 hown5;rw[List.length_append,←hn,zM1];exact h
   refine zq 6 fun K hK=>?_;have HROOM:Hid (Calls prog 66 #[φ s.V h,.slice (some ⟨g,0,none⟩) (n+1) c] w5 fun e w'=>∃ vf,e=.returned (.tuple #[vf,.int .i64 szv])∧Slc w' 3 1 vf (qC4 N ((rs++[nw]).foldl qA8 (qA8 [] rt))).length (qG8 (qC4 N ((rs++[nw]).foldl qA8 (qA8 [] rt))))∧Devl s.V A N C l wr w'∧Kp [A] w5 w'):=by
    have h:=xF2 (EL s.V A N C l wr hN hl hAC hVA) (fun n b s t h=>by have:=Laid.at h;omega) A N h rt (.slice (some ⟨g,0,none⟩) (hs++[qN0 s]).length c) (hs++[qN0 s]) (rs++[nw]) w5 hd5 hsl5 (by simp[hl1]) (fun i h1 h2=>by
     by_cases hi:i<hs.length
     ·rw[List.getElem_append_left hi,List.getElem_append_left (by omega)];exact⟨RR.kp (hl3 i hi (by omega)).1 hKw5 (Apt.nil _ _),(hl3 i hi (by omega)).2⟩
     ·have e:i=hs.length:=by simp at h1;omega
      subst e;rw[List.getElem_append_right (by omega),List.getElem_append_right (by omega)];simp only[hl1,Nat.sub_self,zF];exact⟨RR.kp (h:=qN0 s) HNOW.out hKw5 (Apt.nil _ _),hkn⟩) (RR.kp HR.out hKw5 (Apt.nil _ _)) hkt hl4 (by simp;omega) (fun W hW=>hW.hV) hN2 hN (fun W hW hr=>qR1 _ rt h W hr hg hsz) (by have:=zB8 N ((rs++[nw]).foldl qA8 (qA8 [] rt));omega) hl5
    rw[List.length_append,←hn,←HSZ.out] at h;exact h
   clear hn hl1 hl2 hl3 hl4 hl5;rw[φ] at HROOM;go_simp;refine (show Calls _ _ _ _ _ from HROOM.out).mono ?_;rintro e w6 ⟨vf,rfl,hsf,hd6,hK6⟩;have hS6:=And.intro (hK6.ho hS5.1) (hK6.ho hS5.2);refine hK.out _ _ hS6 (fun _=>?_);clear hK K HROOM
   try simp only[zZ]
   refine zU 7 (.tuple #[vf,.int .i64 szv]) hS6 ?_;refine zU 8 vf hS6 ?_;refine zU 9 (.int .i64 szv) hS6 ?_;refine zU 10 vf hS6 ?_;refine zU 11 (.int .i64 szv) hS6 ?_;refine zd ?_;show K0 _ w6;exact HREST v n d g c vf hs rs w6 (Hid.mk' ⟨hPr,hsf,hd6,(hKw5.mono (by simp)).tr hK6,hS6.1⟩)
 rintro v n d g c vf hs rs W HFR;refine hK0' _ _ ?_;clear hK0' K0 hSd hKd;obtain⟨hPr,hsf,hdW,hKW,hTW⟩:=HFR.out;obtain⟨_,_,_,_,q1,q2,q3,q4⟩:=HP.out hs rs hPr;obtain⟨fr,hfr⟩:∃ fr,fr=qC4 N ((rs++[nw]).foldl qA8 (qA8 [] rt)):=⟨_,rfl⟩;have hfo:=zH4 (N:=N) (ks:=(rs++[nw]).foldl qA8 (qA8 [] rt));have hfl:=zB8 N ((rs++[nw]).foldl qA8 (qA8 [] rt));rw[←hfr] at hsf q1 q2 q3 q4 hfo hfl;obtain⟨X,ws,hX⟩:∃ X ws,(X,ws)=qC7 rt fr:=⟨_,_,rfl⟩;rw[←hX] at q2 q3 q4;simp only at q2 q3 q4;have hAne:∀ k o,w.heap[k]?=some o→(∀ c,o≠χ (l.length / 128) N C (.slice none 0 0) c wr)→k≠A:=fun k o hk ho e=>by
  obtain⟨c,h⟩:=HD.out.hA;subst e;rw[h] at hk;cases hk;exact ho c rfl
 have hStA:St≠A:=hAne St _ HS.out (fun c e=>by simp[τ,χ] at e);have hStC:St≠C:=jL0 HS.out HD.out.hC;have hSW:=hKW.heap HS.out (by simpa using hStA);have hsW:=hKW.size;have hTW':=hTW;have HFX:Hid (P hs rs∧fr=qC4 N ((rs++[nw]).foldl qA8 (qA8 [] rt))∧(X,ws)=qC7 rt fr):=⟨hPr,hfr,hX⟩;have HSF:=zh hsf;have hSWs:=ζ hSW;have HSW:=zh hSW;have y4:=ξ hSW 4;have y5:=ξ hSW 5;simp only[τ,zG,zH,zI] at y4 y5;have HTW:=zh hTW;clear hPr hsf hTW hTW' hfr hX hSW hAne HFR;go_wp2_with fail;refine (zX7 St A N C s s.rb s.rs l wr W HSW.out hdW hN hN2 hl hAC hVA hVC hN0 (by omega) hb0 hb1 hs0 i HIJ.out.1).mono ?_;rintro e w7 ⟨rfl,hS7,hd7,hK7⟩;have hT7:=hK7.ho HTW.out;have hT7s:=ζ hT7;have t:=ξ hT7;have hsl7:=HSF.out.keep hK7 (fun k hk c ty fr e hm=>by
  rw[List.mem_singleton.1 hm] at e;simp only[List.mem_cons,List.not_mem_nil,or_false] at hk;rcases hk with rfl|rfl|rfl
  ·rw[HSW.out] at e;simp[τ] at e
  ·obtain⟨c',h'⟩:=hdW.hA;rw[h'] at e;simp[χ] at e
  ·rw[hdW.hC] at e;simp at e)
 have hap7:Apt W [St,A,C] qF9:=(Apt.one HSW.out (by decide)).cons ((by obtain⟨c',h'⟩:=hdW.hA;exact Apt.one h' (by decide):Apt W [A] qF9).cons (Apt.one hdW.hC (by decide)));have hr7:=RR.kp (RR.kp HR.out hKW ((EL s.V A N C l wr hN hl hAC hVA).apt w HD.out)) hK7 hap7;have HS7:=zh hS7;have HK7:Hid (Kp [St,A,C] w w7):=(hKW.mono (by simp)).tr hK7;have hlen1:N*128≤(qC8 l i (qC0 (s.N+1) s.rb s.rs)).length:=qV4 l _ i N (qL3 _ _ _) hl (by have:=HIJ.out.1;omega);have HLAY:Hid (Calls prog 69 #[φ s.V h,vf] w7 fun e w'=>e=.returned (.agg #[.int .i64 X.b,.int .u64 X.s])∧Devl s.V A N C (laidAll (qC8 l i (qC0 (s.N+1) s.rb s.rs)) ws) (nk (nx wr) ws.length) w'∧Kp [A,C] w7 w'):=by
  have h:=jO3 s.V A N C (qC8 l i (qC0 (s.N+1) s.rb s.rs)) (nx wr) (EL s.V A N C l wr hN hl hAC hVA).toEnv (fun n b s t h=>by have:=Laid.at h;omega) hVA hAC hVC hN hlen1 rt h fr vf w7 hd7 hr7 hok q1 (fun b hb=>(hfo b hb).2.1) (by omega) hsl7;rw[←HFX.out.2.2] at h;exact h
 clear hS7 hd7 hK7 hsl7 hr7 hdW hKW hap7 y4 y5;rw[φ] at HLAY;go_wp2_with fail;refine (show Calls _ _ _ _ _ from HLAY.out).mono ?_;rintro e w8 ⟨rfl,hd8,hK8⟩;have hS8:=hK8.heap HS7.out (by simp[hStA,hStC]);have hlen2:N*128≤(laidAll (qC8 l i (qC0 (s.N+1) s.rb s.rs)) ws).length:=zI2 N ws _ hlen1 (by
  have h:=zI6 (N:=N) hok q1 (fun b hb=>(hfo b hb).2.1);rw[←HFX.out.2.2] at h;exact h)
 clear t hT7 HLAY;go_wp2_with fail;refine (zX7 St A N C (s.led s.rb s.rs) X.b X.s _ _ w8 hS8 hd8 hN hN2 hlen2 hAC hVA hVC (by show 0≤s.N+1;omega) (by show s.N+1≤1000000000;omega) q2 q3 q4 j HIJ.out.2).mono ?_;rintro e w9 ⟨rfl,hS9,hd9,hK9⟩;have HE:Hid (w9.heap[St]?=some (τ 1 ((s.led s.rb s.rs).led X.b X.s))∧Devl s.V A N C (qC8 (laidAll (qC8 l i (qC0 (s.N+1) s.rb s.rs)) ws) j (qC0 (s.N+1+1) X.b X.s)) (nx (nk (nx wr) ws.length)) w9∧Kp [St,A,C] w w9):=⟨hS9,hd9,(HK7.out.trans hK8 (by simp +contextual)).tr hK9⟩;have hS9s:=ζ hS9;have y6:=ξ hS9 6;simp only[τ,Sto.led,zG,zH,zI] at y6;have fy6:=ρ hS9 6;clear hS9 hd9 hK9 hS8 hd8 hK8 hlen1 hlen2;go_wp2
 go_end0
 obtain⟨e1,e2,e3⟩:=HE.out;refine⟨rfl,hs,rs,fr,HFX.out.1,HFX.out.2.1,?_,?_,e3.trans ((Kp.refl [St] w9).sc _) (by simp)⟩
 ·rw[←HFX.out.2.2,←HSZ.out];exact ω e1 6 _
 ·rw[←HFX.out.2.2];have hKs:Kp [St] w9 (w9.setCell ⟨St,6,none⟩ (.int .i64 szv)):=(Kp.refl _ _).sc _;obtain⟨c9,h9⟩:=e2.hA;have hVSt:s.V≠St:=fun e=>by have h:=e2.hV;rw[e,e1] at h;simp[τ,qB8] at h
  exact⟨hKs.heap e2.hV (by simpa using hVSt),⟨_,hKs.heap h9 (by simpa using hStA.symm)⟩,hKs.heap e2.hC (by simpa using hStC.symm)⟩
theorem zZ0{α:Type}(f:α→Nat)(c:Nat):∀ (l:List α),(∀ x∈l,c≤f x)→c*l.length≤meas f l
 | [],_=>by simp[meas]
 | x::l,h=>by
  have h1:=h x (by simp);have h2:=zZ0 f c l fun y hy=>h y (by simp[hy]);rw[qE0,List.length_cons,Nat.mul_succ];omega
theorem xX0{α β:Type}(f:α→List β)(l:List α):(l.flatMap f).length=meas (fun x=>(f x).length) l:=by simp[meas,List.length_flatMap]
theorem zN1:∀ (n:Nat) (lo:ByteArray) (t:Tn n),Good n lo t→cnt n t*3 ^ n≤(cont n t).length
 | 0,lo,t,h=>by simp[cnt,cont]
 | n+1,lo,t,h=>by
  have h1:∀ x∈η t,3 ^ (n+1)≤(cont n x.sub).length:=fun x hx=>by
   have h2:=zN1 n x.key x.sub (h.all x hx).1;have h3:=(h.all x hx).2.1;have h4:3*3 ^ n≤cnt n x.sub*3 ^ n:=Nat.mul_le_mul_right _ h3;rw[Nat.pow_succ];omega
  have h5:=zZ0 (fun x:Lnk (Tn n)=>(cont n x.sub).length) (3 ^ (n+1)) (η t) h1;have h6:(cont (n+1) t).length=meas (fun x:Lnk (Tn n)=>(cont n x.sub).length) (η t):=xX0 (fun x:Lnk (Tn n)=>cont n x.sub) (η t);have h7:cnt (n+1) t=(η t).length:=rfl;rw[h6,h7,Nat.mul_comm];exact h5
theorem xF3{n:Nat}{l:Lnk (Tn n)}(h:RGood (.at n l))(hc:(cont n l.sub).length≤1400):n<6:=by
 obtain⟨_,h2,h3⟩:=h;have h1:=zN1 n _ _ h2;rcases Nat.lt_or_ge n 6 with hn|hn
 ·exact hn
 ·have h4:2≤cnt n l.sub:=by
    have:min n 1=1:=by omega
    omega
  have h5:3 ^ 6≤3 ^ n:=Nat.pow_le_pow_right (by omega) hn;have h6:2*3 ^ n≤cnt n l.sub*3 ^ n:=Nat.mul_le_mul_right _ h4;simp at h5;omega
theorem zU9:∀ (n:Nat) (L:Lnk (Tn n)),Good n L.key L.sub→L.key.size≤8→n<256→OkL n L
 | 0,L,h,hk,hn=>⟨hk,fun _=>by
   have h1:meas ν (prs L.sub)≤126:=h.fits;have h2:=qG9 ν (prs L.sub) fun x _=>by unfold ν;omega
   exact⟨fun p hp=>(h.all p hp).1,by omega,by omega⟩⟩
 | n+1,L,h,hk,hn=>⟨hk,fun _=>by
   have h1:meas qA3 (η L.sub)≤126:=h.fits;have h2:=qG9 qA3 (η L.sub) fun x _=>by unfold qA3;omega
   exact⟨hn,fun m hm=>zU9 n m (h.all m hm).1 (h.all m hm).2.2 (by omega),by omega,by omega⟩⟩
theorem zL2{r:Root}(h:RGood r)(hc:r.cont.length≤1400):OkR r:=by
 cases r with
 | none=>trivial
 | «at» n L=>
  have hn:=xF3 h hc;exact zU9 n L h.2.1 (by rw[h.1];decide) (by omega)
theorem xF1{N:Nat}{l:List UInt8}{w:World}:∀ (n:Nat) (h:HL) (L:Lnk (Tn n)),RL (Laid N l) n w h L→qL2 N l n L
 | 0,h,L,hr=>fun x hx=>by
  have h2:=hr.2;rw[hx] at h2;exact h2.2.2.2
 | n+1,h,L,hr=>by
  refine⟨fun x hx=>?_,fun hn m hm=>?_⟩
  ·have h2:=hr.2;rw[hx] at h2;exact h2.2.2.2
  ·have h2:=hr.2;rw[hn] at h2;obtain⟨_,_,q,_,vl,_,hs,_,hb⟩:=h2;obtain⟨i,hi,rfl⟩:=List.getElem_of_mem hm;exact xF1 n (hs[i]'(by rw[hb.1];exact hi)) _ (hb.2 i (by rw[hb.1];exact hi) hi)
theorem jO6{V A N C:Nat}{l:List UInt8}{wr:Int}{hN:N≤1000}{hs:N*128≤l.length}{hAC:C≠A}{hVA:V≠A}{w:World}{h:HL}{r:Root}(hr:RR (EL V A N C l wr hN hs hAC hVA).toEnv w h r):qP3 N l r:=by
 cases r with
 | none=>trivial
 | «at» n L=>exact xF1 n h L hr
theorem zI5{X:Type}(f:Lnk X→List Nat→Lnk X × List (Nat × List UInt8) × List Nat)(R:Lnk X→Lnk X→Prop):∀ (ls:List (Lnk X)) (fr:List Nat),(∀ l∈ls,∀ fr,R l (f l fr).1)→Both R ls (qB3 f ls fr).1
 | [],fr,_=>⟨rfl,fun i h=>by simp at h⟩
 | l::ls,fr,h=>by
  obtain⟨h1,h2⟩:=zI5 f R ls (f l fr).2.2 fun x hx=>h x (by simp[hx]);refine⟨by simp[qB3,h1],fun i hi hi'=>?_⟩
  cases i with
  | zero=>exact h l (by simp) fr
  | succ i=>exact h2 i (by simpa using hi) (by simpa [qB3] using hi')
theorem zJ0:∀ (n:Nat) (L:Lnk (Tn n)) (fr:List Nat),(qA0 n L fr).1.key=L.key
 | 0,L,fr=>by unfold qA0;split<;>rfl
 | n+1,L,fr=>by unfold qA0;split<;>rfl
theorem zX0:∀ (n:Nat) (L:Lnk (Tn n)) (fr:List Nat),cnt n (qA0 n L fr).1.sub=cnt n L.sub
 | 0,L,fr=>by unfold qA0;split<;>rfl
 | n+1,L,fr=>by
  unfold qA0;split
  ·rfl
  ·exact (zI5 (qA0 n) (fun _ _=>True) (η L.sub) fr fun _ _ _=>trivial).1.symm
theorem zQ6{α:Type}(f:α→Nat):∀ (a b:List α),Both (fun x y=>f x=f y) a b→meas f b=meas f a
 | [],[],_=>rfl
 | [],_::_,h=>by have:=h.1;simp at this
 | _::_,[],h=>by have:=h.1;simp at this
 | x::a,y::b,h=>by
  have h0:=h.2 0 (by simp) (by simp);simp only[zF] at h0;have h1:=zQ6 f a b ⟨by simpa using h.1,fun i hi hi'=>by have h3:=h.2 (i+1) (by simp;exact hi) (by simp;exact hi');simp only[zE] at h3;exact h3⟩;rw[qE0,qE0,h0,h1]
theorem zX1:∀ (n:Nat) (L:Lnk (Tn n)) (fr:List Nat) (lo:ByteArray),Good n lo L.sub→Good n lo (qA0 n L fr).1.sub
 | 0,L,fr,lo,h=>by unfold qA0;split<;>exact h
 | n+1,L,fr,lo,h=>by
  unfold qA0;split
  ·exact h
  ·have hB:=zI5 (qA0 n) (fun a b=>b.key=a.key∧cnt n b.sub=cnt n a.sub∧cont n b.sub=cont n a.sub∧(Good n a.key a.sub→Good n a.key b.sub)) (η L.sub) fr fun l hl fr=>⟨zJ0 n l fr,zX0 n l fr,zI7 n l fr,zX1 n l fr l.key⟩;have hlen:=hB.1;refine⟨?_,?_,?_,?_⟩
   ·intro l hl;have hl':(qB3 (qA0 n) (η L.sub) fr).1.head?=some l:=hl
    cases hx:(qB3 (qA0 n) (η L.sub) fr).1 with
    | nil=>rw[hx] at hl';cases hl'
    | cons y ys=>
     rw[hx] at hl' hB hlen;cases hl'
     cases hz:η L.sub with
     | nil=>rw[hz] at hlen;simp at hlen
     | cons z zs=>
      have h0:=hB.2 0 (by rw[hz];simp) (by simp);simp only[zF] at h0;rw[h0.1];have:=h.head z (by show (η L.sub).head?=some z;rw[hz];rfl);simp only[hz,zF];exact this
   ·intro l hl;obtain⟨i,hi,rfl⟩:=List.getElem_of_mem hl;have hi2:i<(η L.sub).length:=by rw[hlen];exact hi
    obtain⟨e1,e2,e3,e4⟩:=hB.2 i hi2 hi;have:=h.all _ (List.getElem_mem hi2);refine⟨?_,?_,?_⟩
    ·rw[e1];exact e4 this.1
    ·rw[e2];exact this.2.1
    ·rw[e1];exact this.2.2
   ·rw[List.pairwise_iff_getElem];intro i j hi hj hij;have hi2:i<(η L.sub).length:=by rw[hlen];exact hi
    have hj2:j<(η L.sub).length:=by rw[hlen];exact hj
    obtain⟨e1,e2,e3,e4⟩:=hB.2 i hi2 hi;obtain⟨f1,f2,f3,f4⟩:=hB.2 j hj2 hj;have:=(List.pairwise_iff_getElem.1 h.pair) i j hi2 hj2 hij;refine⟨?_,?_⟩
    ·rw[e1,f1];exact this.1
    ·rw[e3,f1];exact this.2
   ·have e:=zQ6 qA3 (η L.sub) (qB3 (qA0 n) (η L.sub) fr).1 ⟨hlen,fun i h1 h2=>by show 11+_=11+_;rw[(hB.2 i h1 h2).1]⟩;show meas qA3 (qB3 (qA0 n) (η L.sub) fr).1≤126;rw[e];exact h.fits
theorem zL9{X:Type}(f:X→List Nat→List Nat)(g:X→Nat)(hf:∀ t ks,(f t ks).length+1≤ks.length+g t):∀ (ls:List (Lnk X)) (ks:List Nat),(ls.foldl (qG2 f) ks).length≤ks.length+meas (fun m=>g m.sub) ls
 | [],ks=>by simp[meas]
 | m::ls,ks=>by
  have h1:=zL9 f g hf ls (qG2 f ks m);have h2:(qG2 f ks m).length≤ks.length+g m.sub:=by
   unfold qG2;split
   ·have:=hf m.sub ks;omega
   ·rename_i x _;split
    ·omega
    ·have:=hf m.sub (x.1::ks);simp at this;omega
  rw[List.foldl_cons,qE0];omega
theorem zQ1:∀ (n:Nat) (t:Tn n) (ks:List Nat),(qF6 n t ks).length+1≤ks.length+qB1 n t
 | 0,t,ks=>by simp[qF6,qB1]
 | n+1,t,ks=>by
  have h:=zL9 (qF6 n) (qB1 n) (zQ1 n) (η t) ks;have e:qB1 (n+1) t=1+meas (fun m:Lnk (Tn n)=>qB1 n m.sub) (η t):=rfl;rw[e];simp only[qF6];omega
theorem zG0(ks:List Nat)(r:Root):(qA8 ks r).length≤ks.length+qB9 r:=by
 cases r with
 | none=>simp[qA8,qB9]
 | «at» n L=>
  have h:=zL9 (qF6 n) (qB1 n) (zQ1 n) [L] ks;simpa [qA8,qB9,meas] using h
theorem zO7:∀ (rs:List Root) (ks:List Nat),(rs.foldl qA8 ks).length≤ks.length+meas qB9 rs
 | [],ks=>by simp[meas]
 | r::rs,ks=>by
  have h1:=zO7 rs (qA8 ks r);have h2:=zG0 ks r;rw[List.foldl_cons,qE0];omega
theorem xZ0(N:Nat)(ks:List Nat):N-2≤(qC4 N ks).length+ks.length:=by
 have h:=zB4 (List.range' 2 (N-2)) ks List.nodup_range';simpa [qC4] using h
end Go.Proofs.YtdohpenfkdckiabGreatDoor
namespace Go.Proofs.YtdohpenfkdckiabGreatDoor
open Go.Proofs.Tryz
open Go.RowKit Go.MuLone
theorem xN0(St f:Nat)(s:Sto)(first cap:Array Value)(call:ByteArray)(X:List Nat)(Q:World→World→Prop)(w:World)(hSt:w.heap[St]?=some (τ 0 s))(hpo:s.po=false)
  (hcf:∀ W:World,Sem.run prog (callFunc f (first++cap)) W=.ok (.enter f (first++cap)) W) (hX:∀ i,i∈X→i<w.heap.size)
  (hw:∀ W:World,Kp [St] w W→W.heap[St]?=some (τ 1 s)→Calls prog f (first++cap) W fun e w1=>e=qD1 none∧Q W w1∧Kp (St::X) W w1∧(∃ s',w1.heap[St]?=some (τ 1 s'))):
  Calls prog 44 #[.pointer (some ⟨St,0,none⟩),.string call,.func (.func f) first cap] w fun e w'=>∃ v,e=.returned v∧v=.nilIface∧Kp (St::X) w w'∧∃ W w1 B s',Q W w1∧w1.heap[St]?=some (τ 1 s')∧w'.heap[St]?=some (τ 0 s')∧Kp [St] w W∧w.heap.size≤B∧B<W.heap.size∧w1.heap[B]?=some (.cells #[.nilIface] 35)∧Kp [St,B] w1 w':=by
 have hmf:=zM;have HW:=zh hw;have HX:=zh hX;have HPO:=zh hpo;clear hw hX hpo;have hSs:=ζ hSt
 go_enter_defers func44,ntmps44
 go_wp2_with fail;refine (lock_free qY0 ⟨St,0,none⟩ _ (ξ (θ _ (θ _ hSt)) 0) (ρ (θ _ (θ _ hSt)) 0)).mono ?_;rintro e W0 ⟨rfl,rfl⟩;obtain⟨W0,hW0,hK0,hs0,hB0,hF0,hSt0⟩:∃ W0,W0=((w.alloc (.cells #[.pointer (some ⟨St,0,none⟩)] 74)).alloc (.cells #[.func (Fn.func f) first cap] 1)).setCell ⟨St,0,none⟩ (.int .i32 1)∧Kp [St] w W0∧W0.heap.size=w.heap.size+2∧W0.heap[w.heap.size]?=some (.cells #[.pointer (some ⟨St,0,none⟩)] 74)∧W0.heap[w.heap.size+1]?=some (.cells #[.func (Fn.func f) first cap] 1)∧W0.heap[St]?=some (τ 1 s):=by
  refine⟨_,rfl,((((Kp.refl _ _).alloc _).alloc _).sc _),by simp[World.setCell],?_,?_,?_⟩
  ·exact (qA7 (by omega) _ _).trans (θ _ (μ _ _))
  ·refine (qA7 (by omega) _ _).trans ?_;have e:=μ (w.alloc (.cells #[.pointer (some ⟨St,0,none⟩)] 74)) (.cells #[.func (Fn.func f) first cap] 1);simpa using e
  ·exact ω (θ _ (θ _ hSt)) 0 _
 rw[←hW0];clear hW0;have b0:=ξ hB0 0;simp at b0;go_wp2_with fail;obtain⟨Wc,hWc,hKc,hsc,hBc,hFc,hStc,hEc,hCc⟩:∃ Wc,Wc=(W0.alloc (.cells #[.string call] 9)).alloc (.cells #[.nilIface] 35)∧Kp [St] w Wc∧Wc.heap.size=w.heap.size+4∧Wc.heap[w.heap.size]?=some (.cells #[.pointer (some ⟨St,0,none⟩)] 74)∧Wc.heap[w.heap.size+1]?=some (.cells #[.func (Fn.func f) first cap] 1)∧Wc.heap[St]?=some (τ 1 s)∧Wc.heap[W0.heap.size+1]?=some (.cells #[.nilIface] 35)∧Wc.heap[W0.heap.size]?=some (.cells #[.string call] 9):=by
  refine⟨_,rfl,(hK0.alloc _).alloc _,by simp[hs0],θ _ (θ _ hB0),θ _ (θ _ hF0),θ _ (θ _ hSt0),?_,θ _ (μ _ _)⟩;have e:=μ (W0.alloc (.cells #[.string call] 9)) (.cells #[.nilIface] 35);simpa using e
 have HA1:Hid (Calls prog 83 #[.pointer (some ⟨w.heap.size,0,none⟩),.pointer (some ⟨w.heap.size+1,0,none⟩)] Wc fun e w1=>e=qD1 none∧Q Wc w1∧Kp (St::X) Wc w1∧(∃ s',w1.heap[St]?=some (τ 1 s'))):=
  zP2 none w.heap.size (w.heap.size+1) St f s first cap Wc (fun w1=>Q Wc w1∧Kp (St::X) Wc w1∧(∃ s',w1.heap[St]?=some (τ 1 s'))) hBc hFc hStc HPO.out hcf (HW.out Wc hKc hStc)
 have HNM:Hid (∀ i,w.heap.size≤i→i ∉ St::X):=by
  show ∀ i,w.heap.size≤i→i ∉ St::X;intro i hi h;rcases List.mem_cons.1 h with h|h
  ·omega
  ·have:=HX.out _ h;omega
 clear HW;refine (qY9 83 _ _ _ (fun w1=>Q Wc w1∧Kp (St::X) Wc w1∧(∃ s',w1.heap[St]?=some (τ 1 s'))) (zG8 _) ?_).mono ?_
 ·rw[←hWc];refine (show Calls _ _ _ _ _ from HA1.out).mono ?_;rintro e w1 ⟨rfl,hQ,hk,hst⟩;exact⟨rfl,⟨hQ,hk,hst⟩,hk.heap hEc (HNM.out _ (by omega))⟩
 rintro e w2 ⟨rfl,w1,⟨hQ,hk,s',hst⟩,rfl⟩;have hs1:=hk.size;have hEw1:=hk.heap hEc (HNM.out _ (by omega));obtain⟨w2,hw2,hst2,hK2,ho2⟩:∃ w2,w2=w1.setCell ⟨W0.heap.size+1,0,none⟩ .nilIface∧w2.heap[St]?=some (τ 1 s')∧Kp (St::X) w w2∧Kp [St,W0.heap.size+1] w1 w2:=
  ⟨_,rfl,(qA7 (by omega) _ _).trans hst,(((hKc.mono (S':=St::X) (by simp)).trans hk (fun _ h _=>h)).setCell (Or.inr (by simp;omega)) _),(Kp.refl _ _).sc _⟩
 rw[←hw2];clear hw2
 go_wp2_with (go_at_call 84;refine (zV4 8 _).mono ?_;rintro e w' ⟨rfl,rfl⟩)
 refine leaves_cons (f:=82) (args:=#[.pointer (some ⟨St,0,none⟩)]) (by simp) (by simp[go_sem]) ?_;refine (unlock_deferred qY0 ⟨St,0,none⟩ .returning _ (ξ hst2 0) (ρ hst2 0)).mono ?_;rintro e u' w'' ⟨rfl,rfl,rfl⟩;exact⟨_,results_tmp rfl _ _ _,.nilIface,rfl,rfl,hK2.sc _,Wc,w1,W0.heap.size+1,s',hQ,hst,ω hst2 0 _,hKc,by omega,by omega,hEw1,ho2.sc _⟩
theorem jA0(x St f:Nat)(t:Tx)(s:Sto)(first cap:Array Value)(call:ByteArray)(X:List Nat)(Q:World→World→Prop)(w:World)(hx:w.heap[x]?=some (qA6 t))(htS:t.St=St)(hSt:w.heap[St]?=some (τ 0 s))(hpo:s.po=false)(hX:∀ i,i∈X→i<w.heap.size)
  (hw:∀ W:World,Kp [St] w W→W.heap[St]?=some (τ 1 s)→W.heap[w.heap.size]?=some (.cells #[.pointer (some ⟨x,0,none⟩)] 29)→W.heap[w.heap.size+1]?=some (.cells #[.func (.func f) first cap] 1)→Calls prog 64 #[.pointer (some ⟨w.heap.size,0,none⟩),.pointer (some ⟨w.heap.size+1,0,none⟩)] W fun e w1=>e=qD1 none∧Q W w1∧Kp (St::X) W w1∧(∃ s',w1.heap[St]?=some (τ 1 s'))):
  Calls prog 38 #[.pointer (some ⟨x,0,none⟩),.string call,.func (.func f) first cap] w fun e w'=>∃ v,e=.returned v∧v=.nilIface∧Kp (St::X) w w'∧∃ W w1 B s',Q W w1∧w1.heap[St]?=some (τ 1 s')∧w'.heap[St]?=some (τ 0 s')∧Kp [St] w W∧w.heap.size≤B∧B<W.heap.size∧w1.heap[B]?=some (.cells #[.nilIface] 35)∧Kp [St,B] w1 w':=by
 have hmf:=zM;have HW:=zh hw;have HX:=zh hX;have HPO:=zh hpo;clear hw hX hpo;have hSs:=ζ hSt;have hxs:=ζ hx;subst htS;have d0:=ξ (θ (.cells #[.func (Fn.func f) first cap] 1) (θ (.cells #[.pointer (some ⟨x,0,none⟩)] 29) hx)) 0;simp only[zG,zH] at d0;go_enter func38,ntmps38;go_wp2_with fail;obtain⟨W0,hW0,hK0,hs0,hB0,hF0⟩:∃ W0,W0=(w.alloc (.cells #[.pointer (some ⟨x,0,none⟩)] 29)).alloc (.cells #[.func (Fn.func f) first cap] 1)∧Kp [] w W0∧W0.heap.size=w.heap.size+2∧W0.heap[w.heap.size]?=some (.cells #[.pointer (some ⟨x,0,none⟩)] 29)∧W0.heap[w.heap.size+1]?=some (.cells #[.func (Fn.func f) first cap] 1):=by
  refine⟨_,rfl,((Kp.refl _ _).alloc _).alloc _,by simp,θ _ (μ _ _),?_⟩;have e:=μ (w.alloc (.cells #[.pointer (some ⟨x,0,none⟩)] 29)) (.cells #[.func (Fn.func f) first cap] 1);simpa using e
 rw[←hW0];clear hW0;have hSt0:=hK0.hp hSt;refine (xN0 t.St 64 s #[] #[.pointer (some ⟨w.heap.size,0,none⟩),.pointer (some ⟨w.heap.size+1,0,none⟩)] _ X Q W0 hSt0 HPO.out (zR1 _) (fun i hi=>by have:=HX.out i hi;omega) ?_).mono ?_
 ·intro W hK hS;exact HW.out W ((hK0.mono (S':=[t.St]) (by simp)).trans hK (fun _ h _=>h)) hS (hK.ho hB0) (hK.ho hF0)
 rintro e w2 ⟨v,rfl,rfl,hK2,W,w1,B,s',hQ,hs1,hs2,hKW,hB1,hB2,hB3,hKB⟩;have HR:Hid ((Q W w1∧Kp [t.St,B] w1 w2)∧w1.heap[t.St]?=some (τ 1 s')∧w2.heap[t.St]?=some (τ 0 s')):=⟨⟨hQ,hKB⟩,hs1,hs2⟩;clear hQ hKB hs1 hs2;go_wp2;go_ret;exact⟨.nilIface,rfl,rfl,(hK0.mono (S':=t.St::X) (by simp)).trans hK2 (fun _ h _=>h),W,w1,B,s',HR.out.1.1,HR.out.2.1,HR.out.2.2,(hK0.mono (S':=[t.St]) (by simp)).trans hKW (fun _ h _=>h),by omega,hB2,hB3,HR.out.1.2⟩
theorem jA1(x St f:Nat)(t:Tx)(s:Sto)(first cap:Array Value)(call:ByteArray)(X:List Nat)(Q:World→World→Prop)(w:World)(hx:w.heap[x]?=some (qA6 t))(ho:t.over=false)(htS:t.St=St)(hSt:w.heap[St]?=some (τ 0 s))(hpo:s.po=false)(hne:x≠St)
  (hcf:∀ W:World,Sem.run prog (callFunc f (first++cap)) W=.ok (.enter f (first++cap)) W) (hX:∀ i,i∈X→i<w.heap.size)
  (hw:∀ W:World,Kp [St] w W→W.heap[St]?=some (τ 1 s)→Calls prog f (first++cap) W fun e w1=>e=qD1 none∧Q W w1∧Kp (St::X) W w1∧(∃ s',w1.heap[St]?=some (τ 1 s'))):
  Calls prog 38 #[.pointer (some ⟨x,0,none⟩),.string call,.func (.func f) first cap] w fun e w'=>∃ v,e=.returned v∧v=.nilIface∧Kp (St::X) w w'∧∃ W w1 B s',Q W w1∧w1.heap[St]?=some (τ 1 s')∧w'.heap[St]?=some (τ 0 s')∧Kp [St] w W∧w.heap.size≤B∧B<W.heap.size∧w1.heap[B]?=some (.cells #[.nilIface] 35)∧Kp [St,B] w1 w':=
 jA0 x St f t s first cap call X Q w hx htS hSt hpo hX fun W hK hS hB hF=>
  zU7 none _ _ x f t first cap W (fun w1=>Q W w1∧Kp (St::X) W w1∧(∃ s',w1.heap[St]?=some (τ 1 s'))) hB hF (hK.heap hx (by simp;exact hne)) ho hcf (hw W hK hS)
end Go.Proofs.YtdohpenfkdckiabGreatDoor
namespace Go.Proofs.YtdohpenfkdckiabGreatDoor
open Go.Proofs.Tryz
open Go.RowKit
open Go.Maps (Keyed)
theorem xA4{w:World}{a b:Nat}{c d:Array Value}{t u:TypeId}{fr gr:Nat × Nat}(ha:w.heap[a]?=some (.cells c t fr))(hb:w.heap[b]?=some (.cells d u gr))(h:t≠u):a≠b:=fun e=>by
 subst e;rw[ha] at hb;cases hb;exact h rfl
theorem xS7(args:Array Value)(W:World):Sem.run prog (callFunc 39 args) W=.ok (.enter 39 args) W:=by
 simp[go_sem,func39]
theorem xT3(Tc x n V:Nat)(t:Tx)(s:Sto)(D:DataW Unit)(R:World→World→Prop)(w:World)(hTc:w.heap[Tc]?=some (.cells #[.pointer (some ⟨x,0,none⟩)] 29))(hx:w.heap[x]?=some (qA6 t))(hSt:w.heap[t.St]?=some (τ 1 s))(hM:RM w s.V s.M n D)(h0:0≤t.nr)(h1:t.nr≤1000000000)(hMS:s.M≠t.St)(hxS:x≠t.St)(hxM:x≠s.M)(hTM:Tc≠s.M)(hMs:s.M<w.heap.size)(hon:t.on=some ⟨V,0,none⟩)(hwr:t.wrt=true)
  (hc:∀ W:World,Kp [t.St,x,s.M] w W→W.heap[x]?=some (qA6 t.ended)→W.heap[t.St]?=some (τ 1 (s.left t.nr))→RM W s.V s.M n (D.del (qA4 t.nr))→Calls prog 41 #[.pointer (some ⟨t.St,0,none⟩),φ V t.h] W fun e w'=>e=.returned (.tuple #[])∧R W w'):
  Calls prog 39 #[.pointer (some ⟨Tc,0,none⟩)] w fun e w'=>e=qD1 none∧∃ W,Kp [t.St,x,s.M] w W∧W.heap[x]?=some (qA6 t.ended)∧W.heap[t.St]?=some (τ 1 (s.left t.nr))∧RM W s.V s.M n (D.del (qA4 t.nr))∧R W w':=by
 have hxs:=ζ hx;have hTs:=ζ hTc;have hSs:=ζ hSt;have hTx:Tc≠x:=xA4 hTc hx (by decide);have hTS:Tc≠t.St:=xA4 hTc hSt (by decide);have tc0:=ξ hTc 0;simp only[zG,zH,zI] at tc0;have x4:=ξ hx 4;have x5:=ξ hx 5;have x6:=ξ hx 6;have x7:=ξ hx 7;have x8:=ξ hx 8;simp only[qA6,zG,zH,zI] at x4 x5 x6 x7 x8;rw[hon] at x4;have HX:=zh hx;have HT:=zh hTc;have HS:=zh hSt;have HM:=zh hM;have HN:Hid (s.M≠t.St∧x≠t.St∧x≠s.M∧Tc≠s.M∧Tc≠x∧Tc≠t.St):=⟨hMS,hxS,hxM,hTM,hTx,hTS⟩;have HC:=zh hc;clear hx hTc hSt hM hMS hxS hxM hTM hTx hTS hc;go_enter func39,ntmps39;go_wp2_with fail;obtain⟨w0,hw0,hB0,hK0,hs0⟩:∃ w0,w0=w.alloc (.cells #[.pointer (some ⟨V,0,none⟩),.string t.h.key,.int .i64 t.h.b,.int .u64 t.h.s,.pointer t.h.ptr] 83)∧w0.heap[w.heap.size]?=some (.cells #[.pointer (some ⟨V,0,none⟩),.string t.h.key,.int .i64 t.h.b,.int .u64 t.h.s,.pointer t.h.ptr] 83)∧Kp [] w w0∧w0.heap.size=w.heap.size+1:=⟨_,rfl,μ _ _,(Kp.refl _ _).alloc _,by simp⟩;rw[←hw0];clear hw0 tc0 x4 x5 x6 x7 x8;obtain⟨n1,n2,n3,n4,n5,n6⟩:=HN.out;refine (zS7 x n t s D w0 (hK0.hp HX.out) (hK0.hp HS.out) (HM.out.kp hK0 (by simp)) h0 h1 n1 n2 n3).mono ?_;rintro e w1 ⟨rfl,hx1,hS1,hM1,hK1⟩;have hKw:Kp [t.St,x,s.M] w w1:=(hK0.mono (by simp)).trans hK1 (fun _ h _=>h);have hT1:=hKw.heap HT.out (by simp;exact⟨n6,n5,n4⟩);have hB1:=hK1.ho hB0;have hT1s:=ζ hT1;have hx1s:=ζ hx1;have hB1s:=ζ hB1;have tc0:=ξ hT1 0;simp only[zG,zH,zI] at tc0;have x0:=ξ hx1 0;have x2:=ξ hx1 2;simp only[qA6,Tx.ended,zG,zH,zI] at x0 x2;rw[hwr] at x2;have HCALL:Hid (Calls prog 41 #[.pointer (some ⟨t.St,0,none⟩),φ V t.h] w1.drew fun e w'=>e=.returned (.tuple #[])∧R w1.drew w'):=HC.out w1.drew hKw.drew hx1 hS1 (hM1.kp ((Kp.refl [] w1).drew) (by simp));have HEND:Hid (Kp [t.St,x,s.M] w w1.drew∧w1.drew.heap[x]?=some (qA6 t.ended)∧w1.drew.heap[t.St]?=some (τ 1 (s.left t.nr))∧RM w1.drew s.V s.M n (D.del (qA4 t.nr))):=⟨hKw.drew,hx1,hS1,hM1.kp ((Kp.refl [] w1).drew) (by simp)⟩;have hSd:w1.drew.heap[Tc]?=some (.cells #[.pointer (some ⟨x,0,none⟩)] 29)∧w1.drew.heap[x]?=some (qA6 t.ended)∧w1.drew.heap[w.heap.size]?=some (.cells #[.pointer (some ⟨V,0,none⟩),.string t.h.key,.int .i64 t.h.b,.int .u64 t.h.s,.pointer t.h.ptr] 83):=⟨hT1,hx1,hB1⟩;clear HC hKw hS1 hM1 hK1 hT1 hx1 hB1;go_wp2_with fail;have b:=ξ hSd.2.2;have hb:=hSd.2.2;rw[φ] at HCALL;clear hSd
 go_region_with (go_at_call 41;go_must (refine (show Calls _ _ _ _ _ from HCALL.out).mono ?_);rintro e w2 ⟨rfl,hR2⟩)
 all_goals
  have HR2:=zh hR2;clear hR2 b hb;go_wp2
  go_end0
  exact⟨rfl,w1.drew,HEND.out.1,HEND.out.2.1,HEND.out.2.2.1,HEND.out.2.2.2,HR2.out⟩
theorem xH6(x n V:Nat)(t:Tx)(s:Sto)(D:DataW Unit)(X:List Nat)(R:World→World→Prop)(w:World)(hx:w.heap[x]?=some (qA6 t))(ho:t.over=false)(hSt:w.heap[t.St]?=some (τ 0 s))(hpo:s.po=false)(hM:RM w s.V s.M n D)(h0:0≤t.nr)(h1:t.nr≤1000000000)(hMS:s.M≠t.St)(hxS:x≠t.St)(hxM:x≠s.M)(hMs:s.M<w.heap.size)(hon:t.on=some ⟨V,0,none⟩)(hwr:t.wrt=true)(hX:∀ i∈X,i<w.heap.size)
  (hc:∀ W:World,Kp [t.St,x,s.M] w W→W.heap[x]?=some (qA6 t.ended)→W.heap[t.St]?=some (τ 1 (s.left t.nr))→RM W s.V s.M n (D.del (qA4 t.nr))→Calls prog 41 #[.pointer (some ⟨t.St,0,none⟩),φ V t.h] W fun e w'=>e=.returned (.tuple #[])∧(∃ s',w'.heap[t.St]?=some (τ 1 s'))∧R W w'∧Kp (t.St::X) W w'):
  Calls prog 14 #[.pointer (some ⟨x,0,none⟩)] w fun e w'=>e=.returned .nilIface∧Kp (t.St::x::s.M::X) w w'∧∃ W w1 B s',Kp [t.St,x,s.M] w W∧W.heap[x]?=some (qA6 t.ended)∧W.heap[t.St]?=some (τ 1 (s.left t.nr))∧RM W s.V s.M n (D.del (qA4 t.nr))∧R W w1∧Kp (t.St::X) W w1∧w1.heap[t.St]?=some (τ 1 s')∧w'.heap[t.St]?=some (τ 0 s')∧w.heap.size≤B∧w1.heap[B]?=some (.cells #[.nilIface] 35)∧Kp [t.St,B] w1 w':=by
 have hmf:=zM;have hxs:=ζ hx;have hSs:=ζ hSt;go_enter func14,ntmps14;go_wp2_with fail;obtain⟨w0,hw0,hB0,hK0,hs0⟩:∃ w0,w0=w.alloc (.cells #[.pointer (some ⟨x,0,none⟩)] 29)∧w0.heap[w.heap.size]?=some (.cells #[.pointer (some ⟨x,0,none⟩)] 29)∧Kp [] w w0∧w0.heap.size=w.heap.size+1:=⟨_,rfl,μ _ _,(Kp.refl _ _).alloc _,by simp⟩;rw[←hw0];clear hw0;refine (jA1 x t.St 39 t s #[] #[.pointer (some ⟨w.heap.size,0,none⟩)] _ (x::s.M::X) (fun W0 w1=>∃ W,Kp [t.St,x,s.M] w W∧W.heap[x]?=some (qA6 t.ended)∧W.heap[t.St]?=some (τ 1 (s.left t.nr))∧RM W s.V s.M n (D.del (qA4 t.nr))∧R W w1∧Kp (t.St::X) W w1) w0 (hK0.hp hx) ho rfl (hK0.hp hSt) hpo hxS (xS7 _) (by intro i hi;simp at hi;rcases hi with rfl | rfl | hi;omega;omega;have:=hX i hi;omega) ?_).mono ?_
 ·intro W hK hS;have hKw:Kp [t.St] w W:=(hK0.mono (by simp)).trans hK (fun _ h _=>h);have hTne:w.heap.size≠t.St:=by omega
  refine (xT3 w.heap.size x n V t s D (fun W w'=>(∃ s',w'.heap[t.St]?=some (τ 1 s'))∧R W w'∧Kp (t.St::X) W w') W (hK.heap hB0 (by simp;exact hTne)) (hKw.heap hx (by simp;exact hxS)) hS (hM.kp hKw (by simp;exact hMS)) h0 h1 hMS hxS hxM (by omega) (by have:=hKw.size;omega) hon hwr ?_).mono ?_
  ·intro W' hK' e1 e2 e3;exact hc W' ((hKw.mono (by simp)).trans hK' (fun _ h _=>h)) e1 e2 e3
  ·rintro e w1 ⟨rfl,W',hK',e1,e2,e3,e4,e5,e6⟩;refine⟨rfl,⟨W',(hKw.mono (by simp)).trans hK' (fun _ h _=>h),e1,e2,e3,e5,e6⟩,?_,e4⟩;refine (hK'.mono ?_).trans e6 ?_
   ·intro i hi;simp at hi ⊢;omega
   ·intro i hi _;simp at hi ⊢;rcases hi with h | h<;>simp[h]
 rintro e w2 ⟨v,rfl,rfl,hK2,W0,w1,B,s',⟨W,e1,e2,e3,e4,e5,e6⟩,hs1,hs2,hKW,hB1,hB2,hB3,hKB⟩;have HE:Hid (Kp (t.St::x::s.M::X) w w2∧∃ W w1 B s',Kp [t.St,x,s.M] w W∧W.heap[x]?=some (qA6 t.ended)∧W.heap[t.St]?=some (τ 1 (s.left t.nr))∧RM W s.V s.M n (D.del (qA4 t.nr))∧R W w1∧Kp (t.St::X) W w1∧w1.heap[t.St]?=some (τ 1 s')∧w2.heap[t.St]?=some (τ 0 s')∧w.heap.size≤B∧w1.heap[B]?=some (.cells #[.nilIface] 35)∧Kp [t.St,B] w1 w2):=
  ⟨(hK0.mono (by simp)).trans hK2 (fun _ h _=>h),W,w1,B,s',e1,e2,e3,e4,e5,e6,hs1,hs2,by omega,hB3,hKB⟩
 clear hK2 e1 e2 e3 e4 e5 e6 hs1 hs2 hKW hB3 hKB;go_wp2;go_ret;exact⟨rfl,HE.out⟩
theorem Lie.bnd{N:Nat}{l:List UInt8}{rb rs:Int}{r:Root}(h:Lie N l rb rs r)(hN:N≤1000):0≤rb∧rb≤1000∧0≤rs:=by
 cases r with
 | none=>obtain⟨rfl,rfl⟩:=h;decide
 | «at» n L=>obtain⟨b,rfl,_,h3⟩:=h;have:=h3.at;omega
theorem Lie.sum{N:Nat}{l:List UInt8}{rb rs:Int}{r:Root}(h:Lie N l rb rs r):rs<18446744073709551616:=by
 cases r with
 | none=>obtain⟨rfl,rfl⟩:=h;decide
 | «at» n L=>obtain⟨b,rfl,_,h3⟩:=h;have:=h3.at;omega
theorem Lie.old{N:Nat}{l:List UInt8}{rb rs:Int}{r:Root}(h:Lie N l rb rs r):qP3 N l r:=by
 cases r with
 | none=>trivial
 | «at» n L=>
  obtain⟨b,rfl,h2,h3⟩:=h
  cases n with
  | zero=>intro x hx;rw[h2] at hx;cases hx;exact h3
  | succ n=>exact⟨fun x hx=>by rw[h2] at hx;cases hx;exact h3,fun hx=>by rw[h2] at hx;cases hx⟩
theorem Lie.move{N:Nat}{l l':List UInt8}{rb rs:Int}{r:Root}(h:Lie N l rb rs r)(hk:∀ k∈qO4 r,ι l' k=ι l k):Lie N l' rb rs r:=by
 cases r with
 | none=>exact h
 | «at» n L=>
  obtain⟨b,e1,h2,h3⟩:=h;refine⟨b,e1,h2,h3.move _ _ _ _ fun k hm=>hk k ?_⟩;show k∈qI6 n L;rw[qS5 h2];exact hm
theorem zA4{N:Nat}{l:List UInt8}:∀ (n b:Nat) (s:Int) (t:Tn n),Laid N l n b s t→∀ k∈Blk n b t,2≤k
 | 0,b,s,t,h,k,hk=>by simp[Blk] at hk;have:=h.at;omega
 | n+1,b,s,t,h,k,hk=>by
  have hb:=h.at;obtain⟨h1,h2,h3,hs,h4,h5⟩:=h;simp only[Blk,List.mem_cons,List.mem_flatMap] at hk;rcases hk with rfl|⟨m,hm,hk⟩
  ·omega
  ·obtain⟨i,hi,rfl⟩:=List.getElem_of_mem hm;have hr:=(h4.2 i (by rw[h4.1];exact hi) hi).2
   cases hx:(η t)[i].ref with
   | none=>rw[hx] at hk;cases hk
   | some x=>
    rw[hx] at hk hr;exact zA4 n x.1 x.2 _ hr.2.2.2 k hk
theorem Lie.ge{N:Nat}{l:List UInt8}{rb rs:Int}{r:Root}(h:Lie N l rb rs r):∀ k∈qO4 r,2≤k:=by
 cases r with
 | none=>intro k hk;cases hk
 | «at» n L=>
  obtain⟨b,rfl,h2,h3⟩:=h;intro k hk;have hk':k∈qI6 n L:=hk;rw[qS5 h2] at hk';exact zA4 n b rs L.sub h3 k hk'
theorem Lie.head{N:Nat}{l:List UInt8}{rb rs:Int}{r:Root}(h:Lie N l rb rs r)(hl:N*128≤l.length)(hN2:2≤N)(i:Nat)(hi:i<2)(x y z:Int):Lie N (qC8 l i (qC0 x y z)) rb rs r:=
 h.move fun k hk=>qW5 l _ i k N (qL3 _ _ _) hl (by omega) (by have:=h.ge k hk;omega)
theorem xA6{N:Nat}{l l':List UInt8}(hk:∀ k,2≤k→ι l' k=ι l k):∀ (n:Nat) (L:Lnk (Tn n)),qL2 N l n L→qL2 N l' n L
 | 0,L,h=>fun x hx=>(h x hx).move _ _ _ _ fun k hm=>hk k (zA4 0 x.1 x.2 L.sub (h x hx) k hm)
 | n+1,L,h=>⟨fun x hx=>(h.1 x hx).move _ _ _ _ fun k hm=>hk k (zA4 (n+1) x.1 x.2 L.sub (h.1 x hx) k hm),fun hn m hm=>xA6 hk n m (h.2 hn m hm)⟩
theorem jL3{N:Nat}{l l':List UInt8}(hk:∀ k,2≤k→ι l' k=ι l k){r:Root}(h:qP3 N l r):qP3 N l' r:=by
 cases r with
 | none=>trivial
 | «at» n L=>exact xA6 hk n L h
theorem jH3{N:Nat}{l:List UInt8}(hN:N≤1000)(hl:N*128≤l.length)(rt:Root)(rs:List Root)(ho:qP3 N l rt)(hg:RGood rt)(hc:rt.cont.length≤1400)(hrs:∀ r∈rs,qP3 N l r)(fr:List Nat)(hfr:fr=qC4 N (rs.foldl qA8 (qA8 [] rt)))(hfit:rt.news≤fr.length):
  ∃ nt:Root,Lie N (laidAll l (qC7 rt fr).2) (qC7 rt fr).1.b (qC7 rt fr).1.s nt∧RGood nt∧nt.cont=rt.cont∧(qC7 rt fr).2.length=rt.news∧(∀ r∈rs,∀ k∈qO4 r,ι (laidAll l (qC7 rt fr).2) k=ι l k)∧(∀ k,k<2→ι (laidAll l (qC7 rt fr).2) k=ι l k):=by
 cases rt with
 | none=>exact⟨.none,⟨rfl,rfl⟩,trivial,rfl,rfl,fun _ _ _ _=>rfl,fun _ _=>rfl⟩
 | «at» n L=>
  have hok:=zL2 hg hc;subst hfr;obtain⟨h1,⟨x,h2,h3⟩,h4,h5⟩:=xT5 hN hl n L rs ho hok (xF3 hg hc) hrs hfit _ rfl;refine⟨.at n (qA0 n L (qC4 N (rs.foldl qA8 (qA8 [] (.at n L))))).1,?_,⟨?_,?_,?_⟩,zI7 _ _ _,qX5 _ _ _,h4,h5⟩
  ·refine⟨x.1,?_,?_,?_⟩
   ·simp[qC7,lhl,h2]
   ·simp[qC7,lhl,h2]
   ·have e:(qC7 (.at n L) (qC4 N (rs.foldl qA8 (qA8 [] (.at n L))))).1.s=x.2:=by simp[qC7,lhl,h2]
    rw[e];exact h3
  ·rw[zJ0];exact hg.1
  ·rw[zJ0];exact zX1 n L _ _ hg.2.1
  ·rw[zX0];exact hg.2.2
theorem Lie.one{N:Nat}{l:List UInt8}{rb rs:Int}{r r':Root}(hN:N≤1000)(h:Lie N l rb rs r)(h':Lie N l rb rs r'):r.cont=r'.cont∧qO4 r=qO4 r':=by
 cases r with
 | none=>
  obtain⟨rfl,rfl⟩:=h
  cases r' with
  | none=>exact⟨rfl,rfl⟩
  | «at» n L=>obtain⟨b,e1,_,e3⟩:=h';have:=e3.at;omega
 | «at» n L=>
  obtain⟨b,rfl,e2,e3⟩:=h
  cases r' with
  | none=>obtain⟨e,_⟩:=h';have:=e3.at;omega
  | «at» n' L'=>
   obtain⟨b',f1,f2,f3⟩:=h';have hb:b=b':=by omega
   subst hb;have hn:=qU6 hN e3 f3;subst hn;have ht:=(zC8 hN n b rs rs L.sub L'.sub e3 f3).2;refine⟨?_,?_⟩
   ·show cont n L.sub=cont n L'.sub;rw[ht]
   ·show qI6 n L=qI6 n L';rw[qS5 e2,qS5 f2,ht]
end Go.Proofs.YtdohpenfkdckiabGreatDoor
namespace Go.Proofs.YtdohpenfkdckiabGreatDoor
open Go.Proofs.Tryz
open Go.RowKit
variable {κ:Nat}
theorem xK8(N rb rs:Int):(qC0 N rb rs).take 32=toB (qE5 N rb rs):=by
 have h:(toB (qE5 N rb rs)).length=32:=by rw[qI5,qV3]
 rw[qC0,List.take_append_of_le_length (by omega),List.take_of_length_le (by omega)]
theorem zH7(N rb rs:Int):qC0 N rb rs=toB qH2++(toB (qB0 2 rb)++(toB (qB0 8 N)++(toB (qB0 8 rs)++(toB (qB0 8 (fnv (qH6 N rb rs)))++List.replicate 96 0)))):=by
 simp only[qC0,qE5]
 conv=>lhs;rw[qH4]
 simp only[qH6,qH4,List.append_assoc]
theorem xK6(N rb rs:Int)(h0:0≤N)(h1:N≤2000000000):qE4 (qD2 (((qC0 N rb rs).drop 8).take 8))=N:=by
 have e:((qC0 N rb rs).drop 8).take 8=toB (qB0 8 N):=by
  rw[zH7,←List.append_assoc (toB qH2)];exact qU2 _ _ _ 8 8 (by simp[qI5,qG5,qH2]) (by simp[qI5,qG5])
 rw[e,qK2 _ (qJ1 8 N),qL4 8 N (by decide) h0];have:(256:Int) ^ 8=18446744073709551616:=by decide
 omega
theorem xK5(N rb rs:Int)(h0:0≤rb)(h1:rb≤1000):qE4 (qD2 (((qC0 N rb rs).drop 6).take 2))=rb:=by
 have e:((qC0 N rb rs).drop 6).take 2=toB (qB0 2 rb):=by
  rw[zH7];exact qU2 _ _ _ 6 2 (by simp[qI5,qH2]) (by simp[qI5,qG5])
 rw[e,qK2 _ (qJ1 2 rb),qL4 2 rb (by decide) h0];have:(256:Int) ^ 2=65536:=by decide
 omega
theorem xK7(N rb rs:Int)(h0:0≤rs)(h1:rs<18446744073709551616):qE4 (qD2 (((qC0 N rb rs).drop 16).take 8))=rs:=by
 have e:((qC0 N rb rs).drop 16).take 8=toB (qB0 8 rs):=by
  rw[zH7,←List.append_assoc (toB qH2),←List.append_assoc (toB qH2++toB (qB0 2 rb))];exact qU2 _ _ _ 16 8 (by simp[qI5,qG5,qH2]) (by simp[qI5,qG5])
 rw[e,qK2 _ (qJ1 8 rs),qL4 8 rs (by decide) h0];have:(256:Int) ^ 8=18446744073709551616:=by decide
 omega
structure HeadOk(i:Nat)(N rb rs:Int):Prop where
 place:N % 2=(i:Int)
 n0:0≤N
 n1:N≤2000000000
 b0:0≤rb
 b1:rb≤1000
 s0:0≤rs
 s1:rs<18446744073709551616
def Heads(l:List UInt8)(N rb rs:Int):Prop:=∃ N0 rb0 rs0 N1 rb1 rs1,ι l 0=qC0 N0 rb0 rs0∧ι l 1=qC0 N1 rb1 rs1∧HeadOk 0 N0 rb0 rs0∧HeadOk 1 N1 rb1 rs1∧((N1≤N0∧N=N0∧rb=rb0∧rs=rs0)∨(N0<N1∧N=N1∧rb=rb1∧rs=rs1))
theorem Heads.made{l:List UInt8}{i j:Nat}{N rb rs rb' rs':Int}(h1:ι l i=qC0 (N+1) rb rs)(h2:ι l j=qC0 (N+1+1) rb' rs')(hi:i<2)(hj:j<2)(o1:HeadOk i (N+1) rb rs)(o2:HeadOk j (N+1+1) rb' rs'):Heads l (N+1+1) rb' rs':=by
 have e1:=o1.place;have e2:=o2.place;have hc:(i=0∧j=1)∨(i=1∧j=0):=by omega
 rcases hc with⟨rfl,rfl⟩|⟨rfl,rfl⟩
 ·exact⟨_,_,_,_,_,_,h1,h2,o1,o2,.inr ⟨by omega,rfl,rfl,rfl⟩⟩
 ·exact⟨_,_,_,_,_,_,h2,h1,o2,o1,.inl ⟨by omega,rfl,rfl,rfl⟩⟩
theorem Heads.new{l:List UInt8}{N:Int}(h:Formatted l N):Heads l N 0 0:=by
 have:=h.even;have:=h.low;have:=h.high;exact⟨N,0,0,N-1,0,0,h.b0,h.b1,⟨by omega,by omega,by omega,by decide,by decide,by decide,by decide⟩,⟨by omega,by omega,by omega,by decide,by decide,by decide,by decide⟩,.inl ⟨by omega,rfl,rfl,rfl⟩⟩
end Go.Proofs.YtdohpenfkdckiabGreatDoor
namespace Go.Proofs.YtdohpenfkdckiabGreatDoor
open Go.Proofs.Tryz
open Go.RowKit
open Go.Maps (Keyed)
theorem xH2{lk:Int}{s s':Sto}(h:τ lk s=τ lk s'):s=s':=by
 cases s;cases s';simp[τ] at h;simp[h]
theorem zR7{α β:Type}{Q:α→β→Prop}:∀ (hs:List α),(∀ h∈hs,∃ r,Q h r)→∃ rs,Both Q hs rs
 | [],_=>⟨[],rfl,fun i h=>by simp at h⟩
 | h::hs,hq=>by
  obtain⟨r,hr⟩:=hq h (by simp);obtain⟨rs,h1,h2⟩:=zR7 hs fun x hx=>hq x (by simp[hx]);refine⟨r::rs,by simp[h1],fun i hi hi'=>?_⟩
  cases i with
  | zero=>exact hr
  | succ i=>exact h2 i (by simpa using hi) (by simpa using hi')
structure Shop(w:World)(kc db St A C N nM:Nat)(s:Sto)(D:DataW Unit)(l:List UInt8)(wr:Int)(nw:Root):Prop extends Shop0 w kc db St A C N nM s D l wr nw where
 heads:Heads l s.N s.rb s.rs
 kc1:kc≤900
section
variable {w:World} {kc db St A C N nM:Nat} {s:Sto} {D:DataW Unit} {l:List UInt8} {wr:Int} {nw:Root}
theorem Shop.hA(h:Shop w kc db St A C N nM s D l wr nw):∃ c,w.heap[A]?=some (χ (l.length / 128) N C (.slice none 0 0) c wr):=h.dev.hA
theorem Shop.AC(h:Shop w kc db St A C N nM s D l wr nw):C≠A:=by obtain⟨c,h1⟩:=h.hA;exact qB7 h.dev.hC h1 (by decide)
theorem Shop.VA(h:Shop w kc db St A C N nM s D l wr nw):s.V≠A:=by obtain⟨c,h1⟩:=h.hA;exact qB7 h.dev.hV h1 (by decide)
theorem Shop.VC(h:Shop w kc db St A C N nM s D l wr nw):s.V≠C:=qB7 h.dev.hV h.dev.hC (by decide)
theorem Shop.N1(h:Shop w kc db St A C N nM s D l wr nw):N≤1000:=by have:=h.N4;omega
abbrev Shop.E(h:Shop w kc db St A C N nM s D l wr nw):SEnv:=EL s.V A N C l wr h.N1 h.len h.AC h.VA
end
theorem LiveT.key{E:SEnv}{w:World}{x A n:Nat}{t:Tx}{s:Sto}{r:Root}(hL:LiveT E w x A n t s r):t.h.key=⟨#[]⟩:=by
 have:=hL.rr
 cases r with
 | none=>rw[show t.h=_ from this]
 | «at» n L=>exact this.1.trans hL.good.1
def TwoHeads(N:Nat)(l:List UInt8)(a b:List KV):Prop:=∃ N0 rb0 rs0 N1 rb1 rs1 r0 r1,ι l 0=qC0 N0 rb0 rs0∧ι l 1=qC0 N1 rb1 rs1∧HeadOk 0 N0 rb0 rs0∧HeadOk 1 N1 rb1 rs1∧Lie N l rb0 rs0 r0∧RGood r0∧Lie N l rb1 rs1 r1∧RGood r1∧((r0.cont=a∧r1.cont=b)∨(r0.cont=b∧r1.cont=a))
theorem TwoHeads.made{B:Nat}{l:List UInt8}{i j:Nat}{N rb rs rb' rs':Int}{r r':Root}(h1:ι l i=qC0 (N+1) rb rs)(h2:ι l j=qC0 (N+1+1) rb' rs')(hi:i<2)(hj:j<2)(o1:HeadOk i (N+1) rb rs)(o2:HeadOk j (N+1+1) rb' rs')(l1:Lie B l rb rs r)(g1:RGood r)(l2:Lie B l rb' rs' r')(g2:RGood r'):TwoHeads B l r.cont r'.cont:=by
 have e1:=o1.place;have e2:=o2.place;have hc:(i=0∧j=1)∨(i=1∧j=0):=by omega
 rcases hc with⟨rfl,rfl⟩|⟨rfl,rfl⟩
 ·exact⟨_,_,_,_,_,_,r,r',h1,h2,o1,o2,l1,g1,l2,g2,.inl ⟨rfl,rfl⟩⟩
 ·exact⟨_,_,_,_,_,_,r',r,h2,h1,o2,o1,l2,g2,l1,g1,.inr ⟨rfl,rfl⟩⟩
structure Thn(N:Nat)(D:DataW Unit)(l l':List UInt8)(nw r:Root):Prop where
 reads:∀ y rb rs r0,Maps.has D (qA4 y)=true→(∀ zd,D.atKey (qA4 y) zd=qF1 ⟨⟨#[]⟩,rb,rs,none⟩)→Lie N l rb rs r0→Lie N l' rb rs r0
 two:TwoHeads N l' nw.cont r.cont∨(l'=l∧nw.cont=r.cont)
theorem xG8{w:World}{kc db St A C N nM:Nat}{s:Sto}{D:DataW Unit}{l:List UInt8}{wr:Int}{nw:Root}(hS:Shop w kc db St A C N nM s D l wr nw)(x:Nat)(t:Tx)(r:Root)(hL:LiveT hS.E w x A N t s r)(hts:t.St=St)(hwr:t.wrt=true)(h0:0≤t.nr)(h1:t.nr≤1000000000)(heq:∀ W:World,Sem.run prog (Op.equalIn 10000 83 (φ s.V t.h) (φ s.V ⟨⟨#[]⟩,s.rb,s.rs,none⟩)) W=.ok false W)(hrk:r.cont.length≤kc)(hN9:s.N≤999999999)
  (hrdel:∀ k,Maps.has (D.del (qA4 t.nr)) k=true→Maps.has D k=true∧∀ zd,(D.del (qA4 t.nr)).atKey k zd=D.atKey k zd) (hsz:Maps.size (D.del (qA4 t.nr))≤4)
  (hfit:qB9 r+r.news+Maps.size (D.del (qA4 t.nr))*kc+qB9 nw+2≤N):
  Calls prog 14 #[.pointer (some ⟨x,0,none⟩)] w fun e w'=>e=.returned .nilIface∧∃ s' l' nt,Shop w' kc db St A C N nM s' (D.del (qA4 t.nr)) l' (nx (nk (nx wr) r.news)) nt∧nt.cont=r.cont∧s'.N=s.N+2∧s'.bg=s.bg∧s'.wr=(s.left t.nr).wr∧s'.V=s.V∧s'.M=s.M∧w'.heap[x]?=some (qA6 t.ended)∧Kp [St,x,s.M,A,C] w w'∧Thn N (D.del (qA4 t.nr)) l l' nw r:=by
 subst hts;obtain⟨cA,hA⟩:=hS.hA;have hMS:s.M≠t.St:=(qE6 hS.hSt hS.hM).symm;have hxS:=hL.xS;have hxM:x≠s.M:=qE6 hL.hx hS.hM;have hMs:s.M<w.heap.size:=hS.hM.lt;have hxA:x≠A:=qB7 hL.hx hA (by decide);have hxC:x≠C:=qB7 hL.hx hS.dev.hC (by decide);have hMA:s.M≠A:=(qE6 hA hS.hM).symm;have hMC:s.M≠C:=(qE6 hS.dev.hC hS.hM).symm;have hSA:t.St≠A:=qB7 hS.hSt hA (by decide);have hSC:t.St≠C:=qB7 hS.hSt hS.dev.hC (by decide);have hDS:db≠t.St:=qB7 hS.hDb hS.hSt (by decide);have hDA:db≠A:=qB7 hS.hDb hA (by decide);have hDC:db≠C:=qB7 hS.hDb hS.dev.hC (by decide);have hDx:db≠x:=qB7 hS.hDb hL.hx (by decide);have hDM:db≠s.M:=qE6 hS.hDb hS.hM;have hoff:OffD w [t.St,x,s.M]:=(OffD.one hL.hSt (by decide)).cons ((OffD.one hL.hx (by decide)).cons (fun k hk c ty fr e=>by rw[List.mem_singleton.1 hk] at e;exact absurd rfl (qE6 e hS.hM)));have hapt:Apt w [t.St,x,s.M] qF9:=(Apt.one hL.hSt (by decide)).cons ((Apt.one hL.hx (by decide)).cons (fun k hk c ty fr e=>by rw[List.mem_singleton.1 hk] at e;exact absurd rfl (qE6 e hS.hM)));have hkc:=hS.kc1;have hN8:=hS.N8;have hN4:=hS.N4;have hrt:∀ n l,r=.at n l→l.key=⟨#[]⟩:=fun n l e=>by have h:=hL.good;rw[e] at h;exact h.1
 have hnt:∀ n l,nw=.at n l→l.key=⟨#[]⟩:=fun n l e=>by have h:=hS.good;rw[e] at h;exact h.1
 have hbn:=hS.lie.bnd hS.N1;obtain⟨i,hi⟩:∃ i:Nat,(s.N+1) % 2=(i:Int):=⟨((s.N+1) % 2).toNat,by have:=hS.sN0;omega⟩;obtain⟨j,hj⟩:∃ j:Nat,(s.N+1+1) % 2=(j:Int):=⟨((s.N+1+1) % 2).toNat,by have:=hS.sN0;omega⟩;have hi2:i<2:=by have:=hS.sN0;omega
 have hj2:j<2:=by have:=hS.sN0;omega
 obtain⟨P,hPd⟩:∃ P:List HL→List Root→Prop,P=fun hs rs=>ReadH (D.del (qA4 t.nr)) hs∧Both (fun h r=>h.p=none∧h.key=⟨#[]⟩∧Lie N l h.b h.s r∧RGood r∧r.cont.length≤kc) hs rs:=⟨_,rfl⟩;have hP:∀ hs rs,P hs rs→ReadH (D.del (qA4 t.nr)) hs∧Both (fun h r=>h.p=none∧h.key=⟨#[]⟩∧Lie N l h.b h.s r∧RGood r∧r.cont.length≤kc) hs rs:=fun hs rs h=>by rw[hPd] at h;exact h
 have hlen1:N*128≤(qC8 l i (qC0 (s.N+1) s.rb s.rs)).length:=qV4 l _ i N (qL3 _ _ _) hS.len (by omega);have hrd:∀ hs rs,P hs rs→meas qB9 rs≤Maps.size (D.del (qA4 t.nr))*kc:=fun hs rs h=>by
  obtain⟨h1,h2,h3⟩:=hP hs rs h;have h4:∀ r∈rs,qB9 r≤kc:=fun r hr=>by
   obtain⟨k,hk,rfl⟩:=List.getElem_of_mem hr;obtain⟨_,_,_,g,g2⟩:=h3 k (by rw[h2];exact hk) hk;have:=qT3 g;by_cases e:rs[k].cont.length=0
   ·have:2*qB9 rs[k]≤1:=by omega
    omega
   ·omega
  have h5:∀ (rs:List Root),(∀ r∈rs,qB9 r≤kc)→meas qB9 rs≤rs.length*kc:=fun rs=>by
   induction rs with
   | nil=>intro _;simp[meas]
   | cons a rs ih=>
    intro h;have:=ih fun r hr=>h r (by simp[hr]);have:=h a (by simp);rw[qE0,List.length_cons,Nat.succ_mul];omega
  have h6:=h5 rs h4;have h7:rs.length*kc≤Maps.size (D.del (qA4 t.nr))*kc:=Nat.mul_le_mul_right _ (by rw[←h2];exact h1.len);omega
 have hfit2:∀ hs rs,P hs rs→r.news≤(qC4 N ((rs++[nw]).foldl qA8 (qA8 [] r))).length:=fun hs rs h=>by
  have g1:=xZ0 N ((rs++[nw]).foldl qA8 (qA8 [] r));have g2:=zO7 (rs++[nw]) (qA8 [] r);have g3:=zG0 [] r;have g4:=hrd hs rs h;rw[qF4] at g2;simp only[qE0,qC9,List.length_nil] at g2 g3;omega
 have hold:∀ hs rs,P hs rs→∀ u∈rs++[nw],∃ rb rs',Lie N l rb rs' u:=fun hs rs h u hu=>by
  obtain⟨h1,h2,h3⟩:=hP hs rs h;rcases List.mem_append.1 hu with hu|hu
  ·obtain⟨k,hk,rfl⟩:=List.getElem_of_mem hu;exact⟨_,_,(h3 k (by rw[h2];exact hk) hk).2.2.1⟩
  ·rw[List.mem_singleton.1 hu];exact⟨_,_,hS.lie⟩
 have hlies:∀ hs rs,P hs rs→∀ fr,fr=qC4 N ((rs++[nw]).foldl qA8 (qA8 [] r))→∃ nt:Root,Lie N (laidAll (qC8 l i (qC0 (s.N+1) s.rb s.rs)) (qC7 r fr).2) (qC7 r fr).1.b (qC7 r fr).1.s nt∧RGood nt∧nt.cont=r.cont∧(qC7 r fr).2.length=r.news∧(∀ u∈rs++[nw],∀ k∈qO4 u,ι (laidAll (qC8 l i (qC0 (s.N+1) s.rb s.rs)) (qC7 r fr).2) k=ι (qC8 l i (qC0 (s.N+1) s.rb s.rs)) k)∧(∀ k,k<2→ι (laidAll (qC8 l i (qC0 (s.N+1) s.rb s.rs)) (qC7 r fr).2) k=ι (qC8 l i (qC0 (s.N+1) s.rb s.rs)) k):=fun hs rs h fr hfr=>by
  refine jH3 hS.N1 hlen1 r (rs++[nw]) ?_ hL.good (by omega) (fun u hu=>?_) fr hfr (by rw[hfr];exact hfit2 hs rs h)
  ·exact jL3 (fun k hk=>qW5 l _ i k N (qL3 _ _ _) hS.len (by omega) (by omega)) (jO6 hL.rr)
  ·obtain⟨_,_,g⟩:=hold hs rs h u hu;exact (g.head hS.len (by omega) i hi2 _ _ _).old
 refine (xH6 x nM s.V t s D [A,C] (fun W w1=>∃ hs rs fr,P hs rs∧fr=qC4 N ((rs++[nw]).foldl qA8 (qA8 [] r))∧w1.heap[t.St]?=some (τ 1 ((s.left t.nr).cmt (qC7 r fr).1.b (qC7 r fr).1.s (((qA8 [] r).length+r.news:Nat):Int)))∧
   Devl s.V A N C (qC8 (laidAll (qC8 l i (qC0 (s.N+1) s.rb s.rs)) (qC7 r fr).2) j (qC0 (s.N+1+1) (qC7 r fr).1.b (qC7 r fr).1.s)) (nx (nk (nx wr) (qC7 r fr).2.length)) w1) w hL.hx hL.over hS.hSt hS.po hS.hM h0 h1 hMS hxS hxM hMs hL.on hwr (by simp only[List.mem_cons,List.not_mem_nil,or_false];rintro k (rfl | rfl);exact ζ hA;exact ζ hS.dev.hC) ?_).mono ?_
 ·intro W hK hx' hS' hM';refine (xT4 t.St A N C (s.left t.nr) t.h r nw l wr P W (by omega) hS.N1 hS.len hS.AC hS.VA hS.VC hS' (qD4 hS.dev hK hoff) (hL.rr.keepT hK hapt) hrt hL.good (by omega) (zL2 hL.good (by omega)) (hS.lie.rr hS.good W) hnt hS.sN0 hN9 hbn.1 hbn.2.1 hbn.2.2 heq ?_ ?_ i j hi hj).mono ?_
  ·intro W' hK';refine (jQ2 t.St nM 1 (s.left t.nr) (D.del (qA4 t.nr)) W' (hK'.hp hS') (hM'.kp hK' (by simp)) hsz).mono ?_;rintro e w' ⟨v,hs,e1,e2,e3,e4⟩;obtain⟨rs,hb⟩:=zR7 (Q:=fun h r=>h.p=none∧h.key=⟨#[]⟩∧Lie N l h.b h.s r∧RGood r∧r.cont.length≤kc) hs fun h hm=>by
    obtain⟨g1,y,g2,g3⟩:=e3.are h hm;obtain⟨f1,f2⟩:=hrdel _ g2;obtain⟨d1,u,d2⟩:=hS.rd y h f1 (fun zd=>(f2 zd).symm.trans (g3 zd)) g1;exact⟨u,g1,d1,d2⟩
   exact⟨v,hs,rs,e1,e2,by rw[hPd];exact⟨e3,hb⟩,e4⟩
  ·intro hs rs h;obtain⟨g1,g2,g3⟩:=hP hs rs h;obtain⟨nt,d1,d2,d3,_⟩:=hlies hs rs h _ rfl;have hb:=d1.bnd hS.N1;have hm:=hrd hs rs h;have hln:=g1.len;refine⟨g2,by omega,fun k k1 k2=>?_,?_,hfit2 hs rs h,hb.1,hb.2.1,hb.2.2⟩
   ·obtain⟨c1,c2,c3,c4,c5⟩:=g3 k k1 k2;refine⟨?_,fun n L e=>?_⟩
    ·have e:hs[k]=⟨⟨#[]⟩,hs[k].b,hs[k].s,none⟩:=by
      cases hx:hs[k];rw[hx] at c1 c2;simp only at c1 c2;rw[c1,c2]
     rw[e];exact c3.rr c4 W
    ·rw[e] at c4;exact c4.1
   ·rw[qF4,qE0,qC9];omega
  ·rintro e w1 ⟨rfl,hs,rs,fr,e1,e2,e3,e4,e5⟩;exact⟨rfl,⟨_,e3⟩,⟨hs,rs,fr,e1,e2,e3,e4⟩,e5⟩
 ·rintro e w' ⟨rfl,hKw,W,w1,B,s',hK,hx',hS',hM',⟨hs,rs,fr,e1,e2,e3,e4⟩,hKc,hs1,hs2,hB0,hB1,hKB⟩;obtain⟨nt,d1,d2,d3,d4,d5,d6⟩:=hlies hs rs e1 fr e2;have hse:s'=(s.left t.nr).cmt (qC7 r fr).1.b (qC7 r fr).1.s (((qA8 [] r).length+r.news:Nat):Int):=by
   rw[e3] at hs1;exact (xH2 (Option.some.inj hs1)).symm
  rw[d4] at e4;have hlen2:N*128≤(laidAll (qC8 l i (qC0 (s.N+1) s.rb s.rs)) (qC7 r fr).2).length:=zI2 N _ _ hlen1 (zI6 (zL2 hL.good (by omega)) (by rw[e2];exact hfit2 hs rs e1) (fun b hb=>by rw[e2] at hb;exact (zH4 b hb).2.1));have hBx:∀ k,k<w.heap.size→k≠B:=fun k hk=>by omega
  have hlt:=ζ hL.hx;have hKw':Kp [t.St,x,s.M,A,C] w w':=hKw;have hM1:RM w1 s.V s.M nM (D.del (qA4 t.nr)):=hM'.kp hKc (by simp[hMS,hMA,hMC]);have hbnew:∀ u,(∃ a b,Lie N l a b u)→(∀ k∈qO4 u,ι (laidAll (qC8 l i (qC0 (s.N+1) s.rb s.rs)) (qC7 r fr).2) k=ι (qC8 l i (qC0 (s.N+1) s.rb s.rs)) k)→∀ a b,Lie N l a b u→Lie N (qC8 (laidAll (qC8 l i (qC0 (s.N+1) s.rb s.rs)) (qC7 r fr).2) j (qC0 (s.N+1+1) (qC7 r fr).1.b (qC7 r fr).1.s)) a b u:=fun u _ hk a b hu=>
   (((hu.head hS.len (by omega) i hi2 _ _ _).move hk).head hlen2 (by omega) j hj2 _ _ _)
  refine⟨rfl,s',qC8 (laidAll (qC8 l i (qC0 (s.N+1) s.rb s.rs)) (qC7 r fr).2) j (qC0 (s.N+1+1) (qC7 r fr).1.b (qC7 r fr).1.s),nt,?_,d3,by rw[hse];show s.N+1+1=s.N+2;omega,by rw[hse];rfl,by rw[hse];rfl,by rw[hse];rfl,by rw[hse];rfl,?_,hKw',?_⟩
  ·refine { hDb:=hKw'.heap hS.hDb (by simp[hDS,hDx,hDM,hDA,hDC]),hSt:=hs2,po:=by rw[hse];exact hS.po,hM:=?_,m4:=hsz,n1:=hS.n1,dev:=?_,N8:=hS.N8,N4:=hS.N4,len:=qV4 _ _ j N (qL3 _ _ _) hlen2 (by omega),lie:=?_,good:=d2,heads:=?_,sz:=by rw[d3];exact hrk,kc1:=hS.kc1,bl0:=?_,bl1:=?_,sN0:=?_,bg0:=by rw[hse];exact hS.bg0,kb:=fun k hk=>by rw[hse];exact hS.kb k (hrdel k hk).1,rd:=?_ }
   ·rw[hse];exact hM1.kp hKB (by simp[hMS];omega)
   ·rw[hse];exact qD4 e4 hKB (qT8 hs1 hB1)
   ·rw[hse];exact d1.head hlen2 (by omega) j hj2 _ _ _
   ·rw[hse];show (0:Int)≤(((qA8 [] r).length+r.news:Nat):Int);exact Int.natCast_nonneg _
   ·rw[hse,d3];have g1:=zG0 [] r;have g2:=qT3 hL.good;have g3:=qT9 hL.good;show ((_:Nat):Int)≤_;simp only[List.length_nil] at g1;omega
   ·rw[hse];show 0≤s.N+1+1;have:=hS.sN0;omega
   ·intro y h g1 g2 g3;obtain⟨f1,f2⟩:=hrdel _ g1;obtain⟨c1,u,c2,c3,c4⟩:=hS.rd y h f1 (fun zd=>(f2 zd).symm.trans (g2 zd)) g3;obtain⟨a1,a2,a3⟩:=hP hs rs e1;obtain⟨h',hm',hp',ha'⟩:=a1.all _ g1;have hhe:h=h':=by
     have e:=(g2 (.lit (.int .i64 0))).symm.trans (ha' (.lit (.int .i64 0)));exact zE7 e g3 hp'
    subst hhe;obtain⟨k,hk,rfl⟩:=List.getElem_of_mem hm';have hk2:k<rs.length:=by rw[←a2];exact hk
    obtain⟨b1,b2,b3,b4,b5⟩:=a3 k hk hk2;exact⟨b2,rs[k],hbnew _ ⟨_,_,b3⟩ (d5 _ (List.mem_append_left _ (List.getElem_mem hk2))) _ _ b3,b4,b5⟩
   ·rw[hse];have hij:i≠j:=by omega
    have hb1:=d1.bnd hS.N1;show Heads _ (s.N+1+1) (qC7 r fr).1.b (qC7 r fr).1.s;refine Heads.made (N:=s.N) (i:=i) (j:=j) (rb:=s.rb) (rs:=s.rs) ?_ (qW6 _ _ j N (qL3 _ _ _) hlen2 (by omega)) hi2 hj2 ⟨hi,by have:=hS.sN0;omega,by omega,hbn.1,hbn.2.1,hbn.2.2,hS.lie.sum⟩ ⟨hj,by have:=hS.sN0;omega,by omega,hb1.1,hb1.2.1,hb1.2.2,d1.sum⟩;rw[qW5 _ _ j i N (qL3 _ _ _) hlen2 (by omega) hij,d6 i hi2,qW6 l _ i N (qL3 _ _ _) hS.len (by omega)]
  ·exact hKB.heap (hKc.heap hx' (by simp[hxS,hxA,hxC])) (by simp[hxS];omega)
  ·refine⟨fun y rb rs' r0 g1 g2 g3=>?_,.inl ?_⟩
   ·obtain⟨a1,a2,a3⟩:=hP hs rs e1;obtain⟨h',hm',hp',ha'⟩:=a1.all _ g1;have hhe:(⟨⟨#[]⟩,rb,rs',none⟩:HL)=h':=zE7 ((g2 (.lit (.int .i64 0))).symm.trans (ha' (.lit (.int .i64 0)))) rfl hp';obtain⟨k,hk,he⟩:=List.getElem_of_mem hm';have hk2:k<rs.length:=by rw[←a2];exact hk
    obtain⟨b1,b2,b3,b4,b5⟩:=a3 k hk hk2;rw[he,←hhe] at b3;refine hbnew _ ⟨_,_,g3⟩ (fun k' hk'=>d5 _ (List.mem_append_left _ (List.getElem_mem hk2)) k' ?_) _ _ g3;rw[(Lie.one hS.N1 b3 g3).2];exact hk'
   ·have hij:i≠j:=by omega
    have hb1:=d1.bnd hS.N1;rw[←d3];refine TwoHeads.made (N:=s.N) (i:=i) (j:=j) (rb:=s.rb) (rs:=s.rs) ?_ (qW6 _ _ j N (qL3 _ _ _) hlen2 (by omega)) hi2 hj2 ⟨hi,by have:=hS.sN0;omega,by omega,hbn.1,hbn.2.1,hbn.2.2,hS.lie.sum⟩ ⟨hj,by have:=hS.sN0;omega,by omega,hb1.1,hb1.2.1,hb1.2.2,d1.sum⟩ (hbnew nw ⟨_,_,hS.lie⟩ (d5 nw (by simp)) _ _ hS.lie) hS.good (d1.head hlen2 (by omega) j hj2 _ _ _) d2;rw[qW5 _ _ j i N (qL3 _ _ _) hlen2 (by omega) hij,d6 i hi2,qW6 l _ i N (qL3 _ _ _) hS.len (by omega)]
end Go.Proofs.YtdohpenfkdckiabGreatDoor
namespace Go.Proofs.YtdohpenfkdckiabGreatDoor
open Go.Proofs.Tryz
open Go.RowKit
theorem xU2(E:SEnv)(Tc Kc x:Nat)(t:Tx)(r:Root)(k:ByteArray)(w:World)(hTc:w.heap[Tc]?=some (.cells #[.pointer (some ⟨x,0,none⟩)] 29))(hKc:w.heap[Kc]?=some (.cells #[.string k] 9))(hx:w.heap[x]?=some (qA6 t))(hon:t.on=some ⟨E.V,0,none⟩)(hd:E.Dev w)(hrr:RR E.toEnv w t.h r)(hg:RGood r)(hsz:r.cont.length≤50000):
  Calls prog 52 #[.pointer (some ⟨Tc,0,none⟩),.pointer (some ⟨Kc,0,none⟩)] w fun e w'=>e=qD1 none∧∃ w1 h',E.To w w1∧RR E.toEnv w' h' (r.del k)∧w'.heap[x]?=some (qA6 { t with h:=h' })∧Kp [x] w1 w':=by
 have HD:=zh hd;have HRR:=zh hrr;have HG:=zh hg;have hxs:=ζ hx;clear hd hrr hg;go_enter func52,ntmps52;go_wp2_with fail;have hS0:w.heap[Tc]?=some (.cells #[.pointer (some ⟨x,0,none⟩)] 29)∧w.heap[Kc]?=some (.cells #[.string k] 9):=⟨hTc,hKc⟩;refine wp_region_held_drew (S:=fun W=>W.heap[Tc]?=some (.cells #[.pointer (some ⟨x,0,none⟩)] 29)∧W.heap[Kc]?=some (.cells #[.string k] 9)) (by kernel_rfl) hS0 (fun _=>?_);refine zV 0 (.pointer (some ⟨x,0,none⟩)) rfl (fun W hS=>by have c:=ξ hS.1 0;simp at c;clear hS;go_simp) hS0 ?_;refine zV 1 (.pointer (some ⟨x,0,none⟩)) rfl (fun W hS=>by have c:=ξ hS.1 0;simp at c;clear hS;go_simp) hS0 ?_;refine zP 2 x 0 hS0 ?_;refine zP 3 x 4 hS0 ?_;refine zV 5 (.string k) rfl (fun W hS=>by have c:=ξ hS.2 0;simp at c;clear hS;go_simp) hS0 ?_;have a4:=ξ hx 4;have a5:=ξ hx 5;have a6:=ξ hx 6;have a7:=ξ hx 7;have a8:=ξ hx 8;simp only[qA6,zG,zH,zI] at a4 a5 a6 a7 a8;rw[hon] at a4;refine zq 4 fun K hK=>?_;go_simp;clear a4 a5 a6 a7 a8;refine hK.out _ _ hS0 (fun _=>?_);clear hK K
 try simp only[zZ]
 refine zq 6 fun K hK=>?_;go_simp;have hTd:E.To w w.drew:=(Env.To.of0 HD.out (Kp.refl _ _)).tail ((Kp.refl _ _).drew);have hdl:=jQ8 E.toEnv r t.h k w.drew hTd.dev (HRR.out.to HD.out hTd) HG.out (by omega);rw[φ] at hdl;refine hdl.mono ?_;clear hdl;rintro e w1 ⟨h',rfl,hr1,hT1⟩;have hT1':=hTd.trans hT1;have hS1:=And.intro (E.stay HD.out hT1' hTc (by decide)) (E.stay HD.out hT1' hKc (by decide));have hx1:=E.stay HD.out hT1' hx (by decide);have hx1s:=ζ hx1;refine hK.out _ _ hS1 (fun _=>?_);clear hK K
 try simp only[zZ]
 refine zP 7 x 0 hS1 ?_;refine zP 8 x 4 hS1 ?_;have a4:=ξ hx1;simp only[qA6,zG,zH,zI] at a4;have f4:=ρ hx1;rw[φ];refine zq 9 fun K hK=>?_;go_simp;have hts:=qY7 (.pointer (some ⟨E.V,0,none⟩)) (.string h'.key) (.int .i64 h'.b) (.int .u64 h'.s) (.pointer h'.ptr) hx1;obtain⟨w2,hw2,hx2,hK2⟩:∃ w2,w2=((((w1.setCell ⟨x,4,none⟩ (.pointer (some ⟨E.V,0,none⟩))).setCell ⟨x,5,none⟩ (.string h'.key)).setCell ⟨x,6,none⟩ (.int .i64 h'.b)).setCell ⟨x,7,none⟩ (.int .u64 h'.s)).setCell ⟨x,8,none⟩ (.pointer h'.ptr)∧w2.heap[x]?=some (qA6 { t with h:=h' })∧Kp [x] w1 w2:=⟨_,rfl,by rw[hts.1,qA6,hon],hts.2⟩;rw[←hw2];clear hw2 hts a4 f4;have hS2:=And.intro (hK2.heap hS1.1 (by simp;exact qB7 hS1.1 hx1 (by decide))) (hK2.heap hS1.2 (by simp;exact qB7 hS1.2 hx1 (by decide)));refine hK.out _ _ hS2 (fun _=>?_);clear hK K
 try simp only[zZ]
 refine zd ?_;have HF:Hid (E.To w w1∧RR E.toEnv w2 h' (r.del k)∧w2.heap[x]?=some (qA6 { t with h:=h' })∧Kp [x] w1 w2):=⟨hT1',hr1.keepT hK2 (Apt.one hx1 (by decide)),hx2,hK2⟩;clear hS2 hS1 hS0 hx2 hx1 hr1 hT1 hT1' hTd hK2;go_wp2
 go_end0
 exact⟨rfl,w1,h',HF.out⟩
theorem xS8(args:Array Value)(W:World):Sem.run prog (callFunc 52 args) W=.ok (.enter 52 args) W:=by
 simp[go_sem,func52]
theorem xU3(E:SEnv)(x A n:Nat)(t:Tx)(s:Sto)(r:Root)(k:ByteArray)(w:World)(hL:LiveT E w x A n t s r)(hwr:t.wrt=true)(hk:qQ7 k=true):
  Calls prog 27 #[.pointer (some ⟨x,0,none⟩),.string k] w fun e w'=>e=.returned .nilIface∧∃ h',FineT E w w' x t s (r.del k) h':=by
 have HL:=zh hL;have HKK:Hid (1≤k.size∧k.size≤8):=(zF3 k).1 hk;have hxs:=ζ hL.hx;have hSs:=ζ hL.hSt;clear hL hk;have hmf:=zM;go_enter func27,ntmps27;go_wp2_with fail;obtain⟨w0,hw0,hT0,hK0,hKp0,hs0⟩:∃ w0,w0=(w.alloc (.cells #[.pointer (some ⟨x,0,none⟩)] 29)).alloc (.cells #[.string k] 9)∧w0.heap[w.heap.size]?=some (.cells #[.pointer (some ⟨x,0,none⟩)] 29)∧w0.heap[w.heap.size+1]?=some (.cells #[.string k] 9)∧Kp [] w w0∧w0.heap.size=w.heap.size+2:=by
  refine⟨_,rfl,θ _ (μ _ _),?_,((Kp.refl _ _).alloc _).alloc _,by simp⟩;have e:=μ (w.alloc (.cells #[.pointer (some ⟨x,0,none⟩)] 29)) (.cells #[.string k] 9);simpa using e
 rw[←hw0];clear hw0;refine (zR5 E x A n 52 t s r (r.del k) k _ #[] #[.pointer (some ⟨w.heap.size,0,none⟩),.pointer (some ⟨w.heap.size+1,0,none⟩)] w0 (HL.out.more hKp0) hwr HKK.out.1 HKK.out.2 (xS8 _) ?_).mono ?_
 ·intro W hK hd hx hS hV hrr;exact xU2 E w.heap.size (w.heap.size+1) x t r k W (hK.ho hT0) (hK.ho hK0) hx HL.out.on hd hrr HL.out.good HL.out.sz
 ·rintro e w1 ⟨rfl,h',hF⟩;have HF:Hid (FineT E w w1 x t s (r.del k) h'):=hF.from hKp0;clear hF;go_wp2;go_ret;exact⟨rfl,h',HF.out⟩
theorem jB5{p q:KV}{l:List KV}(h:q∈l)(hne:q.k≠p.k):q∈ins p l:=by
 simp only[ins,List.mem_append,List.mem_cons,List.mem_filter];have h1:q∈l.takeWhile (fun q=>kl q.k p.k)++l.dropWhile (fun q=>kl q.k p.k):=by rw[List.takeWhile_append_dropWhile];exact h
 rcases List.mem_append.1 h1 with h2|h2
 ·exact .inl h2
 ·exact .inr (.inr ⟨h2,by simp[hne]⟩)
structure Chd(E:SEnv)(w:World)(x A n:Nat)(t:Tx)(s:Sto)(r:Root)(j:Nat)(w':World)(t':Tx)(r':Root):Prop where
 live:LiveT E w' x A n t' s r'
 st:t'.St=t.St
 nr:t'.nr=t.nr
 wrt:t'.wrt=t.wrt
 ch:t'.ch≤t.ch+j
 len:r'.cont.length≤r.cont.length+j
 keep:∀ p∈r.cont,p.k=qG7→p∈r'.cont
 kp:Kp (t.St::x::E.S) w w'
theorem jD3(E:SEnv)(x A n:Nat)(t:Tx)(s:Sto)(r:Root)(a:Int)(m:Nat)(w:World)(hL:LiveT E w x A n t s r)(hwr:t.wrt=true)(ha0:-9223372036854775808≤a)(ha1:a≤9223372036854775807)(hm:m≤1000)(hr:r.cont.length≤1000)(hch:t.ch≤10000000)
  (hroom:∀ r':Root,RGood r'→r'.cont.length≤r.cont.length+m→(r'.news:Int)≤(n:Int)-2-s.bl):
  Calls prog 37 #[.pointer (some ⟨x,0,none⟩),.int .i64 a,.int .i64 m,.int .i64 20] w fun e w'=>e=.returned (.bool true)∧∃ t' r',Chd E w x A n t s r m w' t' r':=by
 have HROOM:=zh hroom;have H0:Hid (Chd E w x A n t s r 0 w t r):=⟨hL,rfl,rfl,rfl,by omega,by omega,fun _ h _=>h,Kp.refl _ _⟩;clear hroom hL;go_enter func37,ntmps37;go_wp2_with fail;refine (zF4 a 2147483648 ha0 ha1 (by omega) (by omega) w).mono ?_;rintro e w1 ⟨⟨v0,rfl,hv0,hv1⟩,rfl⟩;go_wp2_with fail
 go_loopw [9,10] (fun v i wr=>∃ (j:Nat) (vi:Int) (t':Tx) (r':Root),j≤m∧i=.int .i64 j∧v=.int .i64 vi∧0≤vi∧vi<2147483648∧Hid (Chd E w1 x A n t s r j wr t' r')) (fun _ i _=>m-(intOf i).toNat)
 case atStart=>exact⟨0,v0,t,r,Nat.zero_le _,rfl,rfl,hv0,hv1,H0⟩
 case round=>
  obtain⟨j,vi,t',r',hjm,rfl,rfl,hi0,hi1,HC⟩:=hrel;by_cases hlt:j<m
  ·have hjb:(j:Int)<(m:Int):=by omega
   go_wp2_with fail;refine (jG2 vi hi0 hi1 wr).mono ?_;rintro e w2 ⟨⟨u,rfl,hu0,hu1⟩,rfl⟩;go_wp2_with fail;refine (jF6 _ (by omega) (by omega) w2).mono ?_;rintro e w3 ⟨⟨k,rfl,hk1,hk8,hkf⟩,hK3⟩;have hl:=HC.out.live.more hK3;have hwr':t'.wrt=true:=HC.out.wrt.trans hwr;have hxs:=HC.out.live.xS;have hsum:=HC.out.len;have hcs:=HC.out.ch;have HK3:Hid (Kp (t.St::x::E.S) w1 w3):=HC.out.kp.tr hK3;have HLV:=zh hl;have HT:Hid (t'.St=t.St∧t'.nr=t.nr):=⟨HC.out.st,HC.out.nr⟩;have HFIN:Hid (∀ (w4:World) (r4:Root) (h4:HL),FineT E w3 w4 x t' s r4 h4→RGood r4→r4.cont.length≤r'.cont.length+1→(∀ p∈r'.cont,p.k=qG7→p∈r4.cont)→Chd E w1 x A n t s r (j+1) w4 { t' with h:=h4,ch:=t'.ch+1 } r4):=fun w4 r4 h4 hF hg hz hkp=>
    ⟨HLV.out.next hF hg (by omega) (by omega),HT.out.1,HT.out.2,hwr'.trans hwr.symm,by show t'.ch+1≤_;omega,by omega,fun p h1 h2=>hkp p (HC.out.keep p h1 h2) h2,HK3.out.trans hF.kp (fun i hi _=>by rw[HT.out.1] at hi;exact hi)⟩
   clear hl hxs hsum hcs hK3;by_cases hd:u / 4 % 4=0
   ·have HD:Hid (Calls prog 27 #[.pointer (some ⟨x,0,none⟩),.string k] w3 fun e w'=>e=.returned .nilIface∧∃ h',FineT E w3 w' x t' s (r'.del k) h'):=xU3 E x A n t' s r' k w3 HLV.out hwr' ((zF3 k).2 ⟨hk1,hk8⟩);have HG:Hid (RGood (r'.del k)∧(r'.del k).cont.length≤r'.cont.length+1∧∀ p∈r'.cont,p.k=qG7→p∈(r'.del k).cont):=by
     obtain⟨g1,g2⟩:=xU4 (k:=k) HLV.out.good;exact⟨g1,by rw[g2];have:=xU5 k r'.cont;omega,fun p hp hf=>by rw[g2];exact qX9.2 ⟨hp,by rw[hf];exact hkf.symm⟩⟩
    go_wp2_with fail;refine (show Calls _ _ _ _ _ from HD.out).mono ?_;rintro e w4 ⟨rfl,h4,hF⟩;have HE:=Hid.mk' (HFIN.out w4 _ h4 hF HG.out.1 HG.out.2.1 HG.out.2.2);clear hF;go_wp2;exact⟨⟨j+1,u,_,_,by omega,by go_num,rfl,hu0,hu1,HE⟩,by simp[intOf];omega⟩
   ·go_wp2_with fail;refine (jG5 _ (by omega) (by omega) w3).mono ?_;rintro e w4 ⟨⟨val,rfl,hval⟩,rfl⟩;have HG:Hid (RGood (r'.put ⟨k,val⟩)∧(r'.put ⟨k,val⟩).cont.length≤r'.cont.length+1∧∀ p∈r'.cont,p.k=qG7→p∈(r'.put ⟨k,val⟩).cont):=by
     obtain⟨g1,g2⟩:=qO9 (p:=⟨k,val⟩) HLV.out.good ⟨hk1,hk8,hval⟩;exact⟨g1,by rw[g2];exact qN5 _ _,fun p hp hf=>by rw[g2];exact jB5 hp (by rw[hf];exact hkf.symm)⟩
    have HD:Hid (Calls prog 28 #[.pointer (some ⟨x,0,none⟩),.string k,.string val] w4 fun e w'=>e=.returned .nilIface∧∃ h',FineT E w4 w' x t' s (r'.put ⟨k,val⟩) h'):=zN6 E x A n t' s r' ⟨k,val⟩ w4 HLV.out hwr' ⟨hk1,hk8,hval⟩ (HROOM.out _ HG.out.1 (by have:=HG.out.2.1;have:=HC.out.len;omega));go_wp2_with fail;refine (show Calls _ _ _ _ _ from HD.out).mono ?_;rintro e w5 ⟨rfl,h4,hF⟩;have HE:=Hid.mk' (HFIN.out w5 _ h4 hF HG.out.1 HG.out.2.1 HG.out.2.2);clear hF;go_wp2;exact⟨⟨j+1,u,_,_,by omega,by go_num,rfl,hu0,hu1,HE⟩,by simp[intOf];omega⟩
  ·have hjb:¬(j:Int)<(m:Int):=by omega
   have hjm':j=m:=by omega
   subst hjm';go_wp2;go_ret;exact⟨rfl,t',r',HC.out⟩
end Go.Proofs.YtdohpenfkdckiabGreatDoor
namespace Go.Proofs.YtdohpenfkdckiabGreatDoor
open Go.Proofs.Tryz
open Go.RowKit
open Go.Maps (Keyed)
section
variable {w:World} {kc db St A C N nM:Nat} {s:Sto} {D:DataW Unit} {l:List UInt8} {wr:Int} {nw:Root}
theorem Shop.turn(hS:Shop w kc db St A C N nM s D l wr nw){w':World}{L:List Nat}(hK:Kp L w w')(hdb:db ∉ L)(hdev:Devl s.V A N C l wr w'){s':Sto}{nM':Nat}{D':DataW Unit}(e:s'.V=s.V∧s'.N=s.N∧s'.rb=s.rb∧s'.rs=s.rs∧s'.bl=s.bl∧s'.po=s.po)
  (hSt:w'.heap[St]?=some (τ 0 s')) (hM:RM w' s'.V s'.M nM' D') (m4:Maps.size D'≤4) (n1:nM'≤1000000) (bg0:0≤s'.bg) (kb:∀ k,Maps.has D' k=true→∃ x,k=qA4 x∧1≤x∧x≤s'.bg)
  (rd:∀ x h,Maps.has D' (qA4 x)=true→(∀ zd,D'.atKey (qA4 x) zd=qF1 h)→h.p=none→h.key=⟨#[]⟩∧∃ r,Lie N l h.b h.s r∧RGood r∧r.cont.length≤kc):Shop w' kc db St A C N nM' s' D' l wr nw:=by
 obtain⟨e1,e2,e3,e4,e5,e6⟩:=e;exact { hDb:=hK.heap hS.hDb hdb,hSt:=hSt,po:=by rw[e6];exact hS.po,hM:=hM,m4:=m4,n1:=n1,dev:=by rw[e1];exact hdev,N8:=hS.N8,N4:=hS.N4,len:=hS.len,lie:=by rw[e3,e4];exact hS.lie,good:=hS.good,heads:=by rw[e2,e3,e4];exact hS.heads,kc1:=hS.kc1,sz:=hS.sz,bl0:=by rw[e5];exact hS.bl0,bl1:=by rw[e5];exact hS.bl1,sN0:=by rw[e2];exact hS.sN0,bg0:=bg0,kb:=kb,rd:=rd }
theorem Shop.neDb(hS:Shop w kc db St A C N nM s D l wr nw):db≠St∧db≠A∧db≠C∧db≠s.M:=by
 obtain⟨c,h⟩:=hS.hA;exact⟨qB7 hS.hDb hS.hSt (by decide),qB7 hS.hDb h (by decide),qB7 hS.hDb hS.dev.hC (by decide),qE6 hS.hDb hS.hM⟩
theorem Shop.quiet(hS:Shop w kc db St A C N nM s D l wr nw){w':World}{x:Nat}{c:Array Value}(hx:w.heap[x]?=some (.cells c 85))(hK:Kp [St,x,A] w w')(hdev:Devl s.V A N C l wr w')(hSt:w'.heap[St]?=some (τ 0 s)):Shop w' kc db St A C N nM s D l wr nw:=by
 obtain⟨n1,n2,n3,n4⟩:=hS.neDb;obtain⟨cA,hA⟩:=hS.hA;have h1:s.M≠St:=(qE6 hS.hSt hS.hM).symm;have h2:s.M≠x:=(qE6 hx hS.hM).symm;have h3:s.M≠A:=(qE6 hA hS.hM).symm;exact hS.turn hK (by simp[n1,n2];exact qB7 hS.hDb hx (by decide)) hdev ⟨rfl,rfl,rfl,rfl,rfl,rfl⟩ hSt (hS.hM.kp hK (by simp[h1,h2,h3])) hS.m4 hS.n1 hS.bg0 hS.kb hS.rd
theorem Shop.live(hS:Shop w kc db St A C N nM s D l wr nw){x:Nat}{t:Tx}(hx:w.heap[x]?=some (qA6 t))(ho:t.over=false)(hon:t.on=some ⟨s.V,0,none⟩)(hst:t.St=St)(hh:t.h=⟨⟨#[]⟩,s.rb,s.rs,none⟩)(hc:t.ch=0):LiveT hS.E w x A N t s nw:=
 { hx:=hx,over:=ho,on:=hon,hSt:=by rw[hst];exact hS.hSt,po:=hS.po,sV:=rfl,hV:=hS.dev.hV,n1:=hS.N1,bl0:=hS.bl0,bl1:=by have:=hS.bl1;have:=hS.sz;have:=hS.kc1;omega,dev:=hS.dev,vS:=by show s.V ∉ [A];simpa using hS.VA,rr:=by rw[hh];exact hS.lie.rr hS.good w,good:=hS.good,sz:=by have:=hS.sz;have:=hS.kc1;omega,ch0:=by omega,ch1:=by omega }
theorem Shop.beginW(hS:Shop w kc db St A C N nM s D l wr nw)(hw:s.wr=0)(hbg:s.bg≤100000000):
  Calls prog 22 #[.pointer (some ⟨db,0,none⟩),.bool true] w fun e w'=>∃ x t,e=.returned (.tuple #[.pointer (some ⟨x,0,none⟩),.nilIface])∧w.heap.size≤x∧t.St=St∧t.nr=s.bg+1∧t.wrt=true∧t.ch=0∧Kp [St] w w'∧∃ hS':Shop w' kc db St A C N nM s.wrote D l wr nw,LiveT hS'.E w' x A N t s.wrote nw:=by
 obtain⟨n1,n2,n3,n4⟩:=hS.neDb;have h1:s.M≠St:=(qE6 hS.hSt hS.hM).symm;refine (xJ5 db St nM s D w hS.hDb hS.hSt hS.hM hS.po n1 h1 hS.hM.lt hw hS.bg0 hbg).mono ?_;rintro e w' ⟨x,rfl,hxs,hx,hSt,hM,hK⟩;have hS':Shop w' kc db St A C N nM s.wrote D l wr nw:=hS.turn hK (by simpa using n1) (qD4 hS.dev hK (OffD.one hS.hSt (by decide))) ⟨rfl,rfl,rfl,rfl,rfl,rfl⟩ hSt hM hS.m4 hS.n1 (by show 0≤s.bg+1;have:=hS.bg0;omega) (fun k hk=>by obtain⟨y,e1,e2,e3⟩:=hS.kb k hk;exact⟨y,e1,e2,by show y≤s.bg+1;omega⟩) hS.rd;exact⟨x,_,rfl,hxs,rfl,rfl,rfl,rfl,hK,hS',hS'.live hx rfl rfl rfl rfl rfl⟩
theorem Shop.beginR(hS:Shop w kc db St A C N nM s D l wr nw)(h4:Maps.size D<4)(hnM:nM≤999999)(hbg:s.bg≤100000000):
  Calls prog 22 #[.pointer (some ⟨db,0,none⟩),.bool false] w fun e w'=>∃ x t D',e=.returned (.tuple #[.pointer (some ⟨x,0,none⟩),.nilIface])∧w.heap.size≤x∧t.St=St∧t.nr=s.bg+1∧t.wrt=false∧t.ch=0∧Kp [St,s.M] w w'∧D'=D.put (qA4 (s.bg+1)) (qF1 ⟨⟨#[]⟩,s.rb,s.rs,none⟩)∧∃ hS':Shop w' kc db St A C N (nM+1) s.read D' l wr nw,LiveT hS'.E w' x A N t s.read nw:=by
 obtain⟨n1,n2,n3,n4⟩:=hS.neDb;have h1:s.M≠St:=(qE6 hS.hSt hS.hM).symm;refine (zP9 db St nM s D w hS.hDb hS.hSt hS.hM hS.po n1 h1 n4 hS.hM.lt h4 (by omega) hS.bg0 hbg).mono ?_;rintro e w' ⟨x,rfl,hxs,hx,hSt,hM,hK⟩;have hoff:OffD w [St,s.M]:=(OffD.one hS.hSt (by decide)).cons (fun k hk c ty fr e=>by rw[List.mem_singleton.1 hk] at e;exact absurd rfl (qE6 e hS.hM));have hno:Maps.has D (qA4 (s.bg+1))=false:=by
  cases hh:Maps.has D (qA4 (s.bg+1)) with
  | false=>rfl
  | true=>obtain⟨y,e1,e2,e3⟩:=hS.kb _ hh;cases e1;omega
 have htd:=hS.hM.tidy qM9;have hS':Shop w' kc db St A C N (nM+1) s.read (D.put (qA4 (s.bg+1)) (qF1 ⟨⟨#[]⟩,s.rb,s.rs,none⟩)) l wr nw:=by
  refine hS.turn hK (by simp[n1,n4]) (qD4 hS.dev hK hoff) ⟨rfl,rfl,rfl,rfl,rfl,rfl⟩ hSt hM ?_ (by omega) (by show 0≤s.bg+1;have:=hS.bg0;omega) (fun k hk=>?_) (fun y h g1 g2 g3=>?_)
  ·rw[Maps.size_put htd,if_neg (by simp[hno])];omega
  ·by_cases e:k=qA4 (s.bg+1)
   ·exact⟨s.bg+1,e,by have:=hS.bg0;omega,Int.le_refl _⟩
   ·rw[Maps.has_put_other e] at hk;obtain⟨y,e1,e2,e3⟩:=hS.kb k hk;exact⟨y,e1,e2,by show y≤s.bg+1;omega⟩
  ·by_cases e:qA4 y=qA4 (s.bg+1)
   ·rw[e] at g2;have g4:=g2 (.lit (.int .i64 0));rw[Maps.atKey_put_same htd.isMap (show WideAt.IsKeyLit (qA4 _) from trivial)] at g4;have g5:=zE7 g4.symm g3 rfl;rw[g5];exact⟨rfl,nw,hS.lie,hS.good,hS.sz⟩
   ·rw[Maps.has_put_other e] at g1;exact hS.rd y h g1 (fun zd=>by rw[←g2 zd,Maps.atKey_put_other e]) g3
 exact⟨x,_,_,rfl,hxs,rfl,rfl,rfl,rfl,hK,rfl,hS',hS'.live hx rfl rfl rfl rfl rfl⟩
theorem Shop.abort(hS:Shop w kc db St A C N nM s D l wr nw){x:Nat}{t:Tx}{r:Root}(hL:LiveT hS.E w x A N t s r)(hst:t.St=St)(h0:0≤t.nr)(h1:t.nr≤1000000000):
  Calls prog 29 #[.pointer (some ⟨x,0,none⟩)] w fun e w'=>e=.returned .nilIface∧w'.heap[x]?=some (qA6 t.ended)∧Shop w' kc db St A C N nM (s.left t.nr) (D.del (qA4 t.nr)) l wr nw∧Kp [St,x,s.M] w w':=by
 subst hst;obtain⟨n1,n2,n3,n4⟩:=hS.neDb;have hMS:s.M≠t.St:=(qE6 hS.hSt hS.hM).symm;have hxM:x≠s.M:=qE6 hL.hx hS.hM;have hoff:OffD w [t.St,x,s.M]:=(OffD.one hL.hSt (by decide)).cons ((OffD.one hL.hx (by decide)).cons (fun k hk c ty fr e=>by rw[List.mem_singleton.1 hk] at e;exact absurd rfl (qE6 e hS.hM)));refine (zO6 x nM t s D w hL.hx hL.over hS.hSt hS.po hS.hM h0 h1 hMS hL.xS hxM hS.hM.lt).mono ?_;rintro e w' ⟨rfl,hx,hSt,hM,hK⟩;have htd:=hS.hM.tidy qM9;refine⟨rfl,hx,hS.turn hK (by simp[n1,n4];exact qB7 hS.hDb hL.hx (by decide)) (qD4 hS.dev hK hoff) ⟨rfl,rfl,rfl,rfl,rfl,rfl⟩ hSt hM ?_ hS.n1 hS.bg0 (fun k hk=>?_) (fun y h g1 g2 g3=>?_),hK⟩
 ·have:=Maps.size_del (k:=qA4 t.nr) htd;have:=hS.m4;omega
 ·by_cases e:k=qA4 t.nr
  ·rw[e,Maps.has_del_same] at hk;cases hk
  ·rw[Maps.has_del_other e] at hk;exact hS.kb k hk
 ·by_cases e:qA4 y=qA4 t.nr
  ·rw[e,Maps.has_del_same] at g1;cases g1
  ·rw[Maps.has_del_other e] at g1;exact hS.rd y h g1 (fun zd=>by rw[←g2 zd,Maps.atKey_del_other e]) g3
theorem Shop.commit(hS:Shop w kc db St A C N nM s D l wr nw){x q:Nat}{t:Tx}{r:Root}(hL:LiveT hS.E w x A N t s r)(hst:t.St=St)(hwr:t.wrt=true)(h0:0≤t.nr)(h1:t.nr≤1000000000)(hp:t.h.p=some q)(hrk:r.cont.length≤kc)(hN9:s.N≤999999999)
  (hfit:qB9 r+r.news+Maps.size D*kc+qB9 nw+2≤N):
  Calls prog 14 #[.pointer (some ⟨x,0,none⟩)] w fun e w'=>e=.returned .nilIface∧∃ s' l' nt,Shop w' kc db St A C N nM s' (D.del (qA4 t.nr)) l' (nx (nk (nx wr) r.news)) nt∧nt.cont=r.cont∧s'.N=s.N+2∧s'.bg=s.bg∧s'.wr=(s.left t.nr).wr∧s'.V=s.V∧s'.M=s.M∧w'.heap[x]?=some (qA6 t.ended)∧Kp [St,x,s.M,A,C] w w'∧Thn N (D.del (qA4 t.nr)) l l' nw r:=by
 have htd:=hS.hM.tidy qM9;have hsd:=Maps.size_del (k:=qA4 t.nr) htd;have hle:Maps.size (D.del (qA4 t.nr))≤Maps.size D:=by omega
 refine xG8 hS x t r hL hst hwr h0 h1 (fun W=>xI1 s.V q t.h s.rb s.rs hp hL.key W) hrk hN9 (fun k hk=>?_) (by have:=hS.m4;omega) (by have:=Nat.mul_le_mul_right kc hle;omega);by_cases e:k=qA4 t.nr
 ·rw[e,Maps.has_del_same] at hk;cases hk
 ·rw[Maps.has_del_other e] at hk;exact⟨hk,fun zd=>Maps.atKey_del_other e zd⟩
end
end Go.Proofs.YtdohpenfkdckiabGreatDoor
namespace Go.Proofs.YtdohpenfkdckiabGreatDoor
open Go.Proofs.Tryz
open Go.RowKit
theorem jG4(ba bb:Nat)(va vb:Value)(ps:List KV)(w:World)(ha:OPA w ba va ps)(hb:OPA w bb vb ps)(hn:ps.length≤1000000):
  Calls prog 18 #[va,vb] w fun e w'=>e=.returned (.bool true)∧Kp [] w w':=by
 have sa:=qG3 ha;have sb:=qG3 hb;obtain⟨abs,acp,rfl⟩:=qL0 ha;obtain⟨bbs,bcp,rfl⟩:=qL0 hb;obtain⟨ln,hln⟩:∃ ln,ln=ps.length:=⟨_,rfl⟩;have HA:Hid (Slc w 64 2 (.slice abs ln acp) ps.length (qA9 ps)):=by rw[hln];exact sa
 have HB:Hid (Slc w 64 2 (.slice bbs ln bcp) ps.length (qA9 ps)):=by rw[hln];exact sb
 have HLN:=zh hln;rw[←hln] at hn ⊢;clear ha hb sa sb hln;go_enter func18,ntmps18;go_wp2_with fail
 go_loopw [5] (fun i wr=>∃ (j:Nat),j≤ln∧i=.int .i64 j∧Hid (Kp [] w wr)) (fun i _=>ln-(intOf i).toNat)
 case atStart=>exact⟨0,Nat.zero_le _,rfl,Kp.refl _ _⟩
 case round=>
  obtain⟨j,hj,rfl,HK⟩:=hrel;by_cases hlt:j<ln
  ·have hjb:(j:Int)<(ln:Int):=by omega
   have hjp:j<ps.length:=by have:=HLN.out;omega
   obtain⟨ga,oa,ca,cua,fra,e1,e2,e3,e4⟩:=(HA.out.keep0 HK.out).pairT (by omega);obtain⟨gb,ob,cb,cub,frb,f1,f2,f3,f4⟩:=(HB.out.keep0 HK.out).pairT (by omega);cases e1;cases f1;have a0:=ξ e3 (oa+j*2);rw[(e4 j hjp).1] at a0;have a1:=ξ e3 (oa+j*2+1);rw[(e4 j hjp).2] at a1;have b0:=ξ f3 (ob+j*2);rw[(f4 j hjp).1] at b0;have b1:=ξ f3 (ob+j*2+1);rw[(f4 j hjp).2] at b1;have hga:=ζ e3;have hgb:=ζ f3;clear e3 f3 e4 f4;go_wp2_with fail
   go_quiet (fail)
   go_wp2;exact⟨⟨j+1,by omega,by go_num,HK.out.drewN _⟩,by simp[intOf];omega⟩
  ·have hjb:¬(j:Int)<(ln:Int):=by omega
   go_wp2;go_ret;exact⟨rfl,HK.out⟩
section
variable {w:World} {kc db St A C N nM:Nat} {s:Sto} {D:DataW Unit} {l:List UInt8} {wr:Int} {nw:Root}
theorem jG3(hS:Shop w kc db St A C N nM s D l wr nw)(h4:Maps.size D<4)(hnM:nM≤999999)(hbg:s.bg≤100000000)(hwb:s.wr≤s.bg):
  Calls prog 17 #[.pointer (some ⟨db,0,none⟩)] w fun e w'=>∃ v,e=.returned (.tuple #[v,.bool true])∧OPA w' w.heap.size v (qB5 nw.cont)∧Shop w' kc db St A C N (nM+1) s.read ((D.put (qA4 (s.bg+1)) (qF1 ⟨⟨#[]⟩,s.rb,s.rs,none⟩)).del (qA4 (s.bg+1))) l wr nw∧Kp [St,s.M,A] w w':=by
 have HB:Hid (Calls prog 22 #[.pointer (some ⟨db,0,none⟩),.bool false] w fun e w'=>∃ x t D',e=.returned (.tuple #[.pointer (some ⟨x,0,none⟩),.nilIface])∧w.heap.size≤x∧t.St=St∧t.nr=s.bg+1∧t.wrt=false∧t.ch=0∧Kp [St,s.M] w w'∧D'=D.put (qA4 (s.bg+1)) (qF1 ⟨⟨#[]⟩,s.rb,s.rs,none⟩)∧∃ hS':Shop w' kc db St A C N (nM+1) s.read D' l wr nw,LiveT hS'.E w' x A N t s.read nw):=hS.beginR h4 hnM hbg;have hbg0:=hS.bg0;obtain⟨cA,hA⟩:=hS.hA;have hAs:=ζ hA;clear hS hA;go_enter func17,ntmps17;go_wp2_with fail;refine (show Calls _ _ _ _ _ from HB.out).mono ?_;rintro e w1 ⟨x,t,D',rfl,hx,ht1,ht2,ht3,ht4,hK1,rfl,hS1,hL1⟩;have HALL:Hid (Calls prog 36 #[.pointer (some ⟨x,0,none⟩)] w1 fun e w'=>∃ v,e=.returned (.tuple #[v,.bool true])∧OPA w' w1.heap.size v (qB5 nw.cont)∧BadT hS1.E w1 w' t s.read):=zC2 hS1.E x A N t s.read nw w1 hL1;have HL1:=zh hL1;have HS1:=zh hS1;have HK1:=zh hK1;have hs1:=hK1.size;clear hL1 hK1 HB;go_wp2_with fail;refine (show Calls _ _ _ _ _ from HALL.out).mono ?_;rintro e w2 ⟨v,rfl,ho2,hb2⟩;have hL2:=HL1.out.stay hb2;have hK2:Kp [St,x,A] w1 w2:=hb2.kp.mono (by
  intro i hi _;rw[ht1] at hi;rcases List.mem_cons.1 hi with h|h
  ·simp[h]
  ·have h':i∈[A]:=h;simp at h';simp[h'])
 have hS2:=HS1.out.quiet HL1.out.hx hK2 hb2.dev (by have:=hb2.hSt;rw[ht1] at this;exact this);have HAB:Hid (Calls prog 29 #[.pointer (some ⟨x,0,none⟩)] w2 fun e w'=>e=.returned .nilIface∧w'.heap[x]?=some (qA6 t.ended)∧Shop w' kc db St A C N (nM+1) (s.read.left t.nr) ((D.put (qA4 (s.bg+1)) (qF1 ⟨⟨#[]⟩,s.rb,s.rs,none⟩)).del (qA4 t.nr)) l wr nw∧Kp [St,x,s.M] w2 w'):=hS2.abort hL2 ht1 (by omega) (by omega);have HO2:=zh ho2;have HK2:Hid (Kp [St,s.M,A] w w2):=(HK1.out.mono (by simp +contextual)).trans hK2 (by intro i hi hlt;simp at hi ⊢;omega);have HN:Hid (∀ k∈[St,x,s.M],∀ c fr,w2.heap[k]?≠some (.cells c 64 fr)):=by
  show ∀ k∈[St,x,s.M],∀ c fr,w2.heap[k]?≠some (.cells c 64 fr);intro k hk c fr e;simp only[List.mem_cons,List.not_mem_nil,or_false] at hk;rcases hk with rfl|rfl|rfl
  ·rw[hS2.hSt] at e;simp[τ] at e
  ·rw[hL2.hx] at e;simp[qA6] at e
  ·exact absurd rfl (qE6 e hS2.hM)
 obtain⟨ob,oc,rfl⟩:=qL0 ho2;obtain⟨sl,hsl⟩:∃ sl,sl=(qB5 nw.cont).length:=⟨_,rfl⟩;rw[←hsl] at HO2 ⊢;clear ho2 hb2 hL2 hK2 hS2 HALL hsl;go_wp2_with fail;refine (show Calls _ _ _ _ _ from HAB.out).mono ?_;rintro e w3 ⟨rfl,_,hS3,hK3⟩;have HE:Hid (OPA w3 w.heap.size (.slice ob sl oc) (qB5 nw.cont)∧Shop w3 kc db St A C N (nM+1) s.read ((D.put (qA4 (s.bg+1)) (qF1 ⟨⟨#[]⟩,s.rb,s.rs,none⟩)).del (qA4 (s.bg+1))) l wr nw∧Kp [St,s.M,A] w w3):=by
  refine⟨qI7 (OPA.keep HO2.out hK3 HN.out) (by omega),?_,HK2.out.trans hK3 (by intro i hi hlt;simp at hi ⊢;omega)⟩;have e:s.read.left t.nr=s.read:=by
   have hne:¬t.nr=s.read.wr:=by show ¬t.nr=s.wr;omega
   simp[Sto.left,if_neg hne]
  rw[e,ht2] at hS3;exact hS3
 clear hS3 hK3 HAB;go_wp2_with fail
 go_quiet (fail)
 go_wp2
 go_ret2
 obtain⟨e1,e2,e3⟩:=HE.out;have hd:=(Kp.refl [] w3).drewN nq;exact⟨_,rfl,e1.keep hd (by simp),e2.turn (hd.mono (S':=[]) (by simp)) (by simp) (qD4 e2.dev hd (by intro k hk;cases hk)) ⟨rfl,rfl,rfl,rfl,rfl,rfl⟩ (hd.hp e2.hSt) (e2.hM.kp hd (by simp)) e2.m4 e2.n1 e2.bg0 e2.kb e2.rd,e3.tr hd⟩
end
section
variable {w:World} {kc db St A C N nM:Nat} {s:Sto} {D:DataW Unit} {l:List UInt8} {wr:Int} {nw:Root}
structure Wrt(w:World)(kc db St A C N nM:Nat)(s:Sto)(D:DataW Unit)(l:List UInt8)(wr:Int)(nw:Root)(x:Nat)(t:Tx)(r:Root)(nr:Int):Prop where
 shop:Shop w kc db St A C N nM s D l wr nw
 live:LiveT shop.E w x A N t s r
 st:t.St=St
 nr:t.nr=nr
 wrt:t.wrt=true
theorem Wrt.stay{x:Nat}{t:Tx}{r:Root}{nr:Int}(h:Wrt w kc db St A C N nM s D l wr nw x t r nr){w':World}(hb:BadT h.shop.E w w' t s):Wrt w' kc db St A C N nM s D l wr nw x t r nr∧Kp [St,A] w w':=by
 have hK:Kp [St,A] w w':=hb.kp.mono (by
  intro i hi _;rw[h.st] at hi;rcases List.mem_cons.1 hi with h|h
  ·simp[h]
  ·have h':i∈[A]:=h;simp at h';simp[h'])
 have hS:=h.shop.quiet h.live.hx (hK.mono (by simp +contextual)) hb.dev (by have:=hb.hSt;rw[h.st] at this;exact this);exact⟨⟨hS,h.live.stay hb,h.st,h.nr,h.wrt⟩,hK⟩
theorem Wrt.turn{x:Nat}{t:Tx}{r:Root}{nr:Int}(h:Wrt w kc db St A C N nM s D l wr nw x t r nr){w':World}{t':Tx}{r':Root}(hl:LiveT h.shop.E w' x A N t' s r')(e1:t'.St=t.St)(e2:t'.nr=t.nr)(e3:t'.wrt=t.wrt)(hk:Kp (t.St::x::h.shop.E.S) w w'):Wrt w' kc db St A C N nM s D l wr nw x t' r' nr∧Kp [St,x,A] w w':=by
 have hK:Kp [St,x,A] w w':=hk.mono (by
  intro i hi _;rw[h.st] at hi;rcases List.mem_cons.1 hi with h|hi
  ·simp[h]
  ·rcases List.mem_cons.1 hi with h|h
   ·simp[h]
   ·have h':i∈[A]:=h;simp at h';simp[h'])
 have hS:=h.shop.quiet h.live.hx hK hl.dev (by have:=hl.hSt;rw[e1,h.st] at this;exact this);exact⟨⟨hS,hl,e1.trans h.st,e2.trans h.nr,e3.trans h.wrt⟩,hK⟩
theorem Wrt.chd{x:Nat}{t:Tx}{r:Root}{nr:Int}(h:Wrt w kc db St A C N nM s D l wr nw x t r nr){w':World}{t':Tx}{r':Root}{j:Nat}(hc:Chd h.shop.E w x A N t s r j w' t' r'):Wrt w' kc db St A C N nM s D l wr nw x t' r' nr∧Kp [St,x,A] w w':=
 h.turn hc.live hc.st hc.nr hc.wrt hc.kp
theorem zW1(hS:Shop w kc db St A C N nM s D l wr nw)(hw:s.wr=0)(hbg:s.bg≤100000000)(a:Int)(ha0:-9223372036854775808≤a)(ha1:a≤9223372036854775807)(m:Nat)(hm:m≤1000)
  (hroom:∀ r':Root,RGood r'→r'.cont.length≤nw.cont.length+m→(r'.news:Int)≤(N:Int)-2-s.bl):
  Calls prog 11 #[.pointer (some ⟨db,0,none⟩),.int .i64 a,.int .i64 m] w fun e w'=>∃ x t r v,e=.returned (.tuple #[.pointer (some ⟨x,0,none⟩),v])∧w.heap.size≤x∧OPA w' w.heap.size v (qB5 r.cont)∧r.cont.length≤nw.cont.length+m∧t.ch≤(m:Int)∧(∀ p∈nw.cont,p.k=qG7→p∈r.cont)∧Kp [St,A] w w'∧Wrt w' kc db St A C N nM s.wrote D l wr nw x t r (s.bg+1):=by
 have HB:Hid (Calls prog 22 #[.pointer (some ⟨db,0,none⟩),.bool true] w fun e w'=>∃ x t,e=.returned (.tuple #[.pointer (some ⟨x,0,none⟩),.nilIface])∧w.heap.size≤x∧t.St=St∧t.nr=s.bg+1∧t.wrt=true∧t.ch=0∧Kp [St] w w'∧∃ hS':Shop w' kc db St A C N nM s.wrote D l wr nw,LiveT hS'.E w' x A N t s.wrote nw):=hS.beginW hw hbg;have HROOM:=zh hroom;have hsz:=hS.sz;have hkc:=hS.kc1;clear hS hroom;go_enter func11,ntmps11;go_wp2_with fail;refine (show Calls _ _ _ _ _ from HB.out).mono ?_;rintro e w1 ⟨x,t,rfl,hx,ht1,ht2,ht3,ht4,hK1,hS1,hL1⟩;have HW1:Hid (Wrt w1 kc db St A C N nM s.wrote D l wr nw x t nw (s.bg+1)):=⟨hS1,hL1,ht1,ht2,ht3⟩;have HC:Hid (Calls prog 37 #[.pointer (some ⟨x,0,none⟩),.int .i64 a,.int .i64 m,.int .i64 20] w1 fun e w'=>e=.returned (.bool true)∧∃ t' r',Chd HW1.out.shop.E w1 x A N t s.wrote nw m w' t' r'):=jD3 hS1.E x A N t s.wrote nw a m w1 hL1 ht3 ha0 ha1 hm (by omega) (by omega) HROOM.out;have HK1:=zh hK1;have hs1:=hK1.size;clear hS1 hL1 hK1 HB;go_wp2_with fail;refine (show Calls _ _ _ _ _ from HC.out).mono ?_;rintro e w2 ⟨rfl,t',r',hc⟩;obtain⟨hW2,hK2⟩:=HW1.out.chd hc;have HALL:Hid (Calls prog 36 #[.pointer (some ⟨x,0,none⟩)] w2 fun e w'=>∃ v,e=.returned (.tuple #[v,.bool true])∧OPA w' w2.heap.size v (qB5 r'.cont)∧BadT hW2.shop.E w2 w' t' s.wrote):=zC2 hW2.shop.E x A N t' s.wrote r' w2 hW2.live;have HW2:=zh hW2;have HLE:Hid (r'.cont.length≤nw.cont.length+m∧t'.ch≤(m:Int)∧∀ p∈nw.cont,p.k=qG7→p∈r'.cont):=⟨hc.len,by have:=hc.ch;omega,hc.keep⟩;have HK2:Hid (Kp [St,A] w w2):=(HK1.out.mono (by simp)).trans hK2 (by intro i hi hlt;simp at hi ⊢;omega);have hs2:=hK2.size;clear hc hK2 HC;go_wp2_with fail;refine (show Calls _ _ _ _ _ from HALL.out).mono ?_;rintro e w3 ⟨v,rfl,ho,hb⟩;obtain⟨hW3,hK3⟩:=HW2.out.stay hb;have HE:Hid (OPA w3 w.heap.size v (qB5 r'.cont)∧r'.cont.length≤nw.cont.length+m∧t'.ch≤(m:Int)∧(∀ p∈nw.cont,p.k=qG7→p∈r'.cont)∧Kp [St,A] w w3∧Wrt w3 kc db St A C N nM s.wrote D l wr nw x t' r' (s.bg+1)):=⟨qI7 ho (by omega),HLE.out.1,HLE.out.2.1,HLE.out.2.2,HK2.out.tr hK3,hW3⟩;obtain⟨ob,oc,rfl⟩:=qL0 ho;obtain⟨sl,hsl⟩:∃ sl,sl=(qB5 r'.cont).length:=⟨_,rfl⟩;rw[←hsl] at HE ⊢;clear ho hb hW3 hK3 hW2 HALL hsl;go_wp2
 go_ret2
 exact⟨x,t',r',_,rfl,hx,HE.out⟩
end
theorem xI6{n:Nat}{l:Lnk (Tn n)}{W:List (Lnk (Tn n))}(hW:Row0 n l.key W)(hM:Made n l 0 W)(hd:min n 1<cnt n l.sub):∃ m L,qF5 n W=.at m L∧L.ref=none:=by
 rcases hM with⟨a,rfl,e1,e2,e3⟩|⟨a,b,rfl,e1,e2,e3,e4,e5⟩
 ·have e:qF5 n [a]=qQ3 n a:=rfl;rw[e]
  cases n with
  | zero=>
   have hc:0<(prs a.sub).length:=by
    have h1:0<(prs l.sub).length:=hd;have h2:(prs l.sub).length≤(prs a.sub).length+0:=e3;omega
   refine⟨0,a,?_,e2⟩;show (match prs a.sub with | []=>Root.none | _::_=>.at 0 a)=_
   cases hp:prs a.sub with
   | nil=>rw[hp] at hc;simp at hc
   | cons x r=>rfl
  | succ n=>
   have hc:(η l.sub).length≤(η a.sub).length+0:=e3;have hc2:1<(η l.sub).length:=by have h2:min (n+1) 1<(η l.sub).length:=hd;omega
   refine⟨n+1,a,?_,e2⟩;show (match η a.sub with | []=>Root.none | [m]=>.at n m | _::_::_=>.at (n+1) a)=_
   cases hp:η a.sub with
   | nil=>rw[hp,List.length_nil] at hc;omega
   | cons x r=>
    cases r with
    | nil=>rw[hp,List.length_cons,List.length_nil] at hc;omega
    | cons y r=>rfl
 ·have h2:meas qA3 [a,b]≤126:=by
   have:=(hW.all a (by simp)).2;have hb:=hW.all b (by simp);simp[meas,qA3];omega
  have e:qD7 n ⟨#[]⟩ [a,b]=[⟨⟨#[]⟩,none,[a,b]⟩]:=by
   unfold qD7 qB6;rw[if_pos h2];rfl
  refine⟨n+1,⟨⟨#[]⟩,none,[a,b]⟩,?_,rfl⟩;show (match qD7 n ⟨#[]⟩ [a,b] with | []=>Root.none | r::_=>qQ3 (n+1) r)=_;rw[e];rfl
theorem jN9{r:Root}{p:KV}(h:RGood r)(hp:qC3 p):∃ m L,r.put p=.at m L∧L.ref=none:=by
 cases r with
 | none=>
  have hs:Sorted [p]:=by simp[Sorted]
  have hz:(⟨#[]⟩:ByteArray).size≤8:=by decide
  obtain⟨r1,r2,r3⟩:=qU8 (lo:=⟨#[]⟩) (ps:=[p]) hs (fun q hq=>by rw[List.mem_singleton.1 hq];exact⟨hp,qN6 _⟩) (by obtain⟨h1,h2,h3⟩:=hp;simp[meas,ν];omega) hz;have hM:Made 0 ⟨⟨#[]⟩,none,[p]⟩ 0 (qE1 ⟨#[]⟩ [p]):=by
   rcases r3 with⟨a,e1,e2,e3,e4⟩|⟨a,b,e1,e2,e3,e4,e5,e6⟩
   ·exact .inl ⟨a,e1,e2,e3,by rw[e4];exact Nat.le_refl _⟩
   ·exact .inr ⟨a,b,e1,e2,e3,e4,e5,e6⟩
  exact xI6 (n:=0) (l:=(⟨⟨#[]⟩,none,[p]⟩:Lnk (List KV))) r1 hM (by show 0<1;omega)
 | «at» n l=>
  obtain⟨h1,h2,h3⟩:=h;obtain⟨w1,w2,w3⟩:=qW2 n l p h2 hp (by rw[h1];exact qN6 _) (by rw[h1];decide) (by omega);exact xI6 w1 w3 h3
theorem jO5{E:Env}{w:World}{h:HL}{m:Nat}{L:Lnk (Tn m)}(hr:RR E w h (.at m L))(hn:L.ref=none):∃ q,h.p=some q:=by
 have h2:=hr.2;rw[hn] at h2;obtain⟨_,_,q,e,_⟩:=h2;exact⟨q,e⟩
def qN3:ByteArray:=⟨#[111,102,32,97,108,108]⟩
theorem xM7{ps:List KV}{p:KV}(h:p∈ps)(hp:inR ⟨#[]⟩ qS2 p=true):0<(qB5 ps).length:=by
 have h1:p∈ps.filter (inR ⟨#[]⟩ qS2):=List.mem_filter.2 ⟨h,hp⟩;have h2:0<(ps.filter (inR ⟨#[]⟩ qS2)).length:=List.length_pos_of_mem h1;unfold qB5 qG1;rw[List.length_take];have:(1048576:Int).toNat=1048576:=rfl;omega
theorem jG0(m:Nat)(h:8≤m):Fresh (List.replicate (m*128) 0):=by
 have e0:min 128 (m*128-0*128)=128:=by omega
 have e1:min 128 (m*128-1*128)=128:=by omega
 exact⟨by rw[ι,List.drop_replicate,List.take_replicate,e0];rfl,by rw[ι,List.drop_replicate,List.take_replicate,e1];rfl⟩
theorem jP4{w:World}{kc db St V M A C N:Nat}{Nh:Int}{l:List UInt8}{calls wr:Int}(hA:w.heap[A]?=some (qM7 N C (.slice none 0 0) calls wr))(hV:w.heap[V]?=some (qB8 A N))(hM:w.heap[M]?=some (.map #[] 0))(hSt:w.heap[St]?=some (τ 0 (qJ4 V M Nh)))(hDb:w.heap[db]?=some (.cells #[.pointer (some ⟨St,0,none⟩)] 95))(hC:w.heap[C]?=some (.cells (enc l) 87))(h8:8≤N)(h4:N≤400)(hl:l.length=N*128)(hfm:Formatted l Nh)(hk:kc≤900)(hN:0≤Nh):
  Shop w kc db St A C N 0 (qJ4 V M Nh) (.map []) l wr .none:=
 { hDb:=hDb,hSt:=hSt,po:=rfl,hM:=⟨#[],0,hM,⟨by simp,MapKept.stamped_empty 0,by simp⟩,Nat.le_refl _,rfl⟩,m4:=by simp[Maps.size],n1:=by omega,dev:=⟨hV,⟨calls,by rw[hl,Nat.mul_div_cancel _ (by decide)];exact hA⟩,hC⟩,N8:=h8,N4:=h4,len:=Nat.le_of_eq hl.symm,lie:=⟨rfl,rfl⟩,good:=trivial,heads:=Heads.new hfm,sz:=by simp[Root.cont],kc1:=hk,bl0:=Int.le_refl _,bl1:=by simp[Root.cont,qJ4],sN0:=hN,bg0:=Int.le_refl _,kb:=fun k hk=>by simp[Maps.has] at hk,rd:=fun x h hk=>by simp[Maps.has] at hk }
end Go.Proofs.YtdohpenfkdckiabGreatDoor
