import Derived.Test.YtdohpenfkdckiabGreatDoorP10
set_option linter.all false
set_option maxRecDepth 100000
set_option maxHeartbeats 20000000
namespace Go.Proofs.YtdohpenfkdckiabGreatDoor
open Go.Proofs.Tryz
open Go.RowKit
theorem Hid.mk'{p:Prop}(h:p):Hid p:=h
theorem zV4{α:Type}(f:α→List Int)(l:List α)(j:Nat)(h:j<l.length):(l.take (j+1)).flatMap f=(l.take j).flatMap f++f l[j]:=by
 rw[List.take_succ_eq_append_getElem h,List.flatMap_append];simp
theorem jZ3(vb:Value)(base k:Nat)(xs:List Int)(v:Value)(ps:List KV)(w:World)(hk:k+meas ρ ps≤900)(hn:ps.length≤1000000)(hz:∀ p∈ps,qD0 p)
  (hs:Slc w 158 2 v ps.length (qB0 ps)) (hb:base≤w.heap.size) (hown:w.ownsRow base 5 1 vb k (u8s xs)):
  Calls prog 212 #[vb,v] w fun e w'=>∃ v',e=.returned v'∧w'.ownsRow base 5 1 v' (k+meas ρ ps) (u8s (xs++ps.flatMap qD4))∧Below base w w'∧St w w':=by
 obtain⟨bs,cp,hv⟩:∃ bs cp,v=.slice bs ps.length cp:=by
  rcases hs.val with⟨h0,b,c,h1,_⟩|⟨g,off,cap,cur,fr,h1,_⟩
  ·rw[h0];exact⟨b,c,h1⟩
  ·exact⟨_,cap,h1⟩
 subst hv;have HS:=zh hs;have HZ:=zh hz;have HB:=zh hb;clear hs hz hb;go_enter func212,ntmps212;go_wp2
 go_loopw [0,9] (fun s i wr=>∃ (j:Nat) (v':Value),j≤ps.length∧i=.int .i64 j∧s=v'∧Hid (wr.ownsRow base 5 1 v' (k+meas ρ (ps.take j)) (u8s (xs++(ps.take j).flatMap qD4)))∧Hid (Below base w wr)∧Hid (St w wr)) (fun _ i _=>ps.length-(intOf i).toNat)
 case atStart=>exact⟨0,vb,Nat.zero_le _,rfl,rfl,by show World.ownsRow _ _ _ _ _ _ _;simpa [qE2] using hown,Below.refl _ _,St.refl _⟩
 case round=>
  obtain⟨j,v',hj,rfl,rfl,HO,HL,HST⟩:=hrel;by_cases hlt:j<ps.length
  ·obtain⟨gb,off,cp',cur,fr,hv,hcp,hrow,hcur⟩:=HS.out.pair (by omega);obtain⟨c0,c1⟩:=hcur j hlt;simp only[Value.slice.injEq,true_and] at hv;obtain⟨rfl,rfl⟩:=hv;have hR:=HST.out _ _ _ _ hrow (by decide);have a0:=ξ hR (off+j*2);rw[c0] at a0;have a1:=ξ hR (off+j*2+1);rw[c1] at a1;have hgs:=ζ hR;have hjb:(j:Int)<(ps.length:Int):=by omega
   have hz0:=HZ.out ps[j] (List.getElem_mem hlt);have hmt:=qM8 ρ ps j;have HMS:Hid (meas ρ (ps.take (j+1))=meas ρ (ps.take j)+ρ ps[j]):=qK8 ρ ps j hlt;have HFS:Hid ((ps.take (j+1)).flatMap qD4=(ps.take j).flatMap qD4++qD4 ps[j]):=zV4 qD4 ps j hlt;clear hcur;go_wp2_with fail;refine (jP0 ps[j] _ base (k+meas ρ (ps.take j)) (xs++(ps.take j).flatMap qD4) _ (by omega) hz0 (by have:=HB.out;have:=HL.out.size;simp;omega) (HO.out.alloc _)).mono ?_;rintro e w1 ⟨v1,rfl,hown1,hbl1,hst1⟩;have HO1:Hid (w1.ownsRow base 5 1 v1 (k+meas ρ (ps.take (j+1))) (u8s (xs++(ps.take (j+1)).flatMap qD4))):=by
    show World.ownsRow _ _ _ _ _ _ _;rw[HMS.out,HFS.out,←List.append_assoc,←Nat.add_assoc];exact hown1
   have HL1:Hid (Below base w w1):=(HL.out.alloc (by have:=HB.out;have:=HL.out.size;omega) _).trans hbl1;have HST1:Hid (St w w1):=(HST.out.alloc _).trans hst1;clear hown1 hbl1 hst1;go_wp2;exact⟨⟨j+1,v1,by omega,by go_num,rfl,HO1,HL1,HST1⟩,by simp[intOf];omega⟩
  ·have hjb:¬(j:Int)<(ps.length:Int):=by omega
   have e:ps.take j=ps:=List.take_of_length_le (by omega);have h:=HO.out;rw[e] at h;have HO':=Hid.mk' h;clear e h;go_wp2;go_ret;exact⟨_,rfl,HO'.out,HL.out,HST.out⟩
theorem jZ2(vb:Value)(base k:Nat)(xs:List Int)(v:Value)(ps:List HL)(w:World)(hk:k+meas qA0 ps≤900)(hn:ps.length≤1000000)(hz:∀ p∈ps,p.key.size≤8∧0≤p.b∧p.b≤1000000∧0≤p.s)
  (hs:Slc w 81 4 v ps.length (qA7 ps)) (hb:base≤w.heap.size) (hown:w.ownsRow base 5 1 vb k (u8s xs)):
  Calls prog 211 #[vb,v] w fun e w'=>∃ v',e=.returned v'∧w'.ownsRow base 5 1 v' (k+meas qA0 ps) (u8s (xs++ps.flatMap qD7))∧Below base w w'∧St w w':=by
 obtain⟨bs,cp,hv⟩:∃ bs cp,v=.slice bs ps.length cp:=by
  rcases hs.val with⟨h0,b,c,h1,_⟩|⟨g,off,cap,cur,fr,h1,_⟩
  ·rw[h0];exact⟨b,c,h1⟩
  ·exact⟨_,cap,h1⟩
 subst hv;have HS:=zh hs;have HZ:=zh hz;have HB:=zh hb;clear hs hz hb;go_enter func211,ntmps211;go_wp2
 go_loopw [0,9] (fun s i wr=>∃ (j:Nat) (v':Value),j≤ps.length∧i=.int .i64 j∧s=v'∧Hid (wr.ownsRow base 5 1 v' (k+meas qA0 (ps.take j)) (u8s (xs++(ps.take j).flatMap qD7)))∧Hid (Below base w wr)∧Hid (St w wr)) (fun _ i _=>ps.length-(intOf i).toNat)
 case atStart=>exact⟨0,vb,Nat.zero_le _,rfl,rfl,by show World.ownsRow _ _ _ _ _ _ _;simpa [qE2] using hown,Below.refl _ _,St.refl _⟩
 case round=>
  obtain⟨j,v',hj,rfl,rfl,HO,HL,HST⟩:=hrel;by_cases hlt:j<ps.length
  ·obtain⟨gb,off,cp',cur,fr,hv,hcp,hrow,hcur⟩:=HS.out.link (by omega);obtain⟨c0,c1,c2,c3⟩:=hcur j hlt;simp only[Value.slice.injEq,true_and] at hv;obtain⟨rfl,rfl⟩:=hv;have hR:=HST.out _ _ _ _ hrow (by decide);have a0:=ξ hR (off+j*4);rw[c0] at a0;have a1:=ξ hR (off+j*4+1);rw[c1] at a1;have a2:=ξ hR (off+j*4+2);rw[c2] at a2;have a3:=ξ hR (off+j*4+3);rw[c3] at a3;have hgs:=ζ hR;have hjb:(j:Int)<(ps.length:Int):=by omega
   have hz0:=HZ.out ps[j] (List.getElem_mem hlt);have hmt:=qM8 qA0 ps j;have HMS:Hid (meas qA0 (ps.take (j+1))=meas qA0 (ps.take j)+qA0 ps[j]):=qK8 qA0 ps j hlt;have HFS:Hid ((ps.take (j+1)).flatMap qD7=(ps.take j).flatMap qD7++qD7 ps[j]):=zV4 qD7 ps j hlt;clear hcur;go_wp2_with fail;refine (jF4 ps[j] _ base (k+meas qA0 (ps.take j)) (xs++(ps.take j).flatMap qD7) _ (by omega) hz0.1 hz0.2.1 hz0.2.2.1 hz0.2.2.2 (by have:=HB.out;have:=HL.out.size;simp;omega) (HO.out.alloc _)).mono ?_;rintro e w1 ⟨v1,rfl,hown1,hbl1,hst1⟩;have HO1:Hid (w1.ownsRow base 5 1 v1 (k+meas qA0 (ps.take (j+1))) (u8s (xs++(ps.take (j+1)).flatMap qD7))):=by
    show World.ownsRow _ _ _ _ _ _ _;rw[HMS.out,HFS.out,←List.append_assoc,←Nat.add_assoc];exact hown1
   have HL1:Hid (Below base w w1):=(HL.out.alloc (by have:=HB.out;have:=HL.out.size;omega) _).trans hbl1;have HST1:Hid (St w w1):=(HST.out.alloc _).trans hst1;clear hown1 hbl1 hst1;go_wp2;exact⟨⟨j+1,v1,by omega,by go_num,rfl,HO1,HL1,HST1⟩,by simp[intOf];omega⟩
  ·have hjb:¬(j:Int)<(ps.length:Int):=by omega
   have e:ps.take j=ps:=List.take_of_length_le (by omega);have h:=HO.out;rw[e] at h;have HO':=Hid.mk' h;clear e h;go_wp2;go_ret;exact⟨_,rfl,HO'.out,HL.out,HST.out⟩
def qK2(lv:Int)(ps:List KV)(hs:List HL):List Int:=[lv,((ps.length+hs.length:Nat):Int)]++ps.flatMap qD4++hs.flatMap qD7
def qA2(lv:Int)(ps:List KV)(hs:List HL):List Int:=qK2 lv ps hs++List.replicate (128-(2+meas ρ ps+meas qA0 hs)) 0
theorem zA5{α:Type}(f:α→List Int)(g:α→Nat)(h:∀ x,(f x).length=g x)(l:List α):(l.flatMap f).length=meas g l:=by
 induction l with
 | nil=>simp[qE2]
 | cons a l ih=>rw[List.flatMap_cons,List.length_append,h,ih,qF1]
theorem xC2(lv:Int)(ps:List KV)(hs:List HL):(qK2 lv ps hs).length=2+meas ρ ps+meas qA0 hs:=by
 unfold qK2;rw[List.length_append,List.length_append,zA5 qD4 ρ qT1,zA5 qD7 qA0 (fun h=>qS7 h)];simp
theorem qP0(lv:Int)(ps:List KV)(hs:List HL)(h:2+meas ρ ps+meas qA0 hs≤128):(qA2 lv ps hs).length=128:=by
 unfold qA2;rw[List.length_append,xC2,List.length_replicate];omega
theorem qM0{w:World}{T:TypeId}{sz:Nat}{v:Value}{n:Nat}{cs:List Value}(hs:Slc w T sz v n cs):∃ bs cp,v=.slice bs n cp:=by
 rcases hs.val with⟨h0,b,c,h1,_⟩|⟨g,off,cap,cur,fr,h1,_⟩
 ·rw[h0];exact⟨b,c,h1⟩
 ·exact⟨_,cap,h1⟩
theorem Slc.st{w w':World}{T:TypeId}{sz:Nat}{v:Value}{n:Nat}{cs:List Value}(h:Slc w T sz v n cs)(hT:T≠5)(hs:St w w'):Slc w' T sz v n cs:=by
 refine⟨h.len,?_⟩;rcases h.val with h1|⟨g,off,cap,cur,fr,h1,h2,h3,h4,h5⟩
 ·exact Or.inl h1
 ·exact Or.inr ⟨g,off,cap,cur,fr,h1,h2,h3,hs _ _ _ _ h4 hT,h5⟩
theorem jQ3(q:Nat)(lv:Int)(pb lb:Option Addr)(n m pc lc:Nat)(w:World)(hq:w.heap[q]?=some (υ lv (.slice pb n pc) (.slice lb m lc)))(hn:n≤100000)(hm:m≤100000):
  Calls prog 129 #[.pointer (some ⟨q,0,none⟩)] w fun e w'=>e=.returned (.int .i64 ((n+m:Nat):Int))∧Kp [] w w':=by
 have hs:=ζ hq;have c1:=ξ hq;simp only[υ,zG,zH,zI] at c1;clear hq;go_enter func129,ntmps129;go_wp2_with fail
 go_quiet (fail)
 go_wp2;go_ret;exact⟨qK9 (by omega),(Kp.refl _ _).drewN _⟩
theorem qE8(w:World)(o1:Obj):∃ w0,w0=w.alloc o1∧w0.heap[w.heap.size]?=some o1∧Kp [] w w0∧w0.heap.size=w.heap.size+1:=⟨_,rfl,μ _ _,(Kp.refl _ _).alloc _,by simp⟩
theorem jZ8:zeroCells223=(List.replicate 128 (.int .u8 0)).toArray:=by kernel_rfl
theorem jF3(lv:Int)(ps:List KV)(hs:List HL):qD6 zeroCells223 0 (u8s (qK2 lv ps hs)).toArray=(u8s (qA2 lv ps hs)).toArray:=by
 rw[jZ8];unfold qD6
 congr 1
 rw[qA2,jW9];simp only[List.take_zero,List.nil_append,List.drop_replicate,Nat.zero_add,List.size_toArray,xG9,xC2]
 congr 1
 simp[u8s]
theorem zF6(q:Nat)(lv:Int)(vp vl:Value)(ps:List KV)(hs:List HL)(w:World)(hq:w.heap[q]?=some (υ lv vp vl))(hl0:0≤lv)(hl1:lv<256)
  (hsp:Slc w 158 2 vp ps.length (qB0 ps)) (hsl:Slc w 81 4 vl hs.length (qA7 hs)) (hm:2+meas ρ ps+meas qA0 hs≤128) (hc:ps.length+hs.length≤255)
  (hzp:∀ p∈ps,qD0 p) (hzl:∀ p∈hs,p.key.size≤8∧0≤p.b∧p.b≤1000000∧0≤p.s):
  Calls prog 182 #[.pointer (some ⟨q,0,none⟩)] w fun e w'=>e=.returned (.agg (u8s (qA2 lv ps hs)).toArray)∧Kp [] w w':=by
 obtain⟨pb,pc,rfl⟩:=qM0 hsp;obtain⟨lb,lc,rfl⟩:=qM0 hsl;have hlm:IntKind.u8.wrap lv=lv:=by rw[IntKind.wrap_u8];omega
 obtain⟨cn,hcn⟩:∃ cn:Nat,cn=ps.length+hs.length:=⟨_,rfl⟩;have hcm:IntKind.u8.wrap (cn:Int)=(cn:Int):=by rw[IntKind.wrap_u8];omega
 have HCN:=zh hcn;have HC:=zh hc;have HM:=zh hm;have HP:=zh hsp;have HL:=zh hsl;have HZP:=zh hzp;have HZL:=zh hzl;have HQ:=zh hq;have hqs:=ζ hq;clear hl0 hl1 hsp hsl hm hc hzp hzl hcn hq;go_enter func182,ntmps182;go_wp2_with fail;obtain⟨w0,hw0,hR0,hK0,hs0⟩:=qE8 w (.cells zeroCells223 223);rw[←hw0];clear hw0;have hq0:=hK0.hp HQ.out;have hSd:w0.drew.heap[q]?=some (υ lv (.slice pb ps.length pc) (.slice lb hs.length lc)):=hq0;refine wp_region_held_drew (S:=fun W=>W.heap[q]?=some (υ lv (.slice pb ps.length pc) (.slice lb hs.length lc))) (by kernel_rfl) hSd (fun _=>?_);refine zP 0 q 0 hSd ?_;refine zV 1 (.pointer (some ⟨q,0,none⟩)) rfl (fun W hS=>by have c:=ζ hS;clear hS;go_simp) hSd ?_;refine zP 2 q 0 hSd ?_;refine zV 3 (.int .i64 lv) rfl (fun W hS=>by have c:=ξ hS 0;simp only[υ,zG,zH,zI] at c;clear hS;go_simp) hSd ?_;refine zU 4 (.int .u8 lv) hSd ?_;refine zP 5 q 0 hSd ?_;refine zP 9 q 0 hSd ?_;refine zV 10 (.pointer (some ⟨q,0,none⟩)) rfl (fun W hS=>by have c:=ζ hS;clear hS;go_simp) hSd ?_;refine zP 11 q 1 hSd ?_;refine zV 12 (.slice pb ps.length pc) rfl (fun W hS=>by have c:=ξ hS 1;simp only[υ,zG,zH,zI] at c;clear hS;go_simp) hSd ?_;refine zP 14 q 0 hSd ?_;refine zV 15 (.pointer (some ⟨q,0,none⟩)) rfl (fun W hS=>by have c:=ζ hS;clear hS;go_simp) hSd ?_;refine zP 16 q 2 hSd ?_;refine zV 17 (.slice lb hs.length lc) rfl (fun W hS=>by have c:=ξ hS 2;simp only[υ,zG,zH,zI] at c;clear hS;go_simp) hSd ?_;refine zq 6 fun K hK=>?_;go_simp;refine (jQ3 q lv pb lb ps.length hs.length pc lc w0.drew hSd (by have:=HC.out;omega) (by have:=HC.out;omega)).mono ?_;rintro e w1 ⟨rfl,hK1⟩;have hS1:=hK1.hp hSd;rw[←HCN.out];have hK1':Kp [] w0 w1:=((Kp.refl _ w0).drew).tr hK1;refine hK.out _ _ hS1 (fun _=>?_);clear hK K hK1
 try simp only[zZ]
 refine zU 7 (.int .u8 cn) hS1 ?_;refine zq 8 fun K hK=>?_;go_simp;obtain⟨w2,hw2,hB2,hK2,hs2⟩:=qE8 w1 (.cells #[.int .u8 lv,.int .u8 cn] 5);rw[←hw2];clear hw2;have hS2:=hK2.hp hS1;have hKw2:Kp [] w w2:=(hK0.tr hK1').tr hK2;have hR2:=(hK1'.tr hK2).hp hR0;have hKw1:Kp [] w w1:=hK0.tr hK1';have hbl2:Below w1.heap.size w1 w2:=hK2.below (Nat.le_refl _) (by simp);have hown2:w2.ownsRow w1.heap.size 5 1 (.slice (some ⟨w1.heap.size,0,none⟩) 2 2) 2 (u8s [lv,(cn:Int)]):=⟨rfl,Or.inr ⟨w1.heap.size,2,_,rfl,Nat.le_refl _,hB2,Nat.le_refl _,by decide,rfl,rfl⟩⟩;have hw01:=hK1'.size;refine hK.out _ _ hS2 (fun _=>?_);clear hK K hS1 hK1' hB2 hK2 hR0 hq0 hSd hK0
 try simp only[zZ]
 refine zq 13 fun K hK=>?_;go_simp;refine (jZ3 (.slice (some ⟨w1.heap.size,0,none⟩) 2 2) w1.heap.size 2 [lv,(cn:Int)] (.slice pb ps.length pc) ps w2 (by have:=HM.out;omega) (by have:=HC.out;omega) HZP.out (HP.out.keep0 hKw2) (by omega) hown2).mono ?_;rintro e w3 ⟨v3,rfl,hown3,hbl3,hst3⟩;have hS3:=hst3 _ _ _ _ hS2 (by decide);have hR3:=hst3 _ _ _ _ hR2 (by decide);refine hK.out _ _ hS3 (fun _=>?_);clear hK K hS2 hR2 hown2
 try simp only[zZ]
 refine zq 18 fun K hK=>?_;go_simp;refine (jZ2 v3 w1.heap.size (2+meas ρ ps) ([lv,(cn:Int)]++ps.flatMap qD4) (.slice lb hs.length lc) hs w3 (by have:=HM.out;omega) (by have:=HC.out;omega) HZL.out ((HL.out.keep0 hKw2).st (by decide) hst3) (by have:=hbl3.size;omega) hown3).mono ?_;rintro e w4 ⟨v4,rfl,hown4,hbl4,hst4⟩;have hS4:=hst4 _ _ _ _ hS3 (by decide);have hR4:=hst4 _ _ _ _ hR3 (by decide);refine hK.out _ _ hS4 (fun _=>?_);clear hK K hS3 hR3 hown3
 try simp only[zZ]
 refine zq 19 fun K hK=>?_;go_simp;refine hK.out _ _ hS4 (fun _=>?_);clear hK K
 try simp only[zZ]
 refine zd ?_;have HK4:Hid (Kp [] w w4):=hKw1.trans (Kp.of_below ((hbl2.trans hbl3).trans hbl4) (Nat.le_refl _)) (by simp);have hxs:u8s ([lv,(cn:Int)]++ps.flatMap qD4++hs.flatMap qD7)=u8s (qK2 lv ps hs):=by rw[qK2,←HCN.out]
 rw[hxs] at hown4;obtain⟨N,hN⟩:∃ N,2+meas ρ ps+meas qA0 hs=N:=⟨_,rfl⟩;rw[hN] at hown4;have HN:=zh hN;rcases hown4.2 with⟨_,h0⟩|⟨g,cap,cur,rfl,hg,hgr,hle,_,hsz,htk⟩
 ·omega
 have HTK:Hid (cur.toList.take N=u8s (qK2 lv ps hs)):=by show _=_;rw[←htk,Nat.mul_one]
 have HSZ:Hid (N≤cur.size∧N≤128):=⟨by rw[hsz];omega,by rw[←hN];exact HM.out⟩;have HG:=zh hgr;have HR:=zh hR4;clear hown4 htk hsz hgr hR4 hS4 hxs hN hst3 hst4 hbl3 hbl4 hbl2 hKw1 hKw2 hle;go_wp2_with fail;obtain⟨w5,hw5,hO5,hK5,hs5⟩:=qE8 w4 (.cells zeroCells223 223);rw[←hw5];clear hw5;have hg5:=hK5.hp HG.out;have hR5:=hK5.hp HR.out;have hpc:qA1 cur 0 N=(u8s (qK2 lv ps hs)).toArray:=by
  simp only[qA1,List.drop_zero];rw[HTK.out]
 have hone:∀ v∈(qA1 cur 0 N).toList,v.oneCell'=true:=by
  rw[hpc];intro v hv;simp only[u8s,List.mem_map] at hv;obtain⟨x,_,rfl⟩:=hv;rfl
 rw[qO5 (n:=N) 3 underlying90 Tryz.size5 (by have:=HSZ.out.2;show N=min N 128;omega) hO5 hg5 (by rw[qF5];have:=HSZ.out.2;omega) (by have:=HSZ.out.1;omega) hone,hpc];have hlaid:qD6 zeroCells223 0 (u8s (qK2 lv ps hs)).toArray=(u8s (qA2 lv ps hs)).toArray:=jF3 lv ps hs;rw[hlaid];obtain⟨B,hB⟩:∃ B,B=(u8s (qA2 lv ps hs)).toArray:=⟨_,rfl⟩;have hBs:B.size=128:=by rw[hB];simp only[List.size_toArray,xG9];exact qP0 lv ps hs HM.out
 have hB1:∀ v∈B.toList,v.oneCell'=true:=by
  rw[hB];intro v hv;simp only[u8s,List.mem_map] at hv;obtain⟨x,_,rfl⟩:=hv;rfl
 rw[←hB];have HB:=zh hB;have hRs:=ζ HR.out;have hwR:w.heap.size≠w4.heap.size:=by omega
 obtain⟨w6,hw6,hO6,hR6,hK6,hs6⟩:∃ w6,w6=w5.setRow w4.heap.size B∧w6.heap[w4.heap.size]?=some (.cells B 223)∧w6.heap[w.heap.size]?=some (.cells zeroCells223 223)∧Kp [] w w6∧w6.heap.size=w5.heap.size:=
  ⟨_,rfl,setRow_heap _ _ _ _ _ _ hO5,(setRow_other _ _ _ _ hwR).trans hR5,(HK4.out.tr hK5).setRow (Or.inr (by have:=HK4.out.size;omega)) _,by simp⟩
 rw[←hw6];clear hw6 hpc hone hR5 hO5 hg5 hK5 hlaid hB;have hpp:qA1 B 0 128=B:=by rw[←hBs];simp[qA1,List.take_of_length_le]
 go_wp2_with (
  with_reducible refine qM4 (t:=223) ?_ 128 ?_ w4.heap.size 0 ?_ B 223 (0,0) ?_ ?_ ?_
  ·kernel_rfl
  ·kernel_rfl
  ·rfl
  ·exact hO6
  ·omega)
 rw[qI9 hR6 (by simp[qF5,hBs]) hB1];rw[show B.toList.toArray=B from by simp,qH1 (by rw[qF5,hBs])];obtain⟨w7,hw7,hR7,hK7⟩:∃ w7,w7=w6.setRow w.heap.size B∧w7.heap[w.heap.size]?=some (.cells B 223)∧Kp [] w w7:=
  ⟨_,rfl,setRow_heap _ _ _ _ _ _ hR6,hK6.setRow (Or.inr (Nat.le_refl _)) _⟩
 rw[←hw7];clear hw7 hO6 hR6 hK6;go_wp2_with fail;exact bodyPost_ret (results_cell_row results182 _ _ w.heap.size _ _ _ _ rfl hR7 underlying223 rfl (by rw[hBs];kernel_rfl)) rfl ⟨by rw[HB.out],hK7⟩
variable {κ:Nat}
def nx(c:Int):Int:=wrap64 (c+1)
def nk(c:Int):Nat→Int
 | 0=>c
 | k+1=>nx (nk c k)
theorem xS9(A n C:Nat)(cache:Value)(calls writes:Int)(w:World)(h:w.heap[A]?=some (qA8 κ n C cache calls writes)):
  Calls prog 252 #[.pointer (some ⟨A,0,none⟩)] w fun e w'=>e=.returned (.bool false)∧w'=w.setCell ⟨A,2,none⟩ (.int .i64 (nx calls)):=by
 have c2:=ξ h 2;have c5:=ξ h 5;have c6:=ξ h 6;have c7:=ξ h 7;simp at c2 c5 c6 c7;have f2:=ψ h 2;clear h;have hn1:wrap64 (calls+1)=nx calls:=rfl;by_cases hd0:calls<0
 ·have hd:decide (calls<0)=true:=by simp[hd0]
  have he:decide (0≤calls)=false:=by simp;omega
  go_enter func252,ntmps252;go_wp2;go_ret;exact⟨rfl,rfl⟩
 have hd:decide (calls<0)=false:=by simp;omega
 go_enter func252,ntmps252;go_wp2;go_ret;exact⟨rfl,rfl⟩
theorem jQ7(A n C:Nat)(calls writes:Int)(i:Nat)(cs:Array Value)(w:World)(h:w.heap[A]?=some (qA8 κ n C (.slice none 0 0) calls writes))
  (hi:i<n) (hn:n≤1000) (hC:w.heap[C]?=some (.cells cs 87)) (hs:n*128≤cs.size) (hby:allBytes cs) (hAC:C≠A):
  Calls prog 250 #[.pointer (some ⟨A,0,none⟩),.int .i64 i] w fun e w'=>∃ g,e=.returned (.tuple #[.slice (some ⟨g,0,none⟩) 128 128,.nilIface])∧w.heap.size≤g∧
   w'.heap[g]?=some (.cells (qA1 cs (i*128) 128) 5)∧w'.heap[A]?=some (qA8 κ n C (.slice none 0 0) (nx calls) writes)∧Kp [A] w w':=by
 have c0:=ξ h 0;have c1:=ξ h 1;simp at c0 c1;have hA:=ζ h;have hCs:=ζ hC;go_enter func250,ntmps250;go_wp2_with fail;refine (xS9 A n C _ calls writes _ h).mono ?_;rintro e w1 ⟨rfl,rfl⟩;go_wp2_with fail;refine (zK4 A n C (.slice none 0 0) (nx calls) writes i _ (φ h 2 _) (by omega) (by omega)).mono ?_;rintro e w1 ⟨rfl,rfl⟩
 go_wp2_with (refine zN5 (.int .u8 0) (.int .u8 0) 1 1 underlying90 Tryz.info5 (by simp[Value.cells]) (by simp[Value.cells]) .i64 .i64 128 rfl rfl (by decide) (by decide) ?_;intro Z hZ hZ0)
 have hN:((w.setCell ⟨A,2,none⟩ (.int .i64 (nx calls))).alloc (.cells Z 5)).heap[w.heap.size]?=some (.cells Z 5):=by
  simpa using μ (w.setCell ⟨A,2,none⟩ (.int .i64 (nx calls))) (.cells Z 5)
 have hC':=θ (.cells Z 5) ((qA9 hAC 2 (.int .i64 (nx calls))).trans hC);rw[qO5 (n:=128) 3 underlying90 Tryz.size5 rfl hN hC' (by omega) (by omega) (qO6 hby _ _).one];obtain⟨W1,hW1,hK1,hA1,hG1⟩:∃ W1,W1=((w.setCell ⟨A,2,none⟩ (.int .i64 (nx calls))).alloc (.cells Z 5)).setRow w.heap.size (qD6 Z 0 (qA1 cs (i*128) 128))∧Kp [A] w W1∧
   W1.heap[A]?=some (qA8 κ n C (.slice none 0 0) (nx calls) writes)∧W1.heap[w.heap.size]?=some (.cells (qA1 cs (i*128) 128) 5):=
  ⟨_,rfl,(((Kp.refl _ _).sc _).alloc _).setRow (by simp) _,(setRow_other _ _ _ _ (by omega)).trans (θ _ (φ h 2 _)),by
   rw[setRow_heap _ _ _ _ _ _ hN,qH1 (by rw[qO4 (by omega)];omega)]⟩
 rw[←hW1];clear hW1 hN hC' c0 c1 h;have c1:=ξ hA1 1;simp at c1;go_wp2;refine wp_loop_rounds 1 ?_;rw[rounds_succ];go_wp2
 go_ret2
 exact⟨_,rfl,Nat.le_refl _,hG1,hA1,hK1⟩
theorem xB3(V A n C:Nat)(calls writes:Int)(i:Nat)(l:List UInt8)(w:World)(hV:w.heap[V]?=some (qC8 A n))(h:w.heap[A]?=some (qA8 κ n C (.slice none 0 0) calls writes))
  (hi:i<n) (hn:n≤1000) (hC:w.heap[C]?=some (.cells (enc l) 87)) (hs:n*128≤l.length) (hAC:C≠A) (hVA:V≠A):
  Calls prog 151 #[.pointer (some ⟨V,0,none⟩),.int .i64 i] w fun e w'=>e=.returned (.agg (enc (χ l i)))∧
   w'.heap[A]?=some (qA8 κ n C (.slice none 0 0) (nx calls) writes)∧Kp [A] w w':=by
 have c0:=ξ hV 0;simp at c0;have hVs:=ζ hV;have hA:=ζ h;have hCs:=ζ hC;go_enter func151,ntmps151;go_wp2_with fail;refine (jQ7 A n C calls writes i (enc l) _ (θ _ h) hi hn (θ _ hC) (by rw[qD2];exact hs) (qF9 l) hAC).mono ?_;rintro e w1 ⟨g,rfl,hg,hG,hA1,hK1⟩;rw[qI8] at hG;have hb:χ l i=(l.drop (i*128)).take 128:=rfl;rw[←hb] at hG;have hbl:(χ l i).length=128:=by simp[χ];omega
 clear hb;obtain⟨bl,hb0⟩:∃ bl,χ l i=bl:=⟨_,rfl⟩;rw[hb0] at hG hbl;have HB:=zh hb0;clear hb0;have hR:w1.heap[w.heap.size]?=some (.cells zeroCells223 223):=hK1.heap (μ _ _) (by simp;omega);have hK2:Kp [A] w w1:=((Kp.refl _ _).alloc _).tr hK1;have hgs:w.heap.size+1≤g:=by simpa using hg
 have hg1:=ζ hG;have hA1s:=ζ hA1;clear hK1 hg c0;go_wp2_with fail;have hN:=μ w1 (.cells zeroCells223 223);rw[qO5 (n:=128) 3 underlying90 Tryz.size5 rfl hN (θ _ hG) (by simp[qF5]) (by rw[qD2];omega) (qO6 (qF9 _) _ _).one];rw[qI8,List.drop_zero,List.take_of_length_le (by omega),qH1 (by rw[qF5,qD2,hbl])];obtain⟨W2,hW2,hK3,hA3,hR3,hB3⟩:∃ W2,W2=(w1.alloc (.cells zeroCells223 223)).setRow w1.heap.size (enc bl)∧Kp [A] w W2∧W2.heap[A]?=some (qA8 κ n C (.slice none 0 0) (nx calls) writes)∧
   W2.heap[w.heap.size]?=some (.cells zeroCells223 223)∧W2.heap[w1.heap.size]?=some (.cells (enc bl) 223):=
  ⟨_,rfl,(hK2.alloc _).setRow (Or.inr hK2.size) _,(setRow_other _ _ _ _ (by omega)).trans (θ _ hA1),(setRow_other _ _ _ _ (by omega)).trans (θ _ hR),setRow_heap _ _ _ _ _ _ hN⟩
 rw[←hW2];clear hW2 hN;have hpp:qA1 (enc bl) 0 128=enc bl:=by rw[qI8,List.drop_zero,List.take_of_length_le (by omega)]
 have hes:(enc bl).size=128:=by rw[qD2,hbl]
 go_wp2_with (
  with_reducible refine qM4 (t:=223) ?_ 128 ?_ w1.heap.size 0 ?_ (enc bl) 223 (0,0) ?_ ?_ ?_
  ·kernel_rfl
  ·kernel_rfl
  ·rfl
  ·exact hB3
  ·rw[qD2];omega)
 rw[qI9 hR3 (by simp[qF5,hes]) (qF9 bl).one];rw[show (enc bl).toList.toArray=enc bl from by simp,qH1 (by rw[qF5,hes])];obtain⟨W3,hW3,hK4,hA4,hR4⟩:∃ W3,W3=W2.setRow w.heap.size (enc bl)∧Kp [A] w W3∧W3.heap[A]?=some (qA8 κ n C (.slice none 0 0) (nx calls) writes)∧W3.heap[w.heap.size]?=some (.cells (enc bl) 223):=
  ⟨_,rfl,hK3.setRow (by simp) _,(setRow_other _ _ _ _ (by omega)).trans hA3,setRow_heap _ _ _ _ _ _ hR3⟩
 rw[←hW3];clear hW3;go_wp2_with fail;exact bodyPost_ret (results_cell_row results151 _ _ w.heap.size _ _ _ _ rfl hR4 underlying223 rfl (by rw[hes];kernel_rfl)) rfl ⟨by rw[HB.out],hA4,hK4⟩
variable {κ:Nat}
structure Wr(base A:Nat)(w w':World):Prop where
 os:w'.os=w.os
 tape:w'.tape=w.tape
 output:w'.output=w.output
 size:w.heap.size≤w'.heap.size
 low:∀ k,k<base→k≠A→w'.heap[k]?=w.heap[k]?
 oth:∀ (k:Nat) (c:Array Value) (t:TypeId) (fr:Nat × Nat),w.heap[k]?=some (.cells c t fr)→t≠89→k≠A→w'.heap[k]?=some (.cells c t fr)
theorem Wr.trans{base A:Nat}{a b c:World}(h:Wr base A a b)(k:Wr base A b c):Wr base A a c:=
 ⟨k.os.trans h.os,k.tape.trans h.tape,k.output.trans h.output,Nat.le_trans h.size k.size,fun q h1 h2=>(k.low q h1 h2).trans (h.low q h1 h2),fun q c t fr e h1 h2=>k.oth q c t fr (h.oth q c t fr e h1 h2) h1 h2⟩
theorem Wr.ofKp{base A:Nat}{a b:World}(h:Kp [A] a b)(hb:base≤a.heap.size):Wr base A a b:=
 ⟨h.os,h.tape,h.output,h.size,fun k h1 h2=>h.block k (by omega) (by simpa using h2),fun k c t fr e h1 h2=>h.heap e (by simpa using h2)⟩
theorem Wr.grown{base A:Nat}{a w w':World}{sz:Nat}{v:Value}{n:Nat}{xs:List Value}(s:Wr base A a w)(hb:base≤a.heap.size)(h:w.ownsRow base 89 sz v n xs)(hg:w.grownBy w' v.ownBlock):Wr base A a w':=
 ⟨hg.os.trans s.os,hg.tape.trans s.tape,hg.output.trans s.output,Nat.le_trans s.size hg.size,fun k h1 h2=>by
  refine (hg.block k (by have:=s.size;omega) ?_).trans (s.low k h1 h2);intro e;have:=qH7 h k e.symm;omega,fun k c t fr e h1 h2=>qP6 h hg (s.oth k c t fr e h1 h2) h1⟩
theorem Wr.kp{base A:Nat}{a w w':World}(h:Wr base A w w')(hK:Kp [A] a w)(hb:a.heap.size≤base):Kp [A] a w':=
 ⟨h.os.trans hK.os,h.tape.trans hK.tape,h.output.trans hK.output,Nat.le_trans hK.size h.size,fun k hk hn=>(h.low k (by omega) (by simpa using hn)).trans (hK.block k hk hn)⟩
theorem qG5{w w':World}{S:List Nat}{base:Nat}{e:TypeId}{sz:Nat}{v:Value}{n:Nat}{xs:List Value}(h:w.ownsRow base e sz v n xs)(hK:Kp S w w')(hS:Apt w S [e]):w'.ownsRow base e sz v n xs:=by
 refine⟨h.1,?_⟩;rcases h.2 with h1|⟨g,cap,cur,h1,h2,h3,h4⟩
 ·exact Or.inl h1
 ·exact Or.inr ⟨g,cap,cur,h1,h2,hK.heap h3 (fun hm=>hS g hm _ _ _ h3 (by simp)),h4⟩
variable {κ:Nat}
def wcs(x:Nat × List UInt8):List Value:=.int .i64 (x.1:Int)::qD8 x.2
def laidAll(l:List UInt8)(ws:List (Nat × List UInt8)):List UInt8:=ws.foldl (fun l x=>qB6 l x.1 x.2) l
theorem zI4(l:List UInt8)(ws:List (Nat × List UInt8))(j:Nat)(h:j<ws.length):laidAll l (ws.take (j+1))=qB6 (laidAll l (ws.take j)) ws[j].1 ws[j].2:=by
 unfold laidAll;rw[List.take_succ_eq_append_getElem h,List.foldl_append];rfl
theorem qX7(l b:List UInt8)(i n:Nat)(hb:b.length=128)(hl:n*128≤l.length)(hi:i<n):n*128≤(qB6 l i b).length:=by
 unfold qB6;simp only[List.length_append,List.length_take,List.length_drop];omega
theorem zL8(l b:List UInt8)(i n:Nat)(hb:b.length=128)(hl:n*128≤l.length)(hi:i<n):(qB6 l i b).length=l.length:=by
 unfold qB6;simp only[List.length_append,List.length_take,List.length_drop];omega
theorem jF1(n:Nat)(ws:List (Nat × List UInt8)):∀ (l:List UInt8),n*128≤l.length→(∀ x∈ws,x.1<n∧x.2.length=128)→(laidAll l ws).length=l.length:=by
 induction ws with
 | nil=>intro l h _;rfl
 | cons a ws ih=>
  intro l h hw;have h1:=hw a (by simp);have h2:=zL8 l a.2 a.1 n h1.2 h h1.1;rw[←h2];exact ih _ (by rw[h2];exact h) (fun x hx=>hw x (by simp[hx]))
theorem qQ2(n:Nat)(ws:List (Nat × List UInt8)):∀ (l:List UInt8),n*128≤l.length→(∀ x∈ws,x.1<n∧x.2.length=128)→n*128≤(laidAll l ws).length:=by
 induction ws with
 | nil=>intro l h _;exact h
 | cons a ws ih=>
  intro l h hw;have h1:=hw a (by simp);exact ih _ (qX7 l a.2 a.1 n h1.2 h h1.1) (fun x hx=>hw x (by simp[hx]))
theorem zG9{α β:Type}(f:α→List β)(m:Nat)(l:List α):(∀ x∈l,(f x).length=m)→∀ j (h:j<l.length),((l.flatMap f).drop (j*m)).take m=f l[j]:=by
 induction l with
 | nil=>intro _ j h;cases h
 | cons a l ih=>
  intro hm j h;have ha:=hm a (by simp)
  cases j with
  | zero=>
   simp only[Nat.zero_mul,List.drop_zero,List.flatMap_cons,zF];rw[List.take_append_of_le_length (by omega),List.take_of_length_le (by omega)]
  | succ j=>
   simp only[List.flatMap_cons,zE];rw[show (j+1)*m=(f a).length+j*m from by rw[ha,Nat.succ_mul];omega,←List.drop_drop,List.drop_left];exact ih (fun x hx=>hm x (by simp[hx])) j (by simpa using h)
variable {κ:Nat}
theorem Wr.tail{base A:Nat}{a w w':World}{S:List Nat}(h:Wr base A a w)(hK:Kp S w w')(hS:∀ k∈S,a.heap.size≤k)(hb:base≤a.heap.size):Wr base A a w':=
 ⟨hK.os.trans h.os,hK.tape.trans h.tape,hK.output.trans h.output,Nat.le_trans h.size hK.size,fun k h1 h2=>(hK.block k (by have:=h.size;omega) (fun hm=>by have:=hS k hm;omega)).trans (h.low k h1 h2),fun k c t fr e h1 h2=>hK.heap (h.oth k c t fr e h1 h2) (fun hm=>by have:=hS k hm;have:=ζ e;omega)⟩
theorem jO8(p:KV)(h:qD0 p):∀ x∈qD4 p,0≤x∧x<256:=by
 obtain⟨h1,h2,h3⟩:=h;intro x hx;simp only[qD4,List.mem_append,List.mem_singleton] at hx;rcases hx with (rfl|hx)|hx
 ·omega
 ·exact zM2 _ x hx
 ·exact zM2 _ x hx
theorem jH0(h:HL)(hk:h.key.size≤8):∀ x∈qD7 h,0≤x∧x<256:=by
 intro x hx;simp only[qD7,List.mem_append,List.mem_singleton] at hx;rcases hx with ((hx|hx)|rfl)|hx
 ·exact qJ5 _ _ x hx
 ·exact qJ5 _ _ x hx
 ·omega
 ·exact zM2 _ x hx
theorem qK3(lv:Int)(ps:List KV)(hs:List HL)(hl0:0≤lv)(hl1:lv<256)(hc:ps.length+hs.length≤255)(hzp:∀ p∈ps,qD0 p)(hzl:∀ p∈hs,p.key.size≤8):∀ x∈qA2 lv ps hs,0≤x∧x<256:=by
 intro x hx;simp only[qA2,qK2,List.mem_append,List.mem_cons,List.not_mem_nil,or_false,List.mem_flatMap] at hx;rcases hx with (((rfl|rfl)|⟨p,hp,hx⟩)|⟨p,hp,hx⟩)|hx
 ·omega
 ·omega
 ·exact jO8 p (hzp p hp) x hx
 ·exact jH0 p (hzl p hp) x hx
 ·rw[List.eq_of_mem_replicate hx];omega
theorem zU1(xs:List Int)(h:∀ x∈xs,0≤x∧x<256):qD8 (toB xs)=u8s xs:=by
 unfold qD8 toB u8s;rw[List.map_map];refine List.map_congr_left fun x hx=>?_;have hb:=h x hx;simp only[Function.comp]
 congr 1
 have e:(UInt8.ofNat x.toNat).toNat=x.toNat:=by
  rw[UInt8.toNat_ofNat'];omega
 rw[e];omega
theorem qG6(xs:List Int):(toB xs).length=xs.length:=by simp[toB]
def StT(T:TypeId)(w w':World):Prop:=∀ (k:Nat) (c:Array Value) (t:TypeId) (fr:Nat × Nat),w.heap[k]?=some (.cells c t fr)→t≠T→w'.heap[k]?=some (.cells c t fr)
theorem StT.refl(T:TypeId)(w:World):StT T w w:=fun _ _ _ _ h _=>h
theorem StT.kp{T:TypeId}{a b c:World}(h:StT T a b)(k:Kp [] b c):StT T a c:=fun q x t fr e ht=>k.heap (h q x t fr e ht) (by simp)
theorem StT.grown{T:TypeId}{a w w':World}{base:Nat}{sz:Nat}{v:Value}{n:Nat}{xs:List Value}(s:StT T a w)(h:w.ownsRow base T sz v n xs)(hg:w.grownBy w' v.ownBlock):StT T a w':=fun q x t fr e ht=>qP6 h hg (s q x t fr e ht) ht
theorem jS1{w:World}{g off k cap:Nat}{cur:Array Value}{t:TypeId}{fr:Nat × Nat}{l:List UInt8}(hg:w.heap[g]?=some (.cells cur t fr))(hin:off+k≤cur.size)(hp:qA1 cur off k=(qD8 l).toArray):
  Sem.run prog (convert 90 9 (.slice (some ⟨g,off,none⟩) k cap)) w=.ok (.string ⟨l.toArray⟩) w:=by
 rw[run_convert_bytes_string w _ _ _ _ _ _ underlying90 underlying5 underlying9];have e:(l.map (fun b=>(b.toNat:Int))).map (Value.int .u8)=qD8 l:=by simp[qD8]
 have hload:=zD0 (P:=prog) (o:=off) (n:=k) hg hin;rw[hp,←e] at hload;rw[run_bytesToString w _ _ _ _ hload,zV7];simp
theorem zL7{w:World}{g off k cap:Nat}{cur:Array Value}{t:TypeId}{fr:Nat × Nat}{s:ByteArray}(hg:w.heap[g]?=some (.cells cur t fr))(hin:off+k≤cur.size)(hp:qA1 cur off k=(qD8 s.data.toList).toArray):
  Sem.run prog (convert 90 9 (.slice (some ⟨g,off,none⟩) k cap)) w=.ok (.string s) w:=by
 rw[jS1 hg hin hp,Array.toArray_toList]
theorem qX9(s:ByteArray):toB (qL9 s)=s.data.toList:=by
 unfold toB qL9;rw[List.map_map];refine Eq.trans (List.map_congr_left (g:=id) fun b _=>?_) (List.map_id _);simp only[Function.comp,Int.toNat_natCast,id];exact UInt8.ofNat_toNat
theorem xN9(bl:List UInt8)(off:Nat)(p:KV)(hp:qD0 p)(hpc:(bl.drop off).take (ρ p)=toB (qD4 p)):
  (enc bl)[off]?=some (.int .u8 ((p.k.size:Int)*16+p.v.size))∧qA1 (enc bl) (off+1) p.k.size=(qD8 p.k.data.toList).toArray∧qA1 (enc bl) (off+1+p.k.size) p.v.size=(qD8 p.v.data.toList).toArray:=by
 obtain⟨h1,h2,h3⟩:=hp;have hps:ρ p=1+p.k.size+p.v.size:=rfl;have hkl:p.k.data.toList.length=p.k.size:=Array.length_toList;have hvl:p.v.data.toList.length=p.v.size:=Array.length_toList;have e:(bl.drop off).take (ρ p)=[UInt8.ofNat ((p.k.size:Int)*16+p.v.size).toNat]++p.k.data.toList++p.v.data.toList:=by
  rw[hpc,qD4,qM2,qM2,qX9,qX9];rfl
 obtain⟨l,hl⟩:∃ l,l=bl.drop off:=⟨_,rfl⟩;rw[←hl] at e;refine⟨?_,?_,?_⟩
 ·have e0:l[0]?=some (UInt8.ofNat ((p.k.size:Int)*16+p.v.size).toNat):=by
   have:=congrArg (fun z=>z[0]?) e;simp only[List.getElem?_take,List.append_assoc,List.cons_append,List.nil_append,zH] at this;rw[if_pos (by omega)] at this;exact this
  rw[hl,List.getElem?_drop,Nat.add_zero] at e0;unfold enc qD8;rw[zG,List.getElem?_map,e0];simp only[Option.map_some,Option.some.injEq,Value.int.injEq,true_and];rw[UInt8.toNat_ofNat'];omega
 ·rw[qI8];have e1:(bl.drop (off+1)).take p.k.size=p.k.data.toList:=by
   rw[←List.drop_drop,←hl];have h:=congrArg (fun z=>(z.drop 1).take p.k.size) e;simp only[List.drop_take,List.take_take,List.append_assoc,List.cons_append,List.nil_append,List.drop_succ_cons,List.drop_zero] at h;rw[Nat.min_eq_left (by omega),List.take_left' hkl] at h;exact h
  rw[e1];rfl
 ·rw[qI8];have e2:(bl.drop (off+1+p.k.size)).take p.v.size=p.v.data.toList:=by
   rw[Nat.add_assoc,←List.drop_drop,←hl];have h:=congrArg (fun z=>(z.drop (1+p.k.size)).take p.v.size) e;simp only[List.drop_take,List.take_take] at h;rw[Nat.min_eq_left (by omega)] at h;rw[h,List.drop_left' (by simp[hkl];omega),List.take_of_length_le (by omega)]
  rw[e2];rfl
theorem jP9(B base off:Nat)(bl:List UInt8)(p:KV)(ps:List KV)(v:Value)(w:World)(hB:w.heap[B]?=some (.cells (enc bl) 223))(hbl:bl.length=128)(hp:qD0 p)(hoff:off+ρ p≤128)
  (hpc:(bl.drop off).take (ρ p)=toB (qD4 p)) (hv:w.ownsRow base 158 2 v ps.length (qB0 ps)) (hb:base≤w.heap.size) (hl:ps.length≤1000):
  Calls prog 190 #[v,.slice (some ⟨B,off,none⟩) (128-off) (128-off)] w fun e w'=>∃ v' r,e=.returned (.tuple #[v',r,.bool true])∧(off+ρ p<128→r=.slice (some ⟨B,off+ρ p,none⟩) (128-(off+ρ p)) (128-(off+ρ p)))∧(∃ o,r=.slice (some ⟨B,o,none⟩) (128-(off+ρ p)) (128-(off+ρ p)))∧
   w'.ownsRow base 158 2 v' (ps.length+1) (qB0 (ps++[p]))∧Below base w w'∧StT 158 w w':=by
 obtain⟨hp1,hp2,hp3⟩:=hp;have hps:ρ p=1+p.k.size+p.v.size:=rfl;obtain⟨m,hm⟩:∃ m,m=128-off:=⟨_,rfl⟩;obtain⟨x,hx⟩:∃ x:Int,x=(p.k.size:Int)*16+p.v.size:=⟨_,rfl⟩;obtain⟨kn,hkn⟩:∃ kn:Nat,kn=p.k.size:=⟨_,rfl⟩;obtain⟨vn,hvn⟩:∃ vn:Nat,vn=p.v.size:=⟨_,rfl⟩;have hk16:x / 16=(kn:Int):=by omega
 have hv16:x % 16=(vn:Int):=by omega
 have hm1:(0:Int)<(m:Int):=by omega
 have hm0:((m:Int) == 0)=false:=by simp;omega
 have hc1:¬(kn:Int)<1:=by omega
 have hc2:¬(8:Int)<(kn:Int):=by omega
 have hc3:¬(12:Int)<(vn:Int):=by omega
 have hc4:¬(m:Int)<1+(kn:Int)+(vn:Int):=by omega
 have hsh:=xN9 bl off p ⟨hp1,hp2,hp3⟩ hpc;obtain⟨hq0,hqk,hqv⟩:=hsh;have b0:w.cell? ⟨B,off,none⟩=some (.int .u8 x):=by rw[ξ hB,hx];exact hq0
 rw[←hkn] at hqk hqv;rw[←hvn] at hqv;have HQK:=zh hqk;have HQV:=zh hqv;have HOF:Hid (m=128-off∧off+(1+kn+vn)≤128):=⟨hm,by omega⟩;have HPS:Hid (ρ p=1+kn+vn):=by show _=_;omega
 have HB:=zh hB;have HV:=zh hv;have HBL:=zh hbl;have hBs:=ζ hB;rw[←hm,HPS.out];clear hpc hv hB hx hkn hvn hm hq0 hqk hqv hps hoff hbl hp1 hp2 hp3;go_enter func190,ntmps190;go_wp2_with fail
 go_quiet (fail)
 go_wp2_with fail;obtain⟨w0,hw0,hB0,hKw0,hs0⟩:∃ w0,w0=w.drewN nq∧w0.heap[B]?=some (.cells (enc bl) 223)∧Kp [] w w0∧w0.heap.size=w.heap.size:=⟨_,rfl,HB.out,(Kp.refl _ _).drewN _,rfl⟩;rw[←hw0];clear hw0 b0 hk16 hv16 hm1 hm0 hc1 hc2 hc3 hc4;have hkm:kn≤m-1:=by have:=HOF.out;omega
 have hkv:kn+vn≤m-1:=by have:=HOF.out;omega
 have hkmi:(kn:Int)≤((m-1:Nat):Int):=by omega
 have hkvi:(kn:Int)+(vn:Int)≤((m-1:Nat):Int):=by omega
 have hkk:(kn:Int)≤(kn:Int)+(vn:Int):=by omega
 have hwkv:IntKind.i64.wrap ((kn:Int)+(vn:Int))=(kn:Int)+(vn:Int):=by rw[IntKind.wrap_i64];have:=HOF.out;omega
 obtain⟨o9,ho9⟩:∃ o9,o9=if m-1=kn then off+1 else off+1+kn:=⟨_,rfl⟩
 have HO9:=zh ho9;clear ho9;have hsub:((kn:Int)+(vn:Int)).toNat-kn=vn:=by omega
 have hin1:off+1+kn≤(enc bl).size:=by rw[qD2,HBL.out];have:=HOF.out;omega
 have hin2:off+1+kn+vn≤(enc bl).size:=by rw[qD2,HBL.out];have:=HOF.out;omega
 have hin9:o9+vn≤(enc bl).size:=by
  rw[HO9.out];split
  ·omega
  ·exact hin2
 have HQ9:Hid (qA1 (enc bl) o9 vn=(qD8 p.v.data.toList).toArray):=by
  show _=_;rw[HO9.out];split
  ·rename_i he;have hv0:vn=0:=by omega
   have h:=HQV.out;rw[hv0] at h ⊢;rw[←h];simp[qA1]
  ·exact HQV.out
 have hSd:w0.drew.heap[B]?=some (.cells (enc bl) 223):=hB0;refine wp_region_held_drew (S:=fun W=>W.heap[B]?=some (.cells (enc bl) 223)) (by kernel_rfl) hSd (fun _=>?_);refine zU 0 (.slice (some ⟨B,off+1,none⟩) (m-1) (m-1)) hSd ?_;refine zU 1 (.int .i64 kn) hSd ?_;refine zU 2 (.slice (some ⟨B,off+1,none⟩) kn (m-1)) hSd ?_;refine zV 3 (.string p.k) rfl (fun W hS=>by have h:=zL7 (cap:=m-1) hS hin1 HQK.out;clear hS;go_simp) hSd ?_;refine zU 4 (.slice (some ⟨B,off+1,none⟩) (m-1) (m-1)) hSd ?_;refine zU 5 (.int .i64 kn) hSd ?_;refine zU 6 (.int .i64 kn) hSd ?_;refine zU 7 (.int .i64 vn) hSd ?_;refine zU 8 (.int .i64 ((kn:Int)+(vn:Int))) hSd ?_;refine zV 9 (.slice (some ⟨B,o9,none⟩) vn (m-1-kn)) rfl (fun W hS=>by clear hS;go_simp;rw[HO9.out];split<;>rfl) hSd ?_;refine zV 10 (.string p.v) rfl (fun W hS=>by have h:=zL7 (cap:=m-1-kn) hS hin9 HQ9.out;clear hS;go_simp) hSd ?_;refine zU 11 (.agg #[.string p.k,.string p.v]) hSd ?_;refine zU 12 (.agg #[.string p.k,.string p.v]) hSd ?_;refine zq 13 fun K hK=>?_;go_simp;obtain⟨w1,hw1,hP1,hB1,hKw1,hs1⟩:∃ w1,w1=(w0.alloc (.cells #[.string ⟨#[]⟩,.string ⟨#[]⟩] 158)).drew∧w1.heap[w.heap.size]?=some (.cells #[.string ⟨#[]⟩,.string ⟨#[]⟩] 158)∧w1.heap[B]?=some (.cells (enc bl) 223)∧Kp [] w w1∧w1.heap.size=w.heap.size+1:=
  ⟨_,rfl,by rw[←hs0];exact μ w0 _,θ _ hB0,(hKw0.alloc _).drew,by simp[hs0]⟩
 rw[←hw1];clear hw1;refine hK.out _ _ hB1 (fun _=>?_);clear hK K hSd
 try simp only[zZ]
 refine zq 14 fun K hK=>?_;have z0:=ξ hP1;have f0:=ψ hP1;have hP1s:=ζ hP1;have HP1:=zh hP1;have HB1:=zh hB1;clear hP1 hB1;go_simp;obtain⟨w2,hw2,hP2,hB2,hKw2,hs2⟩:∃ w2,w2=(w1.setCell ⟨w.heap.size,0,none⟩ (.string p.k)).setCell ⟨w.heap.size,1,none⟩ (.string p.v)∧w2.heap[w.heap.size]?=some (.cells #[.string p.k,.string p.v] 158)∧w2.heap[B]?=some (.cells (enc bl) 223)∧Kp [] w w2∧w2.heap.size=w.heap.size+1:=
  ⟨_,rfl,φ (φ HP1.out 0 _) 1 _,(qA9 (by omega) _ _).trans ((qA9 (by omega) _ _).trans HB1.out),(hKw1.setCell (Or.inr (Nat.le_refl _)) _).setCell (Or.inr (Nat.le_refl _)) _,by simp[hs1]⟩
 rw[←hw2];clear hw2 z0 f0;refine hK.out _ _ hB2 (fun _=>?_);clear hK K;refine zd ?_
 try simp only[zZ]
 go_wp2_with fail;obtain⟨o8,ho8⟩:∃ o8,o8=if m-1=kn+vn then off+1 else off+1+(kn+vn):=⟨_,rfl⟩
 have HO8:=zh ho8;clear ho8;have h0kv:(0:Int)≤(kn:Int)+(vn:Int):=by omega
 have hkvt:((kn:Int)+(vn:Int)).toNat=kn+vn:=by omega
 have hS2:w2.drew.heap[w.heap.size]?=some (.cells #[.string p.k,.string p.v] 158):=hP2;refine wp_region_held_drew (S:=fun W=>W.heap[w.heap.size]?=some (.cells #[.string p.k,.string p.v] 158)) (by kernel_rfl) hS2 (fun _=>?_);refine zU 0 v hS2 ?_;refine zW 1 (.agg #[.string p.k,.string p.v]) hS2 id ?_;refine zU 4 (.slice (some ⟨B,off+1,none⟩) (m-1) (m-1)) hS2 ?_;refine zU 5 (.int .i64 kn) hS2 ?_;refine zU 6 (.int .i64 vn) hS2 ?_;refine zU 7 (.int .i64 ((kn:Int)+(vn:Int))) hS2 ?_;refine zV 8 (.slice (some ⟨B,o8,none⟩) (m-1-(kn+vn)) (m-1-(kn+vn))) rfl (fun W hS=>by clear hS;go_simp;rw[HO8.out];split<;>rfl) hS2 ?_;refine zq 2 fun K hK=>?_;go_simp;obtain⟨w3,hw3,hN3,hP3,hKw3,hs3⟩:∃ w3,w3=(w2.alloc (.cells #[.string p.k,.string p.v] 158)).drew∧w3.heap[w2.heap.size]?=some (.cells #[.string p.k,.string p.v] 158)∧w3.heap[w.heap.size]?=some (.cells #[.string p.k,.string p.v] 158)∧Kp [] w w3∧w3.heap.size=w2.heap.size+1:=
  ⟨_,rfl,μ w2 _,θ _ hP2,(hKw2.alloc _).drew,by simp⟩
 rw[←hw3];clear hw3;refine hK.out _ _ hP3 (fun _=>?_);clear hK K hS2
 try simp only[zZ]
 have hown3:w3.ownsRow base 158 2 v ps.length (qB0 ps):=qG5 HV.out hKw3 (Apt.nil _ _);refine zq 3 fun K hK=>?_;refine qM1 rfl rfl (.agg #[.string ⟨#[]⟩,.string ⟨#[]⟩]) 2 32 underlying149 zH6 rfl (by decide) base v ps.length (qB0 ps) (by simp[Act.eval]) hown3 w2.heap.size 0 1 1 #[.string p.k,.string p.v] 158 (0,0) (by simp[Act.eval]) hN3 (by simp) (by simp[qA1,Value.oneCell']) (by omega) (by omega) (by omega) ?_;intro v4 w4 hown4 hgr4 _;have hP4:w4.heap[w.heap.size]?=some (.cells #[.string p.k,.string p.v] 158):=by
  refine (hgr4.block _ (by omega) ?_).trans hP3;rcases HV.out.2 with⟨rfl,_⟩|⟨g,cap,cur,rfl,_,hh,_⟩
  ·simp[Value.ownBlock]
  ·intro e;simp only[Value.ownBlock,Option.some.injEq] at e;have:=ζ hh;omega
 have HO4:Hid (w4.ownsRow base 158 2 v4 (ps.length+1) (qB0 (ps++[p]))):=by
  have e:qB0 (ps++[p])=qB0 ps++(qA1 #[.string p.k,.string p.v] 0 (1*2)).toList:=by simp[qB0,pcs,qA1]
  show World.ownsRow _ _ _ _ _ _ _;rw[e];exact hown4
 have HL4:Hid (Below base w w4):=(hKw3.below hb (by simp)).grown hgr4 (by omega) (qH7 hown3);have HS4:Hid (StT 158 w w4):=((StT.refl _ w).kp hKw3).grown hown3 hgr4;refine hK.out _ _ hP4 (fun _=>?_);clear hK K hown4 hgr4 hown3
 try simp only[zZ]
 refine zq 9 fun K hK=>?_;go_simp;refine hK.out _ _ hP4 (fun _=>?_);clear hK K
 try simp only[zZ]
 refine zq 10 fun K hK=>?_;go_simp;refine hK.out _ _ hP4 (fun _=>?_);clear hK K
 try simp only[zZ]
 refine zq 11 fun K hK=>?_;go_simp;refine hK.out _ _ hP4 (fun _=>?_);clear hK K
 try simp only[zZ]
 refine zd ?_;have HEND:Hid (off+(1+kn+vn)<128→(Value.slice (some ⟨B,o8,none⟩) (m-1-(kn+vn)) (m-1-(kn+vn)))=.slice (some ⟨B,off+(1+kn+vn),none⟩) (128-(off+(1+kn+vn))) (128-(off+(1+kn+vn)))):=by
  intro hlt;have h1:=HOF.out;rw[HO8.out,if_neg (by omega),show off+1+(kn+vn)=off+(1+kn+vn) from by omega,show m-1-(kn+vn)=128-(off+(1+kn+vn)) from by omega]
 clear hP4 hN3 hP3 hP2 hB2;go_wp2
 go_ret3
 refine⟨v4,_,rfl,HEND.out,⟨o8,?_⟩,HO4.out,HL4.out,HS4.out⟩;show Value.slice (some ⟨B,o8,none⟩) (m-1-(kn+vn)) (m-1-(kn+vn))=_;rw[show m-1-(kn+vn)=128-(off+(1+kn+vn)) from by have:=HOF.out;omega]
end Go.Proofs.YtdohpenfkdckiabGreatDoor
