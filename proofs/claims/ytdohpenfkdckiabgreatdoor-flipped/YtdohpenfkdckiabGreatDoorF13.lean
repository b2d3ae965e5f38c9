import Derived.Test.YtdohpenfkdckiabGreatDoorF12
import Derived.ChangeKeysEq
set_option linter.all false
set_option maxRecDepth 100000
set_option maxHeartbeats 20000000
namespace Go.Proofs.YtdohpenfkdckiabGreatDoor
open Go.Proofs.Tryz
open Go.RowKit
def StT(T:TypeId)(w w':World):Prop:=∀ (k:Nat) (c:Array Value) (t:TypeId) (fr:Nat × Nat),w.heap[k]?=some (.cells c t fr)→t≠T→w'.heap[k]?=some (.cells c t fr)
theorem StT.refl(T:TypeId)(w:World):StT T w w:=fun _ _ _ _ h _=>h
theorem StT.kp{T:TypeId}{a b c:World}(h:StT T a b)(k:Kp [] b c):StT T a c:=fun q x t fr e ht=>k.heap (h q x t fr e ht) (by simp)
theorem StT.grown{T:TypeId}{a w w':World}{base:Nat}{sz:Nat}{v:Value}{n:Nat}{xs:List Value}(s:StT T a w)(h:w.ownsRow base T sz v n xs)(hg:w.grownBy w' v.ownBlock):StT T a w':=fun q x t fr e ht=>qO6 h hg (s q x t fr e ht) ht
theorem jO5{w:World}{g off k cap:Nat}{cur:Array Value}{t:TypeId}{fr:Nat × Nat}{l:List UInt8}(hg:w.heap[g]?=some (.cells cur t fr))(hin:off+k≤cur.size)(hp:qA4 cur off k=(qC9 l).toArray):
  Sem.run prog (convert 90 9 (.slice (some ⟨g,off,none⟩) k cap)) w=.ok (.string ⟨l.toArray⟩) w:=by
 rw[run_convert_bytes_string w _ _ _ _ _ _ underlying90 underlying5 underlying9];have e:(l.map (fun b=>(b.toNat:Int))).map (Value.int .u8)=qC9 l:=by simp[qC9]
 have hload:=zD1 (P:=prog) (o:=off) (n:=k) hg hin;rw[hp,←e] at hload;rw[run_bytesToString w _ _ _ _ hload,zS5];simp
theorem zK7{w:World}{g off k cap:Nat}{cur:Array Value}{t:TypeId}{fr:Nat × Nat}{s:ByteArray}(hg:w.heap[g]?=some (.cells cur t fr))(hin:off+k≤cur.size)(hp:qA4 cur off k=(qC9 s.data.toList).toArray):
  Sem.run prog (convert 90 9 (.slice (some ⟨g,off,none⟩) k cap)) w=.ok (.string s) w:=by
 rw[jO5 hg hin hp,Array.toArray_toList]
theorem qR1(s:ByteArray):toB (qL8 s)=s.data.toList:=by
 unfold toB qL8;rw[List.map_map];refine Eq.trans (List.map_congr_left (g:=id) fun b _=>?_) (List.map_id _);simp only[Function.comp,Int.toNat_natCast,id];exact UInt8.ofNat_toNat
theorem xK2(bl:List UInt8)(off:Nat)(p:KV)(hp:qC5 p)(hpc:(bl.drop off).take (μ p)=toB (qD2 p)):
  (enc bl)[off]?=some (.int .u8 ((p.k.size:Int)*16+p.v.size))∧qA4 (enc bl) (off+1) p.k.size=(qC9 p.k.data.toList).toArray∧qA4 (enc bl) (off+1+p.k.size) p.v.size=(qC9 p.v.data.toList).toArray:=by
 obtain⟨h1,h2,h3⟩:=hp;have hps:μ p=1+p.k.size+p.v.size:=rfl;have hkl:p.k.data.toList.length=p.k.size:=Array.length_toList;have hvl:p.v.data.toList.length=p.v.size:=Array.length_toList;have e:(bl.drop off).take (μ p)=[UInt8.ofNat ((p.k.size:Int)*16+p.v.size).toNat]++p.k.data.toList++p.v.data.toList:=by
  rw[hpc,qD2,qH3,qH3,qR1,qR1];rfl
 obtain⟨l,hl⟩:∃ l,l=bl.drop off:=⟨_,rfl⟩;rw[←hl] at e;refine⟨?_,?_,?_⟩
 ·have e0:l[0]?=some (UInt8.ofNat ((p.k.size:Int)*16+p.v.size).toNat):=by
   have:=congrArg (fun z=>z[0]?) e;simp only[List.getElem?_take,List.append_assoc,List.cons_append,List.nil_append,zH] at this;rw[if_pos (by omega)] at this;exact this
  rw[hl,List.getElem?_drop,Nat.add_zero] at e0;unfold enc qC9;rw[zG,List.getElem?_map,e0];simp only[Option.map_some,Option.some.injEq,Value.int.injEq,true_and];rw[UInt8.toNat_ofNat'];omega
 ·rw[qL1];have e1:(bl.drop (off+1)).take p.k.size=p.k.data.toList:=by
   rw[←List.drop_drop,←hl];have h:=congrArg (fun z=>(z.drop 1).take p.k.size) e;simp only[List.drop_take,List.take_take,List.append_assoc,List.cons_append,List.nil_append,List.drop_succ_cons,List.drop_zero] at h;rw[Nat.min_eq_left (by omega),List.take_left' hkl] at h;exact h
  rw[e1];rfl
 ·rw[qL1];have e2:(bl.drop (off+1+p.k.size)).take p.v.size=p.v.data.toList:=by
   rw[Nat.add_assoc,←List.drop_drop,←hl];have h:=congrArg (fun z=>(z.drop (1+p.k.size)).take p.v.size) e;simp only[List.drop_take,List.take_take] at h;rw[Nat.min_eq_left (by omega)] at h;rw[h,List.drop_left' (by simp[hkl];omega),List.take_of_length_le (by omega)]
  rw[e2];rfl
theorem zZ9(B base off:Nat)(bl:List UInt8)(p:KV)(ps:List KV)(v:Value)(w:World)(hB:w.heap[B]?=some (.cells (enc bl) 223))(hbl:bl.length=128)(hp:qC5 p)(hoff:off+μ p≤128)
  (hpc:(bl.drop off).take (μ p)=toB (qD2 p)) (hv:w.ownsRow base 158 2 v ps.length (qA8 ps)) (hb:base≤w.heap.size) (hl:ps.length≤1000):
  Calls prog 190 #[v,.slice (some ⟨B,off,none⟩) (128-off) (128-off)] w fun e w'=>∃ v' r,e=.returned (.tuple #[v',r,.bool true])∧(off+μ p<128→r=.slice (some ⟨B,off+μ p,none⟩) (128-(off+μ p)) (128-(off+μ p)))∧(∃ o,r=.slice (some ⟨B,o,none⟩) (128-(off+μ p)) (128-(off+μ p)))∧
   w'.ownsRow base 158 2 v' (ps.length+1) (qA8 (ps++[p]))∧Below base w w'∧StT 158 w w':=by
 obtain⟨hp1,hp2,hp3⟩:=hp;have hps:μ p=1+p.k.size+p.v.size:=rfl;obtain⟨m,hm⟩:∃ m,m=128-off:=⟨_,rfl⟩;obtain⟨x,hx⟩:∃ x:Int,x=(p.k.size:Int)*16+p.v.size:=⟨_,rfl⟩;obtain⟨kn,hkn⟩:∃ kn:Nat,kn=p.k.size:=⟨_,rfl⟩;obtain⟨vn,hvn⟩:∃ vn:Nat,vn=p.v.size:=⟨_,rfl⟩;have hk16:x / 16=(kn:Int):=by omega
 have hv16:x % 16=(vn:Int):=by omega
 have hm1:(0:Int)<(m:Int):=by omega
 have hm0:((m:Int) == 0)=false:=by simp;omega
 have hc1:¬(kn:Int)<1:=by omega
 have hc2:¬(8:Int)<(kn:Int):=by omega
 have hc3:¬(12:Int)<(vn:Int):=by omega
 have hc4:¬(m:Int)<1+(kn:Int)+(vn:Int):=by omega
 have hsh:=xK2 bl off p ⟨hp1,hp2,hp3⟩ hpc;obtain⟨hq0,hqk,hqv⟩:=hsh;have b0:w.cell? ⟨B,off,none⟩=some (.int .u8 x):=by rw[ξ hB,hx];exact hq0
 rw[←hkn] at hqk hqv;rw[←hvn] at hqv;have HQK:=zh hqk;have HQV:=zh hqv;have HOF:Hid (m=128-off∧off+(1+kn+vn)≤128):=⟨hm,by omega⟩;have HPS:Hid (μ p=1+kn+vn):=by show _=_;omega
 have HB:=zh hB;have HV:=zh hv;have HBL:=zh hbl;have hBs:=ζ hB;rw[←hm,HPS.out];clear hpc hv hB hx hkn hvn hm hq0 hqk hqv hps hoff hbl hp1 hp2 hp3;go_enter func190,ntmps190;go_wp2_with fail
 go_quiet (fail)
 go_wp2_with fail;obtain⟨w0,hw0,hB0,hKw0,hs0⟩:∃ w0,w0=w.drewN nq∧w0.heap[B]?=some (.cells (enc bl) 223)∧Kp [] w w0∧w0.heap.size=w.heap.size:=⟨_,rfl,HB.out,(Kp.refl _ _).drewN _,rfl⟩;rw[←hw0];clear hw0 b0 hk16 hv16 hm1 hm0 hc1 hc2 hc3 hc4;have hkm:kn≤m-1:=by have:=HOF.out;omega
 have hkv:kn+vn≤m-1:=by have:=HOF.out;omega
 have hkmi:(kn:Int)≤((m-1:Nat):Int):=by omega
 have hkvi:(kn:Int)+(vn:Int)≤((m-1:Nat):Int):=by omega
 have hkk:(kn:Int)≤(kn:Int)+(vn:Int):=by omega
 have hwkv:IntKind.i64.wrap ((kn:Int)+(vn:Int))=(kn:Int)+(vn:Int):=by rw[IntKind.wrap_i64];have:=HOF.out;omega
 obtain⟨o9,ho9⟩:∃ o9,o9=if m-1=kn then off+1 else off+1+kn:=⟨_,rfl⟩
 have HO9:=zh ho9;clear ho9;have hsub:((kn:Int)+(vn:Int)).toNat-kn=vn:=by omega
 have hin1:off+1+kn≤(enc bl).size:=by rw[qE6,HBL.out];have:=HOF.out;omega
 have hin2:off+1+kn+vn≤(enc bl).size:=by rw[qE6,HBL.out];have:=HOF.out;omega
 have hin9:o9+vn≤(enc bl).size:=by
  rw[HO9.out];split
  ·omega
  ·exact hin2
 have HQ9:Hid (qA4 (enc bl) o9 vn=(qC9 p.v.data.toList).toArray):=by
  show _=_;rw[HO9.out];split
  ·rename_i he;have hv0:vn=0:=by omega
   have h:=HQV.out;rw[hv0] at h ⊢;rw[←h];simp[qA4]
  ·exact HQV.out
 have hSd:w0.drew.heap[B]?=some (.cells (enc bl) 223):=hB0;refine wp_region_held_drew (S:=fun W=>W.heap[B]?=some (.cells (enc bl) 223)) (by kernel_rfl) hSd (fun _=>?_);refine zU 0 (.slice (some ⟨B,off+1,none⟩) (m-1) (m-1)) hSd ?_;refine zU 1 (.int .i64 kn) hSd ?_;refine zU 2 (.slice (some ⟨B,off+1,none⟩) kn (m-1)) hSd ?_;refine zV 3 (.string p.k) rfl (fun W hS=>by have h:=zK7 (cap:=m-1) hS hin1 HQK.out;clear hS;go_simp) hSd ?_;refine zU 4 (.slice (some ⟨B,off+1,none⟩) (m-1) (m-1)) hSd ?_;refine zU 5 (.int .i64 kn) hSd ?_;refine zU 6 (.int .i64 kn) hSd ?_;refine zU 7 (.int .i64 vn) hSd ?_;refine zU 8 (.int .i64 ((kn:Int)+(vn:Int))) hSd ?_;refine zV 9 (.slice (some ⟨B,o9,none⟩) vn (m-1-kn)) rfl (fun W hS=>by clear hS;go_simp;rw[HO9.out];split<;>rfl) hSd ?_;refine zV 10 (.string p.v) rfl (fun W hS=>by have h:=zK7 (cap:=m-1-kn) hS hin9 HQ9.out;clear hS;go_simp) hSd ?_;refine zU 11 (.agg #[.string p.k,.string p.v]) hSd ?_;refine zU 12 (.agg #[.string p.k,.string p.v]) hSd ?_;refine zq 13 fun K hK=>?_;go_simp;obtain⟨w1,hw1,hP1,hB1,hKw1,hs1⟩:∃ w1,w1=(w0.alloc (.cells #[.string ⟨#[]⟩,.string ⟨#[]⟩] 158)).drew∧w1.heap[w.heap.size]?=some (.cells #[.string ⟨#[]⟩,.string ⟨#[]⟩] 158)∧w1.heap[B]?=some (.cells (enc bl) 223)∧Kp [] w w1∧w1.heap.size=w.heap.size+1:=
  ⟨_,rfl,by rw[←hs0];exact ν w0 _,θ _ hB0,(hKw0.alloc _).drew,by simp[hs0]⟩
 rw[←hw1];clear hw1;refine hK.out _ _ hB1 (fun _=>?_);clear hK K hSd
 try simp only[zZ]
 refine zq 14 fun K hK=>?_;have z0:=ξ hP1;have f0:=ω hP1;have hP1s:=ζ hP1;have HP1:=zh hP1;have HB1:=zh hB1;clear hP1 hB1;go_simp;obtain⟨w2,hw2,hP2,hB2,hKw2,hs2⟩:∃ w2,w2=(w1.setCell ⟨w.heap.size,0,none⟩ (.string p.k)).setCell ⟨w.heap.size,1,none⟩ (.string p.v)∧w2.heap[w.heap.size]?=some (.cells #[.string p.k,.string p.v] 158)∧w2.heap[B]?=some (.cells (enc bl) 223)∧Kp [] w w2∧w2.heap.size=w.heap.size+1:=
  ⟨_,rfl,ψ (ψ HP1.out 0 _) 1 _,(qA6 (by omega) _ _).trans ((qA6 (by omega) _ _).trans HB1.out),(hKw1.setCell (Or.inr (Nat.le_refl _)) _).setCell (Or.inr (Nat.le_refl _)) _,by simp[hs1]⟩
 rw[←hw2];clear hw2 z0 f0;refine hK.out _ _ hB2 (fun _=>?_);clear hK K;refine zd ?_
 try simp only[zZ]
 go_wp2_with fail;obtain⟨o8,ho8⟩:∃ o8,o8=if m-1=kn+vn then off+1 else off+1+(kn+vn):=⟨_,rfl⟩
 have HO8:=zh ho8;clear ho8;have h0kv:(0:Int)≤(kn:Int)+(vn:Int):=by omega
 have hkvt:((kn:Int)+(vn:Int)).toNat=kn+vn:=by omega
 have hS2:w2.drew.heap[w.heap.size]?=some (.cells #[.string p.k,.string p.v] 158):=hP2;refine wp_region_held_drew (S:=fun W=>W.heap[w.heap.size]?=some (.cells #[.string p.k,.string p.v] 158)) (by kernel_rfl) hS2 (fun _=>?_);refine zU 0 v hS2 ?_;refine zW 1 (.agg #[.string p.k,.string p.v]) hS2 id ?_;refine zU 4 (.slice (some ⟨B,off+1,none⟩) (m-1) (m-1)) hS2 ?_;refine zU 5 (.int .i64 kn) hS2 ?_;refine zU 6 (.int .i64 vn) hS2 ?_;refine zU 7 (.int .i64 ((kn:Int)+(vn:Int))) hS2 ?_;refine zV 8 (.slice (some ⟨B,o8,none⟩) (m-1-(kn+vn)) (m-1-(kn+vn))) rfl (fun W hS=>by clear hS;go_simp;rw[HO8.out];split<;>rfl) hS2 ?_;refine zq 2 fun K hK=>?_;go_simp;obtain⟨w3,hw3,hN3,hP3,hKw3,hs3⟩:∃ w3,w3=(w2.alloc (.cells #[.string p.k,.string p.v] 158)).drew∧w3.heap[w2.heap.size]?=some (.cells #[.string p.k,.string p.v] 158)∧w3.heap[w.heap.size]?=some (.cells #[.string p.k,.string p.v] 158)∧Kp [] w w3∧w3.heap.size=w2.heap.size+1:=
  ⟨_,rfl,ν w2 _,θ _ hP2,(hKw2.alloc _).drew,by simp⟩
 rw[←hw3];clear hw3;refine hK.out _ _ hP3 (fun _=>?_);clear hK K hS2
 try simp only[zZ]
 have hown3:w3.ownsRow base 158 2 v ps.length (qA8 ps):=qF4 HV.out hKw3 (Apt.nil _ _);refine zq 3 fun K hK=>?_;refine qL9 rfl rfl (.agg #[.string ⟨#[]⟩,.string ⟨#[]⟩]) 2 32 underlying149 zG7 rfl (by decide) base v ps.length (qA8 ps) (by simp[Act.eval]) hown3 w2.heap.size 0 1 1 #[.string p.k,.string p.v] 158 (0,0) (by simp[Act.eval]) hN3 (by simp) (by simp[qA4,Value.oneCell']) (by omega) (by omega) (by omega) ?_;intro v4 w4 hown4 hgr4 _;have hP4:w4.heap[w.heap.size]?=some (.cells #[.string p.k,.string p.v] 158):=by
  refine (hgr4.block _ (by omega) ?_).trans hP3;rcases HV.out.2 with⟨rfl,_⟩|⟨g,cap,cur,rfl,_,hh,_⟩
  ·simp[Value.ownBlock]
  ·intro e;simp only[Value.ownBlock,Option.some.injEq] at e;have:=ζ hh;omega
 have HO4:Hid (w4.ownsRow base 158 2 v4 (ps.length+1) (qA8 (ps++[p]))):=by
  have e:qA8 (ps++[p])=qA8 ps++(qA4 #[.string p.k,.string p.v] 0 (1*2)).toList:=by simp[qA8,pcs,qA4]
  show World.ownsRow _ _ _ _ _ _ _;rw[e];exact hown4
 have HL4:Hid (Below base w w4):=(hKw3.below hb (by simp)).grown hgr4 (by omega) (qI3 hown3);have HS4:Hid (StT 158 w w4):=((StT.refl _ w).kp hKw3).grown hown3 hgr4;refine hK.out _ _ hP4 (fun _=>?_);clear hK K hown4 hgr4 hown3
 try simp only[zZ]
 refine zq 9 fun K hK=>?_;go_simp;refine hK.out _ _ hP4 (fun _=>?_);clear hK K
 try simp only[zZ]
 refine zq 10 fun K hK=>?_;go_simp;refine hK.out _ _ hP4 (fun _=>?_);clear hK K
 try simp only[zZ]
 refine zq 11 fun K hK=>?_;go_simp;refine hK.out _ _ hP4 (fun _=>?_);clear hK K
 try simp only[zZ]
 refine zd ?_;have HEND:Hid (off+(1+kn+vn)<128→(Value.slice (some ⟨B,o8,none⟩) (m-1-(kn+vn)) (m-1-(kn+vn)))=.slice (some ⟨B,off+(1+kn+vn),none⟩) (128-(off+(1+kn+vn))) (128-(off+(1+kn+vn)))):=by
  intro hlt;have h1:=HOF.out;rw[HO8.out,if_neg (by omega),show off+1+(kn+vn)=off+(1+kn+vn) from by omega,show m-1-(kn+vn)=128-(off+(1+kn+vn)) from by omega]
 clear hP4 hN3 hP3 hP2 hB2;go_wp2
 go_ret3
 refine⟨v4,_,rfl,HEND.out,⟨o8,?_⟩,HO4.out,HL4.out,HS4.out⟩;show Value.slice (some ⟨B,o8,none⟩) (m-1-(kn+vn)) (m-1-(kn+vn))=_;rw[show m-1-(kn+vn)=128-(off+(1+kn+vn)) from by have:=HOF.out;omega]
theorem zD3{α:Type}{R:α→Prop}{G:Prop}(h:∃ a,R a∧(R a→G)):G:=h.elim fun _ h=>h.2 h.1
theorem qV1{α:Type}(l:List α)(off N:Nat)(A B C:List α)(h:(l.drop off).take N=A++B++C):(l.drop (off+A.length)).take B.length=B:=by
 have hl:(A++B++C).length≤N:=by rw[←h];exact List.length_take_le _ _
 simp only[List.length_append] at hl;have h2:=congrArg (fun z=>(z.drop A.length).take B.length) h;simp only[List.drop_take,List.take_take,List.drop_drop,List.append_assoc,List.drop_left,List.take_left] at h2;rw[Nat.min_eq_left (by omega)] at h2;exact h2
theorem qR5(bl:List UInt8)(o k:Nat)(xs:List Int)(hx:∀ x∈xs,0≤x∧x<256)(hk:xs.length=k)(h:(bl.drop o).take k=toB xs):∀ j,j<k→(enc bl)[o+j]?=some (.int .u8 (xs.getD j 0)):=by
 intro j hj;have h1:=congrArg (fun z=>(qC9 z)[j]?) h;simp only[qC9,List.getElem?_map,List.getElem?_take,if_pos hj,List.getElem?_drop] at h1;unfold enc qC9;rw[zG,List.getElem?_map,h1,←List.getElem?_map];have e:=zQ7 xs hx;unfold qC9 at e;rw[e];unfold u8s;rw[List.getElem?_map,List.getElem?_eq_getElem (by omega),List.getD_eq_getElem?_getD,List.getElem?_eq_getElem (by omega)];rfl
theorem xK3(bl:List UInt8)(off:Nat)(h:HL)(hk:h.key.size≤8)(hpc:(bl.drop off).take (φ h)=toB (qD3 h)):
  (∀ j,j<2→(enc bl)[off+j]?=some (.int .u8 ((qB0 2 h.b).getD j 0)))∧(∀ j,j<8→(enc bl)[off+2+j]?=some (.int .u8 ((qB0 8 h.s).getD j 0)))∧
  (enc bl)[off+10]?=some (.int .u8 (h.key.size:Int))∧qA4 (enc bl) (off+11) h.key.size=(qC9 h.key.data.toList).toArray:=by
 have hkl:h.key.data.toList.length=h.key.size:=Array.length_toList;have e:(bl.drop off).take (φ h)=toB (qB0 2 h.b)++toB (qB0 8 h.s)++toB [(h.key.size:Int)]++h.key.data.toList:=by
  rw[hpc,qD3,qH3,qH3,qH3,qR1]
 have l2:(toB (qB0 2 h.b)).length=2:=by rw[qH0,qF8]
 have l8:(toB (qB0 8 h.s)).length=8:=by rw[qH0,qF8]
 have l1:(toB [(h.key.size:Int)]).length=1:=by rw[qH0];rfl
 refine⟨?_,?_,?_,?_⟩
 ·have h2:=qV1 bl off (φ h) [] (toB (qB0 2 h.b)) (toB (qB0 8 h.s)++toB [(h.key.size:Int)]++h.key.data.toList) (by rw[e];simp);rw[l2] at h2;exact qR5 bl off 2 _ (qJ0 _ _) (qF8 _ _) h2
 ·have h2:=qV1 bl off (φ h) (toB (qB0 2 h.b)) (toB (qB0 8 h.s)) (toB [(h.key.size:Int)]++h.key.data.toList) (by rw[e];simp);rw[l2,l8] at h2;exact qR5 bl (off+2) 8 _ (qJ0 _ _) (qF8 _ _) h2
 ·have h2:=qV1 bl off (φ h) (toB (qB0 2 h.b)++toB (qB0 8 h.s)) (toB [(h.key.size:Int)]) (h.key.data.toList) (by rw[e]);rw[List.length_append,l2,l8,l1] at h2;exact qR5 bl (off+10) 1 [(h.key.size:Int)] (by simp;omega) rfl h2 0 (by omega)
 ·have h2:=qV1 bl off (φ h) (toB (qB0 2 h.b)++toB (qB0 8 h.s)++toB [(h.key.size:Int)]) (h.key.data.toList) [] (by rw[e];simp);rw[List.length_append,List.length_append,l2,l8,l1,hkl] at h2;rw[qL1,h2];rfl
theorem zZ8(B base off:Nat)(bl:List UInt8)(h:HL)(hs:List HL)(v:Value)(w:World)(hB:w.heap[B]?=some (.cells (enc bl) 223))(hbl:bl.length=128)(hp:h.p=none)(hk:h.key.size≤8)(hb0:0≤h.b)(hb1:h.b<65536)(hs0:0≤h.s)(hs1:h.s<18446744073709551616)(hoff:off+φ h≤128)
  (hpc:(bl.drop off).take (φ h)=toB (qD3 h)) (hv:w.ownsRow base 81 4 v hs.length (qA5 hs)) (hb:base≤w.heap.size) (hl:hs.length≤1000):
  Calls prog 191 #[v,.slice (some ⟨B,off,none⟩) (128-off) (128-off)] w fun e w'=>∃ v' r,e=.returned (.tuple #[v',r,.bool true])∧(off+φ h<128→r=.slice (some ⟨B,off+φ h,none⟩) (128-(off+φ h)) (128-(off+φ h)))∧(∃ o,r=.slice (some ⟨B,o,none⟩) (128-(off+φ h)) (128-(off+φ h)))∧
   w'.ownsRow base 81 4 v' (hs.length+1) (qA5 (hs++[h]))∧Below base w w'∧StT 81 w w':=by
 obtain⟨m,hm⟩:∃ m,m=128-off:=⟨_,rfl⟩;obtain⟨kn,hkn⟩:∃ kn:Nat,kn=h.key.size:=⟨_,rfl⟩;have hsz:φ h=11+kn:=by rw[hkn];rfl
 obtain⟨hq1,hq2,hq3,hq4⟩:=xK3 bl off h hk hpc;rw[←hkn] at hq3 hq4;have hptr:h.ptr=none:=by simp[HL.ptr,hp]
 have hm11:¬(m:Int)<11:=by omega
 have hmx:(10:Int)<(m:Int):=by omega
 have hm2:¬(m:Int)<2:=by omega
 have hm10:¬(m:Int)<10:=by omega
 have hc2:¬(8:Int)<(kn:Int):=by omega
 have hc4:¬(m:Int)<11+(kn:Int):=by omega
 have b10:w.cell? ⟨B,off+10,none⟩=some (.int .u8 (kn:Int)):=by rw[ξ hB];exact hq3
 have HN1:Hid (qD8 (qB0 2 h.b)=h.b):=qK8 2 h.b (by omega) hb0 (by simpa using hb1);have HN2:Hid (qD8 (qB0 8 h.s)=h.s):=qK8 8 h.s (by omega) hs0 (by simpa using hs1);have hwb:IntKind.i64.wrap h.b=h.b:=by rw[IntKind.wrap_i64];omega
 have HQ1:=zh hq1;have HQ2:=zh hq2;have HQ4:=zh hq4;have HOF:Hid (m=128-off∧off+(11+kn)≤128):=⟨hm,by omega⟩;have HB:=zh hB;have HV:=zh hv;have HBL:=zh hbl;have hBs:=ζ hB;rw[←hm,hsz];clear hpc hv hB hm hq1 hq2 hq3 hq4 hoff hbl hb0 hb1 hs0 hs1 hk hkn hp hsz;go_enter func191,ntmps191;go_wp2_with fail;have hn2:¬m=2:=by omega
 have hin:off+11+kn≤(enc bl).size:=by rw[qE6,HBL.out];have:=HOF.out;omega
 rename_i K0 hK0;have hSd:w.drew.heap[B]?=some (.cells (enc bl) 223):=HB.out;refine zD3 (R:=fun A=>∀ W,W.heap[w.heap.size]?=some (.cells #[.int .i64 h.b,.int .u64 h.s] 78)→W.heap[B]?=some (.cells (enc bl) 223)→Kp [] w W→W.heap.size=w.heap.size+1→K0 A W) ?_;apply Exists.intro;apply And.intro
 rotate_left
 ·intro HREST;refine wp_region_held_drew (S:=fun W=>W.heap[B]?=some (.cells (enc bl) 223)) (by kernel_rfl) hSd (fun _=>?_);refine zU 0 (.slice (some ⟨B,off,none⟩) m m) hSd ?_;refine zU 1 (.slice (some ⟨B,off,none⟩) 2 m) hSd ?_;refine zU 4 (.slice (some ⟨B,off,none⟩) m m) hSd ?_;refine zU 5 (.slice (some ⟨B,off+2,none⟩) 8 (m-2)) hSd ?_;refine zr 2 8 (fun K hK=>?_) fun K hK=>?_
  ·skip
   go_simp;refine (qU4 B off 2 m (qB0 2 h.b) w.drew (qF8 _ _) (by omega) (fun j hj=>(ξ hSd (off+j)).trans (HQ1.out j hj))).mono ?_;rintro e w' ⟨rfl,hw'⟩;rw[hw',HN1.out];clear hw' w';refine hK.out _ _ hSd (fun _=>?_);clear hK K
   try simp only[zZ]
   refine zU 3 (.int .i64 h.b) hSd ?_;refine zr 6 8 (fun K hK=>?_) fun K hK=>?_
   ·skip
    go_simp;refine (qU4 B (off+2) 8 (m-2) (qB0 8 h.s) w.drew (qF8 _ _) (by omega) (fun j hj=>(ξ hSd (off+2+j)).trans (HQ2.out j hj))).mono ?_;rintro e w' ⟨rfl,hw'⟩;rw[hw',HN2.out];clear hw' w';refine hK.out _ _ hSd (fun _=>?_);clear hK K
    try simp only[zZ]
    refine zU 7 (.agg #[.int .i64 h.b,.int .u64 h.s]) hSd ?_;refine zq 8 fun K hK=>?_;go_simp;obtain⟨w1,hw1,hP1,hB1,hKw1,hs1⟩:∃ w1,w1=(w.alloc (.cells #[.int .i64 0,.int .u64 0] 78)).drew∧w1.heap[w.heap.size]?=some (.cells #[.int .i64 0,.int .u64 0] 78)∧w1.heap[B]?=some (.cells (enc bl) 223)∧Kp [] w w1∧w1.heap.size=w.heap.size+1:=
     ⟨_,rfl,ν w _,θ _ HB.out,((Kp.refl _ _).alloc _).drew,by simp⟩
    rw[←hw1];clear hw1;refine hK.out _ _ hB1 (fun _=>?_);clear hK K
    try simp only[zZ]
    refine zq 9 fun K hK=>?_;have z0:=ξ hP1;have f0:=ω hP1;have hP1s:=ζ hP1;have HP1:=zh hP1;have HB1:=zh hB1;clear hP1 hB1;go_simp;obtain⟨w2,hw2,hP2,hB2,hKw2,hs2⟩:∃ w2,w2=(w1.setCell ⟨w.heap.size,0,none⟩ (.int .i64 h.b)).setCell ⟨w.heap.size,1,none⟩ (.int .u64 h.s)∧w2.heap[w.heap.size]?=some (.cells #[.int .i64 h.b,.int .u64 h.s] 78)∧w2.heap[B]?=some (.cells (enc bl) 223)∧Kp [] w w2∧w2.heap.size=w.heap.size+1:=
     ⟨_,rfl,ψ (ψ HP1.out 0 _) 1 _,(qA6 (by omega) _ _).trans ((qA6 (by omega) _ _).trans HB1.out),(hKw1.setCell (Or.inr (Nat.le_refl _)) _).setCell (Or.inr (Nat.le_refl _)) _,by simp[hs1]⟩
    rw[←hw2];clear hw2 z0 f0;refine hK.out _ _ hB2 (fun _=>?_);clear hK K hKw1 hs1 HP1 HB1 hP1s;refine zd ?_
    try simp only[zZ]
    exact HREST w2 hP2 hB2 hKw2 hs2
   ·skip
    go_simp;obtain⟨w1,hw1,hP1,hB1,hKw1,hs1⟩:∃ w1,w1=(w.alloc (.cells #[.int .i64 0,.int .u64 0] 78)).drew∧w1.heap[w.heap.size]?=some (.cells #[.int .i64 0,.int .u64 0] 78)∧w1.heap[B]?=some (.cells (enc bl) 223)∧Kp [] w w1∧w1.heap.size=w.heap.size+1:=
     ⟨_,rfl,ν w _,θ _ HB.out,((Kp.refl _ _).alloc _).drew,by simp⟩
    rw[←hw1];clear hw1;refine hK.out _ _ hB1 (fun _=>?_);clear hK K
    try simp only[zZ]
    refine zq 6 fun K hK=>?_;go_simp;refine (qU4 B (off+2) 8 (m-2) (qB0 8 h.s) w1 (qF8 _ _) (by omega) (fun j hj=>(ξ hB1 (off+2+j)).trans (HQ2.out j hj))).mono ?_;rintro e w' ⟨rfl,hw'⟩;rw[hw',HN2.out];clear hw' w';refine hK.out _ _ hB1 (fun _=>?_);clear hK K
    try simp only[zZ]
    refine zU 7 (.agg #[.int .i64 h.b,.int .u64 h.s]) hB1 ?_;refine zq 9 fun K hK=>?_;have z0:=ξ hP1;have f0:=ω hP1;have hP1s:=ζ hP1;have HP1:=zh hP1;have HB1:=zh hB1;clear hP1 hB1;go_simp;obtain⟨w2,hw2,hP2,hB2,hKw2,hs2⟩:∃ w2,w2=(w1.setCell ⟨w.heap.size,0,none⟩ (.int .i64 h.b)).setCell ⟨w.heap.size,1,none⟩ (.int .u64 h.s)∧w2.heap[w.heap.size]?=some (.cells #[.int .i64 h.b,.int .u64 h.s] 78)∧w2.heap[B]?=some (.cells (enc bl) 223)∧Kp [] w w2∧w2.heap.size=w.heap.size+1:=
     ⟨_,rfl,ψ (ψ HP1.out 0 _) 1 _,(qA6 (by omega) _ _).trans ((qA6 (by omega) _ _).trans HB1.out),(hKw1.setCell (Or.inr (Nat.le_refl _)) _).setCell (Or.inr (Nat.le_refl _)) _,by simp[hs1]⟩
    rw[←hw2];clear hw2 z0 f0;refine hK.out _ _ hB2 (fun _=>?_);clear hK K hKw1 hs1 HP1 HB1 hP1s;refine zd ?_
    try simp only[zZ]
    exact HREST w2 hP2 hB2 hKw2 hs2
  ·skip
   go_simp;obtain⟨w1,hw1,hP1,hB1,hKw1,hs1⟩:∃ w1,w1=(w.alloc (.cells #[.int .i64 0,.int .u64 0] 78)).drew∧w1.heap[w.heap.size]?=some (.cells #[.int .i64 0,.int .u64 0] 78)∧w1.heap[B]?=some (.cells (enc bl) 223)∧Kp [] w w1∧w1.heap.size=w.heap.size+1:=
    ⟨_,rfl,ν w _,θ _ HB.out,((Kp.refl _ _).alloc _).drew,by simp⟩
   rw[←hw1];clear hw1;refine hK.out _ _ hB1 (fun _=>?_);clear hK K
   try simp only[zZ]
   refine zq 2 fun K hK=>?_;go_simp;refine (qU4 B off 2 m (qB0 2 h.b) w1 (qF8 _ _) (by omega) (fun j hj=>(ξ hB1 (off+j)).trans (HQ1.out j hj))).mono ?_;rintro e w' ⟨rfl,hw'⟩;rw[hw',HN1.out];clear hw' w';refine hK.out _ _ hB1 (fun _=>?_);clear hK K
   try simp only[zZ]
   refine zU 3 (.int .i64 h.b) hB1 ?_;refine zq 6 fun K hK=>?_;go_simp;refine (qU4 B (off+2) 8 (m-2) (qB0 8 h.s) w1 (qF8 _ _) (by omega) (fun j hj=>(ξ hB1 (off+2+j)).trans (HQ2.out j hj))).mono ?_;rintro e w' ⟨rfl,hw'⟩;rw[hw',HN2.out];clear hw' w';refine hK.out _ _ hB1 (fun _=>?_);clear hK K
   try simp only[zZ]
   refine zU 7 (.agg #[.int .i64 h.b,.int .u64 h.s]) hB1 ?_;refine zq 9 fun K hK=>?_;have z0:=ξ hP1;have f0:=ω hP1;have hP1s:=ζ hP1;have HP1:=zh hP1;have HB1:=zh hB1;clear hP1 hB1;go_simp;obtain⟨w2,hw2,hP2,hB2,hKw2,hs2⟩:∃ w2,w2=(w1.setCell ⟨w.heap.size,0,none⟩ (.int .i64 h.b)).setCell ⟨w.heap.size,1,none⟩ (.int .u64 h.s)∧w2.heap[w.heap.size]?=some (.cells #[.int .i64 h.b,.int .u64 h.s] 78)∧w2.heap[B]?=some (.cells (enc bl) 223)∧Kp [] w w2∧w2.heap.size=w.heap.size+1:=
    ⟨_,rfl,ψ (ψ HP1.out 0 _) 1 _,(qA6 (by omega) _ _).trans ((qA6 (by omega) _ _).trans HB1.out),(hKw1.setCell (Or.inr (Nat.le_refl _)) _).setCell (Or.inr (Nat.le_refl _)) _,by simp[hs1]⟩
   rw[←hw2];clear hw2 z0 f0;refine hK.out _ _ hB2 (fun _=>?_);clear hK K hKw1 hs1 HP1 HB1 hP1s;refine zd ?_
   try simp only[zZ]
   exact HREST w2 hP2 hB2 hKw2 hs2
 intro w2 hP2 hB2 hKw2 hs2;refine hK0 _ _ ?_;clear hK0 K0 b10 hm11 hmx hc2 hc4 hwb hn2;go_wp2_with fail;have hP2s:=ζ hP2;have h11:(0:Int)≤11+(kn:Int):=by omega
 have h11a:(11:Int)≤11+(kn:Int):=by omega
 have h11m:¬(m:Int)<11+(kn:Int):=by have:=HOF.out;omega
 have h11n:(11:Int)+(kn:Int)≤(m:Int):=by have:=HOF.out;omega
 have h11t:((11:Int)+(kn:Int)).toNat=11+kn:=by omega
 have hw11:IntKind.i64.wrap (11+(kn:Int))=11+(kn:Int):=by rw[IntKind.wrap_i64];have:=HOF.out;omega
 have hsub:11+kn-11=kn:=by omega
 obtain⟨o7,ho7⟩:∃ o7,o7=if m=11 then off else off+11:=⟨_,rfl⟩
 obtain⟨o8,ho8⟩:∃ o8,o8=if m=11+kn then off else off+(11+kn):=⟨_,rfl⟩
 have HO7:=zh ho7;have HO8:=zh ho8;clear ho7 ho8;have hin7:o7+kn≤(enc bl).size:=by
  rw[HO7.out];have:=HOF.out;split<;>omega
 have HQ7:Hid (qA4 (enc bl) o7 kn=(qC9 h.key.data.toList).toArray):=by
  show _=_;rw[HO7.out];split
  ·rename_i he;have hv0:kn=0:=by have:=HOF.out;omega
   have h:=HQ4.out;rw[hv0] at h ⊢;rw[←h];simp[qA4]
  ·exact HQ4.out
 have hS2:w2.drew.heap[w.heap.size]?=some (.cells #[.int .i64 h.b,.int .u64 h.s] 78)∧w2.drew.heap[B]?=some (.cells (enc bl) 223):=⟨hP2,hB2⟩;refine wp_region_held_drew (S:=fun W=>W.heap[w.heap.size]?=some (.cells #[.int .i64 h.b,.int .u64 h.s] 78)∧W.heap[B]?=some (.cells (enc bl) 223)) (by kernel_rfl) hS2 (fun _=>?_);refine zU 0 (.slice (some ⟨B,off,none⟩) m m) hS2 ?_;refine zU 1 (.int .i64 kn) hS2 ?_;refine zU 2 (.int .i64 (11+(kn:Int))) hS2 ?_;refine zV 3 (.slice (some ⟨B,o7,none⟩) kn (m-11)) rfl (fun W hS=>by clear hS;go_simp;rw[HO7.out];split<;>rfl) hS2 ?_;refine zV 4 (.string h.key) rfl (fun W hS=>by have h:=zK7 (cap:=m-11) hS.2 hin7 HQ7.out;clear hS;go_simp) hS2 ?_;refine zW 5 (.agg #[.int .i64 h.b,.int .u64 h.s]) hS2 (·.1) ?_;refine zU 6 (.agg #[.string h.key,.int .i64 h.b,.int .u64 h.s,.pointer none]) hS2 ?_;refine zq 7 fun K hK=>?_;go_simp;obtain⟨w3,hw3,hL3,hP3,hB3,hKw3,hs3⟩:∃ w3,w3=(w2.alloc (.cells #[.string ⟨#[]⟩,.int .i64 0,.int .u64 0,.pointer none] 81)).drew∧w3.heap[w2.heap.size]?=some (.cells #[.string ⟨#[]⟩,.int .i64 0,.int .u64 0,.pointer none] 81)∧w3.heap[w.heap.size]?=some (.cells #[.int .i64 h.b,.int .u64 h.s] 78)∧w3.heap[B]?=some (.cells (enc bl) 223)∧Kp [] w w3∧w3.heap.size=w2.heap.size+1:=
  ⟨_,rfl,ν w2 _,θ _ hP2,θ _ hB2,(hKw2.alloc _).drew,by simp⟩
 rw[←hw3];clear hw3;rw[hs2] at hL3 hs3;refine hK.out _ _ ⟨hP3,hB3⟩ (fun _=>?_);clear hK K hS2
 try simp only[zZ]
 refine zq 8 fun K hK=>?_;have z0:=ξ hL3;have f0:=ω hL3;have hL3s:=ζ hL3;have HL3:=zh hL3;have HB3:Hid (w3.heap[w.heap.size]?=some (.cells #[.int .i64 h.b,.int .u64 h.s] 78)∧w3.heap[B]?=some (.cells (enc bl) 223)):=⟨hP3,hB3⟩;clear hL3 hP3 hB3;go_simp;have hls:=qK2 (.string h.key) (.int .i64 h.b) (.int .u64 h.s) (.pointer none) HL3.out;obtain⟨w4,hw4,hL4,hK4⟩:∃ w4,w4=(((w3.setCell ⟨w.heap.size+1,0,none⟩ (.string h.key)).setCell ⟨w.heap.size+1,1,none⟩ (.int .i64 h.b)).setCell ⟨w.heap.size+1,2,none⟩ (.int .u64 h.s)).setCell ⟨w.heap.size+1,3,none⟩ (.pointer none)∧w4.heap[w.heap.size+1]?=some (.cells #[.string h.key,.int .i64 h.b,.int .u64 h.s,.pointer none] 81)∧Kp [w.heap.size+1] w3 w4:=⟨_,rfl,hls.1,hls.2⟩;rw[←hw4];clear hw4 hls z0 f0;have hKw4:Kp [] w w4:=hKw3.tr hK4;have hs4:=hK4.size;refine hK.out _ _ ⟨hK4.hp HB3.out.1,hK4.ho HB3.out.2⟩ (fun _=>?_);clear hK K;refine zd ?_
 try simp only[zZ]
 clear HB3 HL3 hKw3 hK4 hL3s;go_wp2_with fail;have hS4:w4.drew.heap[w.heap.size+1]?=some (.cells #[.string h.key,.int .i64 h.b,.int .u64 h.s,.pointer none] 81):=hL4;refine wp_region_held_drew (S:=fun W=>W.heap[w.heap.size+1]?=some (.cells #[.string h.key,.int .i64 h.b,.int .u64 h.s,.pointer none] 81)) (by kernel_rfl) hS4 (fun _=>?_);refine zU 0 v hS4 ?_;refine zW 1 (.agg #[.string h.key,.int .i64 h.b,.int .u64 h.s,.pointer none]) hS4 id ?_;refine zU 4 (.slice (some ⟨B,off,none⟩) m m) hS4 ?_;refine zU 5 (.int .i64 kn) hS4 ?_;refine zU 6 (.int .i64 (11+(kn:Int))) hS4 ?_;refine zV 7 (.slice (some ⟨B,o8,none⟩) (m-(11+kn)) (m-(11+kn))) rfl (fun W hS=>by clear hS;go_simp;rw[HO8.out];split<;>rfl) hS4 ?_;refine zq 2 fun K hK=>?_;go_simp;obtain⟨w5,hw5,hN5,hL5,hKw5,hs5⟩:∃ w5,w5=(w4.alloc (.cells #[.string h.key,.int .i64 h.b,.int .u64 h.s,.pointer none] 81)).drew∧w5.heap[w4.heap.size]?=some (.cells #[.string h.key,.int .i64 h.b,.int .u64 h.s,.pointer none] 81)∧w5.heap[w.heap.size+1]?=some (.cells #[.string h.key,.int .i64 h.b,.int .u64 h.s,.pointer none] 81)∧Kp [] w w5∧w5.heap.size=w4.heap.size+1:=
  ⟨_,rfl,ν w4 _,θ _ hL4,(hKw4.alloc _).drew,by simp⟩
 rw[←hw5];clear hw5;refine hK.out _ _ hL5 (fun _=>?_);clear hK K hS4
 try simp only[zZ]
 have hown5:w5.ownsRow base 81 4 v hs.length (qA5 hs):=qF4 HV.out hKw5 (Apt.nil _ _);refine zq 3 fun K hK=>?_;refine qL9 rfl rfl (.agg #[.string ⟨#[]⟩,.int .i64 0,.int .u64 0,.pointer none]) 4 40 underlying150 qQ0 rfl (by decide) base v hs.length (qA5 hs) (by simp[Act.eval]) hown5 w4.heap.size 0 1 1 #[.string h.key,.int .i64 h.b,.int .u64 h.s,.pointer none] 81 (0,0) (by simp[Act.eval]) hN5 (by simp) (by simp[qA4,Value.oneCell']) (by omega) (by omega) (by omega) ?_;intro v6 w6 hown6 hgr6 _;have hL6:w6.heap[w.heap.size+1]?=some (.cells #[.string h.key,.int .i64 h.b,.int .u64 h.s,.pointer none] 81):=by
  refine (hgr6.block _ (by omega) ?_).trans hL5;rcases HV.out.2 with⟨rfl,_⟩|⟨g,cap,cur,rfl,_,hh,_⟩
  ·simp[Value.ownBlock]
  ·intro e;simp only[Value.ownBlock,Option.some.injEq] at e;have:=ζ hh;omega
 have HO6:Hid (w6.ownsRow base 81 4 v6 (hs.length+1) (qA5 (hs++[h]))):=by
  have e:qA5 (hs++[h])=qA5 hs++(qA4 #[.string h.key,.int .i64 h.b,.int .u64 h.s,.pointer none] 0 (1*4)).toList:=by simp[qA5,lcs,qA4,hptr]
  show World.ownsRow _ _ _ _ _ _ _;rw[e];exact hown6
 have HL6:Hid (Below base w w6):=(hKw5.below hb (by simp)).grown hgr6 (by omega) (qI3 hown5);have HS6:Hid (StT 81 w w6):=((StT.refl _ w).kp hKw5).grown hown5 hgr6;refine hK.out _ _ hL6 (fun _=>?_);clear hK K hown6 hgr6 hown5
 try simp only[zZ]
 refine zq 8 fun K hK=>?_;go_simp;refine hK.out _ _ hL6 (fun _=>?_);clear hK K
 try simp only[zZ]
 refine zq 9 fun K hK=>?_;go_simp;refine hK.out _ _ hL6 (fun _=>?_);clear hK K
 try simp only[zZ]
 refine zq 10 fun K hK=>?_;go_simp;refine hK.out _ _ hL6 (fun _=>?_);clear hK K
 try simp only[zZ]
 refine zd ?_;have HEND:Hid (off+(11+kn)<128→(Value.slice (some ⟨B,o8,none⟩) (m-(11+kn)) (m-(11+kn)))=.slice (some ⟨B,off+(11+kn),none⟩) (128-(off+(11+kn))) (128-(off+(11+kn)))):=by
  intro hlt;have h1:=HOF.out;rw[HO8.out,if_neg (by omega),show m-(11+kn)=128-(off+(11+kn)) from by omega]
 clear hL6 hN5 hL5 hL4 hP2 hB2;go_wp2
 go_ret3
 refine⟨v6,_,rfl,HEND.out,⟨o8,?_⟩,HO6.out,HL6.out,HS6.out⟩;show Value.slice (some ⟨B,o8,none⟩) (m-(11+kn)) (m-(11+kn))=_;rw[show m-(11+kn)=128-(off+(11+kn)) from by have:=HOF.out;omega]
theorem zS0{α:Type}(f:α→List Int)(g:α→Nat)(hf:∀ x,(f x).length=g x)(l:List α)(j:Nat)(h:j<l.length):l.flatMap f=(l.take j).flatMap f++f l[j]++(l.drop (j+1)).flatMap f:=by
 conv=>lhs;rw[←List.take_append_drop j l,List.flatMap_append,List.drop_eq_getElem_cons h,List.flatMap_cons]
 rw[List.append_assoc]
theorem qW7{α:Type}(g:α→Nat)(l:List α)(j:Nat)(h:j<l.length):meas g (l.take j)+g l[j]≤meas g l:=by
 have h1:=qL6 g l j h;have h2:=qN3 g l (j+1);omega
theorem jF6(ps:List KV)  (j:Nat) (h:j<ps.length):((toB (qA1 0 ps [])).drop (2+meas μ (ps.take j))).take (μ ps[j])=toB (qD2 ps[j]):=by
 have e:toB (qA1 0 ps [])=toB ([(0:Int),((ps.length:Nat):Int)]++(ps.take j).flatMap qD2)++toB (qD2 ps[j])++toB ((ps.drop (j+1)).flatMap qD2++List.replicate (128-(2+meas μ ps)) 0):=by
  rw[←qH3,←qH3]
  congr 1
  simp only[qA1,qK3,List.flatMap_nil,List.append_nil,List.length_nil,Nat.add_zero,Nat.zero_add,qD1]
  conv=>lhs;rw[zS0 qD2 μ (fun p=>by first | exact qS3 p | exact qS0 p) ps j h]
  simp only[List.append_assoc]
 have hl:(toB ([(0:Int),((ps.length:Nat):Int)]++(ps.take j).flatMap qD2)).length=2+meas μ (ps.take j):=by
  rw[qH0,List.length_append,zA2 qD2 μ (fun p=>by first | exact qS3 p | exact qS0 p)];rfl
 have hl2:(toB (qD2 ps[j])).length=μ ps[j]:=by
  rw[qH0]
  first | exact qS3 _ | exact qS0 _
 have h2:=qV1 (toB (qA1 0 ps [])) 0 (toB (qA1 0 ps [])).length _ _ _ (by rw[List.drop_zero,List.take_length];exact e);rw[hl,hl2,Nat.zero_add] at h2;exact h2
theorem jF5(ps:List HL)(lv:Int)(hlv0:0<lv)(hlv1:lv<256)(j:Nat)(h:j<ps.length):((toB (qA1 lv [] ps)).drop (2+meas φ (ps.take j))).take (φ ps[j])=toB (qD3 ps[j]):=by
 have e:toB (qA1 lv [] ps)=toB ([(lv:Int),((ps.length:Nat):Int)]++(ps.take j).flatMap qD3)++toB (qD3 ps[j])++toB ((ps.drop (j+1)).flatMap qD3++List.replicate (128-(2+meas φ ps)) 0):=by
  rw[←qH3,←qH3]
  congr 1
  simp only[qA1,qK3,List.flatMap_nil,List.append_nil,List.length_nil,Nat.add_zero,Nat.zero_add,qD1]
  conv=>lhs;rw[zS0 qD3 φ (fun p=>by first | exact qS3 p | exact qS0 p) ps j h]
  simp only[List.append_assoc]
 have hl:(toB ([(lv:Int),((ps.length:Nat):Int)]++(ps.take j).flatMap qD3)).length=2+meas φ (ps.take j):=by
  rw[qH0,List.length_append,zA2 qD3 φ (fun p=>by first | exact qS3 p | exact qS0 p)];rfl
 have hl2:(toB (qD3 ps[j])).length=φ ps[j]:=by
  rw[qH0]
  first | exact qS3 _ | exact qS0 _
 have h2:=qV1 (toB (qA1 lv [] ps)) 0 (toB (qA1 lv [] ps)).length _ _ _ (by rw[List.drop_zero,List.take_length];exact e);rw[hl,hl2,Nat.zero_add] at h2;exact h2
theorem zO9(d:Nat)(x:Int)(W:World):(Op.equalIn (d+1) 5 (.int .u8 x) (.int .u8 x)).run prog W=.ok true W:=by
 simp[Op.equalIn,run_underlying underlying5]
theorem xX2(d:Nat)(E:Array Value)(hb:allBytes E)(W:World):∀ is:List Nat,(∀ i∈is,i<E.size)→(Op.eqItems (d+1) 5 1 E E is).run prog W=.ok true W:=by
 intro is
 induction is with
 | nil=>intro _;rfl
 | cons i is ih=>
  intro h;have hi:=h i (by simp);obtain⟨x,hx⟩:=hb E[i] (by simp);have he:E[i*1]?=some (.int .u8 x):=by rw[Nat.mul_one,Array.getElem?_eq_getElem hi,hx]
  simp only[Op.eqItems,Sem.run_bind,run_part_plain W (P:=prog) (e:=5) (by kernel_rfl) he,Result.andThen_ok,zO9,Bool.not_true,Bool.false_eq_true,if_false];exact ih (fun j hj=>h j (by simp[hj]))
theorem zO6(E:Array Value)(hs:E.size=128)(hb:allBytes E)(W:World):Sem.run prog (Op.equalIn 10000 223 (.agg E) (.agg E)) W=.ok true W:=by
 obtain⟨i0,hi,_⟩:=info_parts Tryz.info5;have h:=run_equalIn_array (P:=prog) W 9999 E E underlying223 hi;refine Eq.trans h ?_;rw[show prog.cellsOf 5=1 from by kernel_rfl];exact xX2 9998 E hb W _ (fun i hi=>by rw[hs];simpa using hi)
end Go.Proofs.YtdohpenfkdckiabGreatDoor
