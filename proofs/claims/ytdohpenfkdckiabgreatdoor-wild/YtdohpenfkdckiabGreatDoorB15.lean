import Derived.Test.YtdohpenfkdckiabGreatDoorB14
set_option linter.all false
set_option maxRecDepth 100000
set_option maxHeartbeats 20000000
namespace Go.Proofs.YtdohpenfkdckiabGreatDoor
open Go.Proofs.Tryz
open Go.RowKit
variable {κ:Nat}
def LeafAt(l:List UInt8)(b:Nat)(s:Int)(ps:List KV):Prop:=s=fnv (qA1 0 ps [])∧ι l b=toB (qA1 0 ps [])∧(∀ p∈ps,qC3 p)∧2+meas ν ps≤128
def zL0(p:HL):Prop:=p.p=none∧p.key.size≤8∧0≤p.b∧p.b<65536∧0≤p.s∧p.s<18446744073709551616
def BranchAt(l:List UInt8)(b:Nat)(s lv:Int)(hs:List HL):Prop:=0<lv∧lv<256∧s=fnv (qA1 lv [] hs)∧ι l b=toB (qA1 lv [] hs)∧(∀ p∈hs,zL0 p)∧2+meas ψ hs≤128
theorem LeafAt.len{l:List UInt8}{b:Nat}{s:Int}{ps:List KV}(h:LeafAt l b s ps):ps.length≤126:=by
 have:=qX6 ν ps (fun p _=>by unfold ν;omega);have:=h.2.2.2;omega
theorem BranchAt.len{l:List UInt8}{b:Nat}{s lv:Int}{ps:List HL}(h:BranchAt l b s lv ps):ps.length≤11:=by
 have h1:∀ xs:List HL,11*xs.length≤meas ψ xs:=fun xs=>by
  induction xs with
  | nil=>simp
  | cons a xs ih=>rw[qE0,List.length_cons];have:ψ a=11+a.key.size:=rfl;omega
 have:=h1 ps;have:=h.2.2.2.2.2;omega
theorem jK8(V A n C:Nat)(calls writes:Int)(i:Nat)(s:Int)(l:List UInt8)(w:World)(hV:w.heap[V]?=some (qB8 A n))(h:w.heap[A]?=some (χ κ n C (.slice none 0 0) calls writes))
  (hi:i<n) (hn:n≤1000) (hC:w.heap[C]?=some (.cells (enc l) 87)) (hs:n*128≤l.length) (hAC:C≠A) (hVA:V≠A) (hno1:∀ ps,¬LeafAt l i s ps) (hno2:∀ lv hs,¬BranchAt l i s lv hs):
  Calls prog 122 #[.pointer (some ⟨V,0,none⟩),.agg #[.int .i64 i,.int .u64 s]] w fun e w'=>(∃ q,e=.returned (.tuple #[q,.bool false]))∧w'.heap[A]?=some (χ κ n C (.slice none 0 0) (nx calls) writes)∧Kp [A] w w':=by
 have hbl:(ι l i).length=128:=by simp[ι];omega
 obtain⟨bl,hb0⟩:∃ bl,ι l i=bl:=⟨_,rfl⟩;rw[hb0] at hbl;obtain⟨E,hE⟩:∃ E,E=enc bl:=⟨_,rfl⟩;have hEs:E.size=128:=by rw[hE,qF2];exact hbl
 have HLOAD:Hid (∀ W,Kp [] w W→Calls prog 151 #[.pointer (some ⟨V,0,none⟩),.int .i64 i] W fun e w'=>e=.returned (.agg E)∧w'.heap[A]?=some (χ κ n C (.slice none 0 0) (nx calls) writes)∧Kp [A] W w'):=fun W hK=>by
  have h:=zJ6 V A n C calls writes i l W (hK.hp hV) (hK.hp h) hi hn (hK.hp hC) hs hAC hVA;rw[hb0,←hE] at h;exact h
 obtain⟨S,hS⟩:∃ S,S=fnv (qD2 bl):=⟨_,rfl⟩;have HPARSE:Hid (S=s→∀ W,Calls prog 166 #[.agg E] W fun e w'=>(∃ q,e=.returned (.tuple #[q,.bool false]))∧Kp [] W w'):=fun hSs W=>by
  rw[hE];obtain⟨x,hx⟩:∃ x,bl[0]?=some x:=⟨_,List.getElem?_eq_getElem (by omega)⟩;by_cases hx0:x=0
  ·subst hx0;exact jN1 bl W hbl hx (fun ps h1 h2 h3=>hno1 ps ⟨by rw[←hSs,hS,h3,qK2 _ (qH0 0 ps [] (by omega) (by omega) (by have:=qX6 ν ps (fun p _=>by unfold ν;omega);simp;omega) h1 (by simp))],by rw[hb0];exact h3,h1,h2⟩)
  ·have h0:0<x.toNat:=by
    rcases Nat.eq_zero_or_pos x.toNat with h|h
    ·exact absurd (UInt8.toNat_inj.1 h) hx0
    ·exact h
   have h1:=x.toNat_lt;exact jM9 bl ((x.toNat:Nat):Int) (by omega) (by omega) W hbl ⟨x,hx,rfl⟩ (fun ps h1 h2 h3=>hno2 ((x.toNat:Nat):Int) ps ⟨by omega,by omega,by rw[←hSs,hS,h3,qK2 _ (qH0 _ [] ps (by omega) (by omega) (by have:=qX6 ψ ps (fun p _=>by unfold ψ;omega);simp;omega) (by simp) (fun p hp=>(h1 p hp).2.1))],by rw[hb0];exact h3,h1,h2⟩)
 have HSUM:Hid (∀ W b cap,W.heap[b]?=some (.cells E 223)→Calls prog 165 #[.slice (some ⟨b,0,none⟩) 128 cap] W fun e w'=>e=.returned (.int .u64 S)∧w'=W):=fun W b cap hb=>by
  rw[hS];refine qY5 b 0 128 cap (qD2 bl) W (by rw[qU0];exact hbl) (by omega) (fun j hj=>?_);rw[ξ hb,hE];unfold enc qC6 qD2;rw[zG,List.getElem?_map,Nat.zero_add,List.getD_eq_getElem?_getD,List.getElem?_map,List.getElem?_eq_getElem (by omega)];rfl
 have hEb:∀ v∈E.toList,v.oneCell'=true:=by rw[hE];exact (qH3 _).one
 have HES:=zh hEs;have hAs:=ζ h;clear hS hE hb0 hbl hs hC hV h hno1 hno2;go_enter func122,ntmps122;go_wp2_with fail;obtain⟨w0,hw0,hP0,hK0,hs0⟩:=qE8 w (.cells #[.int .i64 (i:Int),.int .u64 s] 78);rw[←hw0];clear hw0;refine (HLOAD.out w0 hK0).mono ?_;rintro e w1 ⟨rfl,hA1,hK1⟩;have hP1:=hK1.ho hP0;have hKw1:Kp [A] w w1:=(hK0.mono (by simp)).tr hK1;have hs1:=hK1.size;clear hK1 hP0 hK0 HLOAD;go_wp2_with fail;have hN:=μ w1 (.cells zeroCells223 223);rw[qM0 hN (by simp[qH9,hEs]) hEb];rw[show E.toList.toArray=E from by simp,qJ6 (by rw[qH9,hEs])];obtain⟨w2,hw2,hB2,hP2,hA2,hKw2,hs2⟩:∃ w2,w2=(w1.alloc (.cells zeroCells223 223)).setRow w1.heap.size E∧w2.heap[w1.heap.size]?=some (.cells E 223)∧w2.heap[w.heap.size]?=some (.cells #[.int .i64 (i:Int),.int .u64 s] 78)∧w2.heap[A]?=some (χ κ n C (.slice none 0 0) (nx calls) writes)∧Kp [A] w w2∧w2.heap.size=w1.heap.size+1:=
  ⟨_,rfl,setRow_heap _ _ _ _ _ _ hN,(setRow_other _ _ _ _ (by omega)).trans (θ _ hP1),(setRow_other _ _ _ _ (by omega)).trans (θ _ hA1),(hKw1.alloc _).setRow (Or.inr (by omega)) _,by simp⟩
 rw[←hw2];clear hw2 hN hP1 hA1 hEs hEb;go_wp2_with fail;have hSd:w2.drew.heap[w1.heap.size]?=some (.cells E 223)∧w2.drew.heap[w.heap.size]?=some (.cells #[.int .i64 (i:Int),.int .u64 s] 78):=⟨hB2,hP2⟩;refine wp_region_held_drew (S:=fun W=>W.heap[w1.heap.size]?=some (.cells E 223)∧W.heap[w.heap.size]?=some (.cells #[.int .i64 (i:Int),.int .u64 s] 78)) (by kernel_rfl) hSd (fun _=>?_);refine zU 0 (.slice (some ⟨w1.heap.size,0,none⟩) 128 128) hSd ?_;refine zP 2 w.heap.size 1 hSd ?_;refine zV 3 (.int .u64 s) rfl (fun W hS=>by have a:=ξ hS.2 1;simp only[zG,zH,zI] at a;clear hS;go_simp) hSd ?_;refine zq 1 fun K hK=>?_;go_simp;refine (HSUM.out w2.drew w1.heap.size 128 hB2).mono ?_;rintro e w' ⟨rfl,hw'⟩;rw[hw'];clear hw' w';refine hK.out _ _ hSd (fun _=>?_);clear hK K
 try simp only[zZ]
 obtain⟨bb,hbb⟩:∃ bb:Bool,bb=!(decide (S=s)):=⟨_,rfl⟩;refine zV 4 (.bool bb) rfl (fun W hS=>by clear hS;rw[hbb];by_cases hz:S=s<;>simp only[hz,decide_true,decide_false]<;>go_simp) hSd ?_;refine zd ?_;obtain⟨w3,hw3,hB3,hA3,hKw3,hs3⟩:∃ w3,w3=w2.drew∧w3.heap[w1.heap.size]?=some (.cells E 223)∧w3.heap[A]?=some (χ κ n C (.slice none 0 0) (nx calls) writes)∧Kp [A] w w3∧w3.heap.size=w2.heap.size:=⟨_,rfl,hB2,hA2,hKw2.drew,rfl⟩;rw[←hw3];have hpp:qA2 E 0 128=E:=by rw[←HES.out];simp[qA2,List.take_of_length_le]
 have HEND3:Hid (w3.heap[A]?=some (χ κ n C (.slice none 0 0) (nx calls) writes)∧Kp [A] w w3):=⟨hA3,hKw3⟩;clear hw3 hSd hB2 hP2 hA2 hKw2 hKw1;by_cases hSs:S=s
 ·have hPS:=HPARSE.out hSs;have HPS:=Hid.mk' hPS;rw[show bb=false by rw[hbb];simp[hSs]];clear hbb hPS HPARSE
  go_wp2_with (
   with_reducible refine qQ1 (t:=223) ?_ 128 ?_ w1.heap.size 0 ?_ E 223 (0,0) ?_ ?_ ?_
   ·kernel_rfl
   ·kernel_rfl
   ·rfl
   ·exact hB3
   ·have:=HES.out;omega)
  refine (HPS.out w3).mono ?_;rintro e w4 ⟨⟨q,rfl⟩,hK4⟩;have hA4:=hK4.hp hA3;have HEND:Hid (w4.heap[A]?=some (χ κ n C (.slice none 0 0) (nx calls) writes)∧Kp [A] w w4):=⟨hA4,hKw3.tr hK4⟩;clear hK4 hA4 hA3 hB3 hKw3 hpp HPS HEND3;go_wp2
  go_ret2
  exact⟨⟨q,rfl⟩,HEND.out⟩
 ·rw[show bb=true by rw[hbb];simp[hSs]];clear hbb HPARSE hA3 hB3 hKw3 hpp;go_wp2
  go_ret2
  exact⟨⟨_,rfl⟩,HEND3.out⟩
def qB4(V:Nat)(b:Int)(k:ByteArray):Obj:=.cells #[.pointer (some ⟨V,0,none⟩),.int .i64 b,.string k] 191
theorem qO2(w:World):Calls prog 154 #[.bool true] w fun e w'=>e=.returned (.tuple #[])∧w'=w:=by
 go_enter func154,ntmps154;go_wp2
 go_end0
 exact⟨rfl,rfl⟩
section
variable (V A N C:Nat) (l:List UInt8) (writes:Int) (hN:N≤1000) (hs:N*128≤l.length) (hAC:C≠A) (hVA:V≠A)
include hN hs hAC hVA
end
def RawAt(l:List UInt8)(n b:Nat)(s:Int)(ps:List KV)(hs:List HL):Prop:=(n=0∧hs=[]∧LeafAt l b s ps)∨(0<n∧n<256∧ps=[]∧BranchAt l b s n hs)
def RawM(w:World)(q n:Nat)(ps:List KV)(hs:List HL):Prop:=∃ vp vl,w.heap[q]?=some (υ (n:Int) vp vl)∧Slc w 158 2 vp ps.length (qA9 ps)∧Slc w 81 4 vl hs.length (qA5 hs)
theorem RawM.keep{w w':World}{q n:Nat}{ps:List KV}{hs:List HL}{S:List Nat}(h:RawM w q n ps hs)(hK:Kp S w w')(hS:Apt w S qF9):RawM w' q n ps hs:=by
 obtain⟨vp,vl,h1,h2,h3⟩:=h;exact⟨vp,vl,hK.heap h1 (fun hm=>hS q hm _ _ _ h1 (by decide)),h2.keep hK (hS.sub (by decide)),h3.keep hK (hS.sub (by decide))⟩
theorem RawAt.len{l:List UInt8}{n b:Nat}{s:Int}{ps:List KV}{hs:List HL}(h:RawAt l n b s ps hs):ps.length+hs.length≤126:=by
 rcases h with⟨_,rfl,h⟩|⟨_,_,rfl,h⟩
 ·have:=h.len;simpa using this
 ·have:=h.len;simp;omega
theorem xH1(w:World)(T:TypeId)(sz:Nat):Slc w T sz (.slice none 0 0) 0 []:=⟨by simp,.inl ⟨rfl,none,0,rfl,fun _=>rfl⟩⟩
def cor:List PanicEntry:=[{ v:=.iface 162 (.agg #[.iface 46 (.int .i64 9)]),recovered:=false }]
theorem qO1(w:World):Calls prog 154 #[.bool false] w fun e w'=>e=.panicked cor∧Kp [] w w':=by
 go_enter func154,ntmps154;go_wp2;exact⟨rfl,rfl,rfl,Kp.refl _ _⟩
theorem zZ6(q n:Nat)(ps:List KV)(hs:List HL)(w:World)(h:RawM w q n ps hs)(hc:ps.length+hs.length≤1000):
  Calls prog 129 #[.pointer (some ⟨q,0,none⟩)] w fun e w'=>e=.returned (.int .i64 ((ps.length+hs.length:Nat):Int))∧∃ m,w'=w.drewN m:=by
 obtain⟨vp,vl,h1,h2,h3⟩:=h;obtain⟨pb,pc,rfl⟩:=qJ8 h2;obtain⟨lb,lc,rfl⟩:=qJ8 h3;obtain⟨pl,hpl⟩:∃ pl,pl=ps.length:=⟨_,rfl⟩;obtain⟨ll,hll⟩:∃ ll,ll=hs.length:=⟨_,rfl⟩;rw[←hpl,←hll] at hc h1 ⊢;have hqs:=ζ h1;have q1:=ξ h1;simp only[υ,zG,zH,zI] at q1;clear h1 h2 h3 hpl hll;go_enter func129,ntmps129;go_wp2_with fail
 go_quiet (fail)
 go_wp2;go_ret;exact⟨qL1 (by omega),_,rfl⟩
section
variable (V A N C:Nat) (l:List UInt8) (writes:Int) (hN:N≤1000) (hs0:N*128≤l.length) (hAC:C≠A) (hVA:V≠A)
include hN hs0 hAC hVA
theorem jK7(b:Nat)(s:Int)(w:World)(hd:Devl V A N C l writes w)(hb:b<N):
  Calls prog 122 #[.pointer (some ⟨V,0,none⟩),.agg #[.int .i64 b,.int .u64 s]] w fun e w'=>(((∃ q,e=.returned (.tuple #[q,.bool false])))∨∃ q n ps hs,e=.returned (.tuple #[.pointer (some ⟨q,0,none⟩),.bool true])∧RawM w' q n ps hs∧RawAt l n b s ps hs)∧Devl V A N C l writes w'∧Kp [A] w w':=by
 obtain⟨calls,hA⟩:=hd.hA;by_cases h1:∃ ps,LeafAt l b s ps
 ·obtain⟨ps,hp⟩:=h1;obtain⟨g3,g4,g5,g6⟩:=id hp;rw[g3];refine (zN8 V A N C calls writes b l ps w hd.hV hA hb hN hd.hC hs0 hAC hVA g4 g5 g6 hp.len).mono ?_;rintro e w' ⟨q,v,rfl,hq,_,hown,hA',hK'⟩;rw[g3] at hp;exact⟨.inr ⟨q,0,ps,[],rfl,⟨v,.slice none 0 0,hq,qG3 hown,xH1 _ _ _⟩,.inl ⟨rfl,rfl,hp⟩⟩,⟨hK'.heap hd.hV (by simpa using hVA),⟨_,hA'⟩,hK'.heap hd.hC (by simpa using hAC)⟩,hK'⟩
 ·by_cases h2:∃ lv hs,BranchAt l b s lv hs
  ·obtain⟨lv,hs,hp⟩:=h2;obtain⟨g1,g2,g3,g4,g5,g6⟩:=id hp;obtain⟨n,rfl⟩:=Int.eq_ofNat_of_zero_le (Int.le_of_lt g1);rw[g3];refine (zN7 V A N C calls writes b l hs (n:Int) g1 g2 w hd.hV hA hb hN hd.hC hs0 hAC hVA g4 g5 g6 (by have:=hp.len;omega)).mono ?_;rintro e w' ⟨q,v,rfl,hq,_,hown,hA',hK'⟩;rw[g3] at hp;exact⟨.inr ⟨q,n,[],hs,rfl,⟨.slice none 0 0,v,hq,xH1 _ _ _,qG3 hown⟩,.inr ⟨by omega,by omega,rfl,hp⟩⟩,⟨hK'.heap hd.hV (by simpa using hVA),⟨_,hA'⟩,hK'.heap hd.hC (by simpa using hAC)⟩,hK'⟩
  ·refine (jK8 V A N C calls writes b s l w hd.hV hA hb hN hd.hC hs0 hAC hVA (fun ps hp=>h1 ⟨ps,hp⟩) (fun lv hs hp=>h2 ⟨lv,hs,hp⟩)).mono ?_;rintro e w' ⟨hq,hA',hK'⟩;exact⟨.inl hq,⟨hK'.heap hd.hV (by simpa using hVA),⟨_,hA'⟩,hK'.heap hd.hC (by simpa using hAC)⟩,hK'⟩
theorem zR8(bi s:Int)(G:Nat)(bl:Int)(k:ByteArray)(w:World)(hd:Devl V A N C l writes w)(hG:w.heap[G]?=some (qB4 V bl k))(hb0:0≤bl)(hb1:bl≤1000000):
  Calls prog 156 #[.pointer (some ⟨G,0,none⟩),.agg #[.int .i64 bi,.int .u64 s]] w fun e w'=>(e=.panicked cor∨∃ q n b ps hs,e=.returned (.pointer (some ⟨q,0,none⟩))∧bi=((b:Nat):Int)∧2≤b∧b<N∧RawM w' q n ps hs∧RawAt l n b s ps hs∧w'.heap[G]?=some (qB4 V (bl+1) k))∧Devl V A N C l writes w'∧Kp [A,G] w w':=by
 have HD:=zh hd;have hGA:G≠A:=by obtain⟨c,h⟩:=hd.hA;exact qB7 hG h (by decide)
 have hGs:=ζ hG;have hAs:A<w.heap.size:=by obtain⟨c,h⟩:=hd.hA;exact ζ h
 have HREAD:Hid (∀ b:Nat,bi=((b:Nat):Int)→b<N→∀ W,Devl V A N C l writes W→Calls prog 122 #[.pointer (some ⟨V,0,none⟩),.agg #[.int .i64 bi,.int .u64 s]] W fun e w'=>(((∃ q,e=.returned (.tuple #[q,.bool false])))∨∃ q n ps hs,e=.returned (.tuple #[.pointer (some ⟨q,0,none⟩),.bool true])∧RawM w' q n ps hs∧RawAt l n b s ps hs)∧Devl V A N C l writes w'∧Kp [A] W w'):=fun b hb hbN W hW=>by
  rw[hb];exact jK7 V A N C l writes hN hs0 hAC hVA b s W hW hbN
 go_enter func156,ntmps156;go_wp2_with fail;obtain⟨w0,hw0,hP0,hK0,hsz⟩:=qE8 w (.cells #[.int .i64 bi,.int .u64 s] 78);rw[←hw0];clear hw0;have hG0:=hK0.hp hG;have hV0:=hK0.hp hd.hV;have HK0:=zh hK0;have HG0:=zh hG0;have HP0:=zh hP0;have HV0:=zh hV0;have hDp:Hid (∀ W,Kp [] w W→Devl V A N C l writes W∧Kp [A,G] w W):=fun W hW=>⟨qD4 HD.out hW (by intro k hk;cases hk),hW.mono (by simp)⟩;clear hd hG hK0;by_cases h2:(2:Int)≤bi
 ·by_cases hbN:bi<(N:Int)
  ·obtain⟨b,hb⟩:∃ b:Nat,bi=((b:Nat):Int):=⟨bi.toNat,by omega⟩;have HR:=Hid.mk' (HREAD.out b hb (by omega));have HB:Hid (bi=((b:Nat):Int)∧2≤b∧b<N):=⟨hb,by omega,by omega⟩;have hG0s:=ζ hG0;have hP0s:=ζ hP0;have g0:=ξ hG0 0;have g1:=ξ hG0 1;have g2:=ξ hG0 2;simp only[qB4,zG,zH,zI] at g0 g1 g2;have p0:=ξ hP0;clear hb HREAD hG0 hP0 hV0
   go_quiet (first | (go_at_call 97;exact Calls.quiet_of_same (qZ6 V A N _ HV0.out)) | (go_at_call 154;exact Calls.quiet_of_same (qO2 _)))
   go_wp2_with fail;obtain⟨wq,hwq,hKq⟩:∃ wq,wq=w0.drewN nq∧Kp [] w0 wq:=⟨_,rfl,(Kp.refl _ _).drewN _⟩;rw[←hwq];clear hwq g0 g1 g2 p0;have hKw:Kp [] w wq.drew:=(HK0.out.tr hKq).drew;have hDq:Devl V A N C l writes wq.drew:=(hDp.out _ hKw).1;have hSd:wq.drew.heap[G]?=some (qB4 V bl k)∧wq.drew.heap[w.heap.size]?=some (.cells #[.int .i64 bi,.int .u64 s] 78):=⟨hKq.hp HG0.out,hKq.hp HP0.out⟩;refine wp_region_held_drew (S:=fun W=>W.heap[G]?=some (qB4 V bl k)∧W.heap[w.heap.size]?=some (.cells #[.int .i64 bi,.int .u64 s] 78)) (by kernel_rfl) hSd (fun _=>?_);refine zP 0 G 0 hSd ?_;refine zV 1 (.pointer (some ⟨G,0,none⟩)) rfl (fun W hS=>by have c:=ζ hS.1;clear hS;go_simp) hSd ?_;refine zP 2 G 0 hSd ?_;refine zV 3 (.pointer (some ⟨V,0,none⟩)) rfl (fun W hS=>by have a:=ξ hS.1 0;simp only[qB4,zG,zH,zI] at a;clear hS;go_simp) hSd ?_;refine zV 4 (.agg #[.int .i64 bi,.int .u64 s]) rfl (fun W hS=>by have a:=ξ hS.2;clear hS;go_simp) hSd ?_;refine zq 5 fun K hK=>?_;go_simp;refine (show Calls _ _ _ _ _ from HR.out _ hDq).mono ?_;rintro e w1 ⟨hres,hD1,hK1⟩;have hS1:w1.heap[G]?=some (qB4 V bl k)∧w1.heap[w.heap.size]?=some (.cells #[.int .i64 bi,.int .u64 s] 78):=⟨hK1.heap hSd.1 (by simpa using hGA),hK1.ho hSd.2⟩;have HG1:=zh hS1.1;have HE1:Hid (Devl V A N C l writes w1∧Kp [A,G] w w1):=⟨hD1,(hKw.mono (by simp)).tr hK1⟩;clear hD1 hK1 hSd hKq hKw hDq HR;rcases hres with⟨q,rfl⟩|⟨q,n,ps,hs,rfl,hM,hR⟩
   ·refine hK.out _ _ hS1 (fun _=>?_);clear hK K
    try simp only[zZ]
    refine zU 6 (.tuple #[q,.bool false]) hS1 ?_;refine zU 7 q hS1 ?_;refine zU 8 (.bool false) hS1 ?_;refine zU 9 q hS1 ?_;refine zU 10 (.bool false) hS1 ?_;refine zd ?_
    try simp only[zZ]
    clear hS1;go_wp2_with fail;refine (qO1 w1).mono ?_;rintro e w2 ⟨rfl,hK2⟩;go_wp2;exact⟨rfl,.inl rfl,qD4 HE1.out.1 hK2 (by intro k hk;cases hk),HE1.out.2.tr hK2⟩
   ·refine hK.out _ _ hS1 (fun _=>?_);clear hK K
    try simp only[zZ]
    refine zU 6 (.tuple #[.pointer (some ⟨q,0,none⟩),.bool true]) hS1 ?_;refine zP 7 q 0 hS1 ?_;refine zU 8 (.bool true) hS1 ?_;refine zP 9 q 0 hS1 ?_;refine zU 10 (.bool true) hS1 ?_;refine zd ?_
    try simp only[zZ]
    have HM:Hid (RawM w1 q n ps hs∧RawAt l n b s ps hs):=⟨hM,hR⟩;clear hS1 hM hR;go_wp2_with fail;refine (qO2 w1).mono ?_;rintro e w2 ⟨rfl,hw⟩;rw[hw];clear hw w2;have hG1:=HG1.out;have hG1s:=ζ hG1;have g0:=ξ hG1 0;have g1:=ξ hG1 1;have g2:=ξ hG1 2;simp only[qB4,zG,zH,zI] at g0 g1 g2;have f1:=ρ hG1 1;have hb2:wrap64 (bl+1)=bl+1:=by simp only[wrap64];omega
    clear hG1;go_wp2;go_ret;have hap:Apt w1 [G] qF9:=Apt.one HG1.out (by decide);have hK2:Kp [G] w1 (w1.setCell ⟨G,1,none⟩ (.int .i64 (bl+1))):=(Kp.refl _ _).sc _;obtain⟨e2,e3⟩:=HE1.out;exact⟨.inr ⟨q,n,b,ps,hs,rfl,HB.out.1,HB.out.2.1,HB.out.2.2,HM.out.1.keep hK2 hap,HM.out.2,ω HG1.out 1 _⟩,qD4 e2 hK2 (OffD.one HG1.out (by decide)),e3.tr hK2⟩
  ·clear HREAD;have hSd:w0.drew.heap[G]?=some (qB4 V bl k)∧w0.drew.heap[w.heap.size]?=some (.cells #[.int .i64 bi,.int .u64 s] 78)∧w0.drew.heap[V]?=some (qB8 A N):=⟨hG0,hP0,hV0⟩;refine wp_region_held_drew (S:=fun W=>W.heap[G]?=some (qB4 V bl k)∧W.heap[w.heap.size]?=some (.cells #[.int .i64 bi,.int .u64 s] 78)∧W.heap[V]?=some (qB8 A N)) (by kernel_rfl) hSd (fun _=>?_);refine zP 0 w.heap.size 0 hSd ?_;refine zV 1 (.int .i64 bi) rfl (fun W hS=>by have a:=ξ hS.2.1 0;simp only[zG,zH,zI] at a;clear hS;go_simp) hSd ?_;refine zU 2 (.bool true) hSd ?_;refine zU 3 (.bool true) hSd ?_;refine zP 4 w.heap.size 0 hSd ?_;refine zV 5 (.int .i64 bi) rfl (fun W hS=>by have a:=ξ hS.2.1 0;simp only[zG,zH,zI] at a;clear hS;go_simp) hSd ?_;refine zP 6 G 0 hSd ?_;refine zV 7 (.pointer (some ⟨G,0,none⟩)) rfl (fun W hS=>by have c:=ζ hS.1;clear hS;go_simp) hSd ?_;refine zP 8 G 0 hSd ?_;refine zV 9 (.pointer (some ⟨V,0,none⟩)) rfl (fun W hS=>by have a:=ξ hS.1 0;simp only[qB4,zG,zH,zI] at a;clear hS;go_simp) hSd ?_;refine zq 10 fun K hK=>?_;go_simp;refine (qZ6 V A N _ hSd.2.2).mono ?_;rintro e w1 ⟨rfl,hw1⟩;rw[hw1];clear hw1 w1;refine hK.out _ _ hSd (fun _=>?_);clear hK K
   try simp only[zZ]
   refine zU 11 (.bool false) hSd ?_;refine zU 12 (.bool false) hSd ?_;refine zq 13 fun K hK=>?_;go_simp;refine (qO1 _).mono ?_;rintro e w2 ⟨rfl,hK2⟩;clear hK;go_wp2;obtain⟨e1,e2⟩:=hDp.out _ (HK0.out.drew.tr hK2);exact⟨rfl,.inl rfl,e1,e2⟩
 ·clear HREAD;have hSd:w0.drew.heap[w.heap.size]?=some (.cells #[.int .i64 bi,.int .u64 s] 78):=hP0;refine wp_region_held_drew (S:=fun W=>W.heap[w.heap.size]?=some (.cells #[.int .i64 bi,.int .u64 s] 78)) (by kernel_rfl) hSd (fun _=>?_);refine zP 0 w.heap.size 0 hSd ?_;refine zV 1 (.int .i64 bi) rfl (fun W hS=>by have a:=ξ hS 0;simp only[zG,zH,zI] at a;clear hS;go_simp) hSd ?_;refine zU 2 (.bool false) hSd ?_;refine zU 3 (.bool false) hSd ?_;refine wpAnyH_take (i:=4) (v:=undef) rfl (by kernel_rfl) (by kernel_rfl) (by kernel_rfl) (fun _ _ _ h=>h) (Or.inr ⟨by rfl,rfl⟩) hSd ?_;simp only[zZ];refine wpAnyH_take (i:=5) (v:=undef) rfl (by kernel_rfl) (by kernel_rfl) (by kernel_rfl) (fun _ _ _ h=>h) (Or.inr ⟨by rfl,rfl⟩) hSd ?_;simp only[zZ];refine wpAnyH_take (i:=6) (v:=undef) rfl (by kernel_rfl) (by kernel_rfl) (by kernel_rfl) (fun _ _ _ h=>h) (Or.inr ⟨by rfl,rfl⟩) hSd ?_;simp only[zZ];refine wpAnyH_take (i:=7) (v:=undef) rfl (by kernel_rfl) (by kernel_rfl) (by kernel_rfl) (fun _ _ _ h=>h) (Or.inr ⟨by rfl,rfl⟩) hSd ?_;simp only[zZ];refine wpAnyH_take (i:=8) (v:=undef) rfl (by kernel_rfl) (by kernel_rfl) (by kernel_rfl) (fun _ _ _ h=>h) (Or.inr ⟨by rfl,rfl⟩) hSd ?_;simp only[zZ];refine wpAnyH_take (i:=9) (v:=undef) rfl (by kernel_rfl) (by kernel_rfl) (by kernel_rfl) (fun _ _ _ h=>h) (Or.inr ⟨by rfl,rfl⟩) hSd ?_;simp only[zZ];refine wpAnyH_take (i:=10) (v:=undef) rfl (by kernel_rfl) (by kernel_rfl) (by kernel_rfl) (fun _ _ _ h=>h) (Or.inr ⟨by rfl,rfl⟩) hSd ?_;simp only[zZ];refine wpAnyH_take (i:=11) (v:=undef) rfl (by kernel_rfl) (by kernel_rfl) (by kernel_rfl) (fun _ _ _ h=>h) (Or.inr ⟨by rfl,rfl⟩) hSd ?_;simp only[zZ];refine zU 12 (.bool false) hSd ?_;refine zq 13 fun K hK=>?_;go_simp;refine (qO1 _).mono ?_;rintro e w2 ⟨rfl,hK2⟩;clear hK;go_wp2;obtain⟨e1,e2⟩:=hDp.out _ (HK0.out.drew.tr hK2);exact⟨rfl,.inl rfl,e1,e2⟩
end
section
variable (V A N C:Nat) (l:List UInt8) (writes:Int) (hN:N≤1000) (hs0:N*128≤l.length) (hAC:C≠A) (hVA:V≠A)
include hN hs0 hAC hVA
theorem xS0(n:Nat)(bi s:Int)(G q0:Nat)(vp0 vl0:Value)(bl:Int)(k:ByteArray)(w:World)(hd:Devl V A N C l writes w)(hG:w.heap[G]?=some (qB4 V bl k))(hq0:w.heap[q0]?=some (υ ((n+1:Nat):Int) vp0 vl0))(hb0:0≤bl)(hb1:bl≤1000000)(hn:n<300):
  Calls prog 155 #[.pointer (some ⟨G,0,none⟩),.pointer (some ⟨q0,0,none⟩),.agg #[.int .i64 bi,.int .u64 s]] w fun e w'=>(e=.panicked cor∨∃ q b ps hs,e=.returned (.pointer (some ⟨q,0,none⟩))∧bi=((b:Nat):Int)∧2≤b∧b<N∧RawM w' q n ps hs∧RawAt l n b s ps hs∧3≤ps.length+hs.length∧w'.heap[G]?=some (qB4 V (bl+1) k))∧Devl V A N C l writes w'∧Kp [A,G] w w':=by
 have HREAD:Hid (∀ W,Kp [] w W→Calls prog 156 #[.pointer (some ⟨G,0,none⟩),.agg #[.int .i64 bi,.int .u64 s]] W fun e w'=>(e=.panicked cor∨∃ q n b ps hs,e=.returned (.pointer (some ⟨q,0,none⟩))∧bi=((b:Nat):Int)∧2≤b∧b<N∧RawM w' q n ps hs∧RawAt l n b s ps hs∧w'.heap[G]?=some (qB4 V (bl+1) k))∧Devl V A N C l writes w'∧Kp [A,G] W w'):=fun W hW=>zR8 V A N C l writes hN hs0 hAC hVA bi s G bl k W (qD4 hd hW (by intro k hk;cases hk)) (hW.hp hG) hb0 hb1;have hqG:q0≠G:=qB7 hq0 hG (by decide);have hqA:q0≠A:=by obtain⟨c,h⟩:=hd.hA;exact qB7 hq0 h (by decide)
 have HQ0:=zh hq0;clear hd hG hq0;go_enter func155,ntmps155;go_wp2_with fail;obtain⟨w0,hw0,hP0,hK0,hsz⟩:=qE8 w (.cells #[.int .i64 bi,.int .u64 s] 78);rw[←hw0];clear hw0;refine (show Calls _ _ _ _ _ from HREAD.out w0 hK0).mono ?_;rintro e w1 ⟨hres,hD1,hK1⟩;have HE:Hid (∀ W,Kp [] w1 W→Devl V A N C l writes W∧Kp [A,G] w W):=fun W hW=>⟨qD4 hD1 hW (by intro k hk;cases hk),((hK0.mono (by simp)).tr hK1).tr hW⟩;have HQ1:Hid (w1.heap[q0]?=some (υ ((n+1:Nat):Int) vp0 vl0)):=hK1.heap (hK0.hp HQ0.out) (by simp[hqA,hqG]);clear HREAD hD1 hK1 hK0 hP0 HQ0;rcases hres with rfl|⟨q,m,b,ps,hs,rfl,hb,hb2,hbN,hM,hR,hG1⟩
 ·go_wp2;obtain⟨e1,e2⟩:=HE.out w1 (Kp.refl _ _);exact⟨rfl,.inl rfl,e1,e2⟩
 ·have hcn:=hR.len;have HM:=zh hM;have HB:Hid (bi=((b:Nat):Int)∧2≤b∧b<N):=⟨hb,hb2,hbN⟩;have HR:=zh hR;have HG1:=zh hG1;obtain⟨vp,vl,hq,_,_⟩:=hM;have hm:m<256:=by
   rcases hR with⟨h,_⟩|⟨_,h,_⟩
   ·omega
   ·exact h
  have hq0':=HQ1.out;have hqs:=ζ hq;have hq0s:=ζ hq0';have HQ:=zh hq;have hw1:wrap64 (((n+1:Nat):Int)-1)=(n:Int):=by simp only[wrap64];omega
  have hw2:wrap64 ((n:Int)+1-1)=(n:Int):=by simp only[wrap64];omega
  have hw3:IntKind.i64.wrap (n:Int)=(n:Int):=by rw[IntKind.wrap_i64];omega
  obtain⟨cn,hcn0⟩:∃ cn,cn=ps.length+hs.length:=⟨_,rfl⟩;have HCNT:Hid (∀ W,Kp [] w1 W→Calls prog 129 #[.pointer (some ⟨q,0,none⟩)] W fun e w'=>e=.returned (.int .i64 (cn:Int))∧∃ m,w'=W.drewN m):=fun W hW=>by
   rw[hcn0];exact zZ6 q m ps hs W (HM.out.keep hW (Apt.nil _ _)) (by omega)
  have HCN:=zh hcn0;clear hb hb2 hbN hR hG1 hcn0 hcn;by_cases hmn:m=n
  ·have hmi:(m:Int)=(n:Int):=by omega
   by_cases h3:(3:Int)≤(cn:Int)
   ·rw[hmi] at hq;have x0:=ξ hq 0;simp only[υ,zG,zH,zI] at x0;have y0:=ξ hq0' 0;simp only[υ,zG,zH,zI] at y0;clear hq hq0';go_wp2_with fail
    go_quiet (first | (go_at_call 129;exact Calls.quiet_of (HCNT.out _ ((Kp.refl [] _).drewN _))) | (go_at_call 154;exact Calls.quiet_of_same (qO2 _)))
    go_wp2;go_ret;have hKq:Kp [] w1 (w1.drewN nq):=(Kp.refl _ _).drewN _;obtain⟨e1,e2⟩:=HE.out _ hKq;refine⟨.inr ⟨q,b,ps,hs,rfl,HB.out.1,HB.out.2.1,HB.out.2.2,?_,?_,by have:=HCN.out;omega,hKq.hp HG1.out⟩,e1,e2⟩
    ·rw[←hmn];exact HM.out.keep hKq (Apt.nil _ _)
    ·rw[←hmn];exact HR.out
   ·clear hq hq0';go_wp2_with fail;have hSd:w1.drew.heap[q]?=some (υ (m:Int) vp vl)∧w1.drew.heap[q0]?=some (υ ((n+1:Nat):Int) vp0 vl0):=⟨HQ.out,HQ1.out⟩;refine wp_region_held_drew (S:=fun W=>W.heap[q]?=some (υ (m:Int) vp vl)∧W.heap[q0]?=some (υ ((n+1:Nat):Int) vp0 vl0)) (by kernel_rfl) hSd (fun _=>?_);refine zP 0 q 0 hSd ?_;refine zV 1 (.pointer (some ⟨q,0,none⟩)) rfl (fun W hS=>by have c:=ζ hS.1;clear hS;go_simp) hSd ?_;refine zP 2 q 0 hSd ?_;refine zV 3 (.int .i64 (n:Int)) rfl (fun W hS=>by have a:=ξ hS.1 0;simp only[υ,zG,zH,zI,hmi] at a;clear hS;go_simp) hSd ?_;refine zP 4 q0 0 hSd ?_;refine zV 5 (.pointer (some ⟨q0,0,none⟩)) rfl (fun W hS=>by have c:=ζ hS.2;clear hS;go_simp) hSd ?_;refine zP 6 q0 0 hSd ?_;refine zV 7 (.int .i64 ((n+1:Nat):Int)) rfl (fun W hS=>by have a:=ξ hS.2 0;simp only[υ,zG,zH,zI] at a;clear hS;go_simp) hSd ?_;refine zU 8 (.int .i64 (n:Int)) hSd ?_;refine zU 9 (.bool true) hSd ?_;refine zU 10 (.bool true) hSd ?_;refine zP 11 q 0 hSd ?_;refine zq 12 fun K hK=>?_;go_simp;refine (show Calls _ _ _ _ _ from HCNT.out _ ((Kp.refl [] _).drew)).mono ?_;rintro e w2 ⟨rfl,nn,hw⟩;have hK2:Kp [] w1 w2:=by rw[hw];exact ((Kp.refl [] _).drew).trans ((Kp.refl [] _).drewN _) (by simp)
    have hS2:w2.heap[q]?=some (υ (m:Int) vp vl)∧w2.heap[q0]?=some (υ ((n+1:Nat):Int) vp0 vl0):=⟨hK2.hp HQ.out,hK2.hp HQ1.out⟩;refine hK.out _ _ hS2 (fun _=>?_);clear hK K hw
    try simp only[zZ]
    refine zU 13 (.bool false) hS2 ?_;refine zU 14 (.bool false) hS2 ?_;refine zq 15 fun K hK=>?_;go_simp;refine (qO1 _).mono ?_;rintro e w3 ⟨rfl,hK3⟩;clear hK;go_wp2;obtain⟨e1,e2⟩:=HE.out _ (hK2.tr hK3);exact⟨rfl,.inl rfl,e1,e2⟩
  ·have hmi:¬(m:Int)=(n:Int):=by omega
   clear hq hq0';go_wp2_with fail;have hSd:w1.drew.heap[q]?=some (υ (m:Int) vp vl)∧w1.drew.heap[q0]?=some (υ ((n+1:Nat):Int) vp0 vl0):=⟨HQ.out,HQ1.out⟩;refine wp_region_held_drew (S:=fun W=>W.heap[q]?=some (υ (m:Int) vp vl)∧W.heap[q0]?=some (υ ((n+1:Nat):Int) vp0 vl0)) (by kernel_rfl) hSd (fun _=>?_);refine zP 0 q 0 hSd ?_;refine zV 1 (.pointer (some ⟨q,0,none⟩)) rfl (fun W hS=>by have c:=ζ hS.1;clear hS;go_simp) hSd ?_;refine zP 2 q 0 hSd ?_;refine zV 3 (.int .i64 (m:Int)) rfl (fun W hS=>by have a:=ξ hS.1 0;simp only[υ,zG,zH,zI] at a;clear hS;go_simp) hSd ?_;refine zP 4 q0 0 hSd ?_;refine zV 5 (.pointer (some ⟨q0,0,none⟩)) rfl (fun W hS=>by have c:=ζ hS.2;clear hS;go_simp) hSd ?_;refine zP 6 q0 0 hSd ?_;refine zV 7 (.int .i64 ((n+1:Nat):Int)) rfl (fun W hS=>by have a:=ξ hS.2 0;simp only[υ,zG,zH,zI] at a;clear hS;go_simp) hSd ?_;refine zU 8 (.int .i64 (n:Int)) hSd ?_;refine zU 9 (.bool false) hSd ?_;refine zU 10 (.bool false) hSd ?_;refine wpAnyH_take (i:=11) (v:=undef) rfl (by kernel_rfl) (by kernel_rfl) (by kernel_rfl) (fun _ _ _ h=>h) (Or.inr ⟨by rfl,rfl⟩) hSd ?_;simp only[zZ];refine wpAnyH_take (i:=12) (v:=undef) rfl (by kernel_rfl) (by kernel_rfl) (by kernel_rfl) (fun _ _ _ h=>h) (Or.inr ⟨by rfl,rfl⟩) hSd ?_;simp only[zZ];refine wpAnyH_take (i:=13) (v:=undef) rfl (by kernel_rfl) (by kernel_rfl) (by kernel_rfl) (fun _ _ _ h=>h) (Or.inr ⟨by rfl,rfl⟩) hSd ?_;simp only[zZ];refine zU 14 (.bool false) hSd ?_;refine zq 15 fun K hK=>?_;go_simp;refine (qO1 _).mono ?_;rintro e w3 ⟨rfl,hK3⟩;clear hK;go_wp2;obtain⟨e1,e2⟩:=HE.out _ (((Kp.refl [] w1).drew).tr hK3);exact⟨rfl,.inl rfl,e1,e2⟩
theorem xT9(bi s:Int)(G:Nat)(bl:Int)(k:ByteArray)(w:World)(hd:Devl V A N C l writes w)(hG:w.heap[G]?=some (qB4 V bl k))(hb0:0≤bl)(hb1:bl≤1000000):
  Calls prog 114 #[.pointer (some ⟨G,0,none⟩),.agg #[.int .i64 bi,.int .u64 s]] w fun e w'=>(e=.panicked cor∨∃ q n b ps hs,e=.returned (.pointer (some ⟨q,0,none⟩))∧bi=((b:Nat):Int)∧2≤b∧b<N∧RawM w' q n ps hs∧RawAt l n b s ps hs∧n<6∧min n 1<ps.length+hs.length∧w'.heap[G]?=some (qB4 V (bl+1) k))∧Devl V A N C l writes w'∧Kp [A,G] w w':=by
 have HREAD:Hid (∀ W,Kp [] w W→Calls prog 156 #[.pointer (some ⟨G,0,none⟩),.agg #[.int .i64 bi,.int .u64 s]] W fun e w'=>(e=.panicked cor∨∃ q n b ps hs,e=.returned (.pointer (some ⟨q,0,none⟩))∧bi=((b:Nat):Int)∧2≤b∧b<N∧RawM w' q n ps hs∧RawAt l n b s ps hs∧w'.heap[G]?=some (qB4 V (bl+1) k))∧Devl V A N C l writes w'∧Kp [A,G] W w'):=fun W hW=>zR8 V A N C l writes hN hs0 hAC hVA bi s G bl k W (qD4 hd hW (by intro k hk;cases hk)) (hW.hp hG) hb0 hb1;clear hd hG;go_enter func114,ntmps114;go_wp2_with fail;obtain⟨w0,hw0,hP0,hK0,hsz⟩:=qE8 w (.cells #[.int .i64 bi,.int .u64 s] 78);rw[←hw0];clear hw0;refine (show Calls _ _ _ _ _ from HREAD.out w0 hK0).mono ?_;rintro e w1 ⟨hres,hD1,hK1⟩;have HE:Hid (∀ W,Kp [] w1 W→Devl V A N C l writes W∧Kp [A,G] w W):=fun W hW=>⟨qD4 hD1 hW (by intro k hk;cases hk),((hK0.mono (by simp)).tr hK1).tr hW⟩;clear HREAD hD1 hK1 hK0 hP0;rcases hres with rfl|⟨q,n,b,ps,hs,rfl,hb,hb2,hbN,hM,hR,hG1⟩
 ·go_wp2;obtain⟨e1,e2⟩:=HE.out w1 (Kp.refl _ _);exact⟨rfl,.inl rfl,e1,e2⟩
 ·have hcn:=hR.len;have HM:=zh hM;have HB:Hid (bi=((b:Nat):Int)∧2≤b∧b<N):=⟨hb,hb2,hbN⟩;have HR:=zh hR;have HG1:=zh hG1;obtain⟨vp,vl,hq,_,_⟩:=hM;have HQ:=zh hq;obtain⟨cn,hcn0⟩:∃ cn,cn=ps.length+hs.length:=⟨_,rfl⟩;have HCNT:Hid (∀ W,Kp [] w1 W→Calls prog 129 #[.pointer (some ⟨q,0,none⟩)] W fun e w'=>e=.returned (.int .i64 (cn:Int))∧∃ m,w'=W.drewN m):=fun W hW=>by
   rw[hcn0];exact zZ6 q n ps hs W (HM.out.keep hW (Apt.nil _ _)) (by omega)
  have HCN:=zh hcn0;obtain⟨mn,hmn,hmnv⟩:∃ mn:Int,(if (1:Int)<(n:Int) then 1 else (n:Int))=mn∧mn=((min n 1:Nat):Int):=⟨_,rfl,by split<;>omega⟩;have HMN:=zh hmnv;clear hb hb2 hbN hR hG1 hcn0 hcn hq hmnv;go_wp2_with fail;have hSd:w1.drew.heap[q]?=some (υ (n:Int) vp vl):=HQ.out;refine wp_region_held_drew (S:=fun W=>W.heap[q]?=some (υ (n:Int) vp vl)) (by kernel_rfl) hSd (fun _=>?_);refine zP 0 q 0 hSd ?_;refine zV 1 (.pointer (some ⟨q,0,none⟩)) rfl (fun W hS=>by have c:=ζ hS;clear hS;go_simp) hSd ?_;refine zP 2 q 0 hSd ?_;refine zV 3 (.int .i64 (n:Int)) rfl (fun W hS=>by have a:=ξ hS 0;simp only[υ,zG,zH,zI] at a;clear hS;go_simp) hSd ?_;by_cases h6:(n:Int)<6
  ·skip
   refine zU 4 (.bool true) hSd ?_;refine zU 5 (.bool true) hSd ?_;refine zP 6 q 0 hSd ?_;refine zP 8 q 0 hSd ?_;refine zV 9 (.pointer (some ⟨q,0,none⟩)) rfl (fun W hS=>by have c:=ζ hS;clear hS;go_simp) hSd ?_;refine zP 10 q 0 hSd ?_;refine zV 11 (.int .i64 (n:Int)) rfl (fun W hS=>by have a:=ξ hS 0;simp only[υ,zG,zH,zI] at a;clear hS;go_simp) hSd ?_;refine zU 12 (.int .i64 mn) hSd ?_;refine zq 7 fun K hK=>?_;go_simp;refine (show Calls _ _ _ _ _ from HCNT.out _ ((Kp.refl [] _).drew)).mono ?_;rintro e w2 ⟨rfl,nn,hw2⟩;have hK2:Kp [] w1 w2:=by rw[hw2];exact ((Kp.refl [] _).drew).trans ((Kp.refl [] _).drewN _) (by simp)
   have hS2:=hK2.hp HQ.out;refine hK.out _ _ hS2 (fun _=>?_);clear hK K hw2
   try simp only[zZ]
   by_cases hgt:mn<(cn:Int)
   ·skip
    refine zU 13 (.bool true) hS2 ?_;refine zU 14 (.bool true) hS2 ?_;refine zq 15 fun K hK=>?_;go_simp;refine (qO2 w2).mono ?_;rintro e w3 ⟨rfl,hw⟩;rw[hw];clear hw w3;refine hK.out _ _ hS2 (fun _=>?_);clear hK K;refine zd ?_
    try simp only[zZ]
    have HK2:=zh hK2;clear hK2 hS2 hSd;go_wp2;go_ret;obtain⟨e1,e2⟩:=HE.out _ HK2.out;exact⟨.inr ⟨q,n,b,ps,hs,rfl,HB.out.1,HB.out.2.1,HB.out.2.2,HM.out.keep HK2.out (Apt.nil _ _),HR.out,by omega,by have:=HCN.out;have:=HMN.out;omega,HK2.out.hp HG1.out⟩,e1,e2⟩
   ·skip
    refine zU 13 (.bool false) hS2 ?_;refine zU 14 (.bool false) hS2 ?_;refine zq 15 fun K hK=>?_;go_simp;refine (qO1 _).mono ?_;rintro e w3 ⟨rfl,hK3⟩;clear hK;go_wp2;obtain⟨e1,e2⟩:=HE.out _ (hK2.tr hK3);exact⟨rfl,.inl rfl,e1,e2⟩
  ·skip
   refine zU 4 (.bool false) hSd ?_;refine zU 5 (.bool false) hSd ?_;refine wpAnyH_take (i:=6) (v:=undef) rfl (by kernel_rfl) (by kernel_rfl) (by kernel_rfl) (fun _ _ _ h=>h) (Or.inr ⟨by rfl,rfl⟩) hSd ?_;simp only[zZ];refine wpAnyH_take (i:=7) (v:=undef) rfl (by kernel_rfl) (by kernel_rfl) (by kernel_rfl) (fun _ _ _ h=>h) (Or.inr ⟨by rfl,rfl⟩) hSd ?_;simp only[zZ];refine wpAnyH_take (i:=8) (v:=undef) rfl (by kernel_rfl) (by kernel_rfl) (by kernel_rfl) (fun _ _ _ h=>h) (Or.inr ⟨by rfl,rfl⟩) hSd ?_;simp only[zZ];refine wpAnyH_take (i:=9) (v:=undef) rfl (by kernel_rfl) (by kernel_rfl) (by kernel_rfl) (fun _ _ _ h=>h) (Or.inr ⟨by rfl,rfl⟩) hSd ?_;simp only[zZ];refine wpAnyH_take (i:=10) (v:=undef) rfl (by kernel_rfl) (by kernel_rfl) (by kernel_rfl) (fun _ _ _ h=>h) (Or.inr ⟨by rfl,rfl⟩) hSd ?_;simp only[zZ];refine wpAnyH_take (i:=11) (v:=undef) rfl (by kernel_rfl) (by kernel_rfl) (by kernel_rfl) (fun _ _ _ h=>h) (Or.inr ⟨by rfl,rfl⟩) hSd ?_;simp only[zZ];refine wpAnyH_take (i:=12) (v:=undef) rfl (by kernel_rfl) (by kernel_rfl) (by kernel_rfl) (fun _ _ _ h=>h) (Or.inr ⟨by rfl,rfl⟩) hSd ?_;simp only[zZ];refine wpAnyH_take (i:=13) (v:=undef) rfl (by kernel_rfl) (by kernel_rfl) (by kernel_rfl) (fun _ _ _ h=>h) (Or.inr ⟨by rfl,rfl⟩) hSd ?_;simp only[zZ];refine zU 14 (.bool false) hSd ?_;refine zq 15 fun K hK=>?_;go_simp;refine (qO1 _).mono ?_;rintro e w3 ⟨rfl,hK3⟩;clear hK;go_wp2;obtain⟨e1,e2⟩:=HE.out _ (((Kp.refl [] w1).drew).tr hK3);exact⟨rfl,.inl rfl,e1,e2⟩
end
def qE7(k:ByteArray)(ps:List KV):ByteArray:=(ps.getLast?.map KV.k).getD k
theorem xK2(k:ByteArray):qE7 k []=k:=rfl
theorem qW9(k:ByteArray)(ps:List KV)(p:KV):qE7 k (ps++[p])=p.k:=by simp[qE7]
theorem xK1(k:ByteArray)(a b:List KV):qE7 (qE7 k a) b=qE7 k (a++b):=by
 rcases List.eq_nil_or_concat b with rfl|⟨c,p,rfl⟩
 ·simp[qE7]
 ·rw[List.concat_eq_append,qW9,←List.append_assoc,qW9]
theorem zC4{a b:ByteArray}(h:kl a b=true):Op.bytesLess b.toList a.toList=false∧(b.toList == a.toList)=false:=
 ⟨qP8 h,by rw[qS3];simpa using (qJ3 h).symm⟩
def IsT(N:Nat)(l:List UInt8):(n:Nat)→List KV→List HL→Tn n→Prop
 | 0,ps,hs,t=>prs t=ps∧hs=[]
 | n+1,ps,hs,t=>ps=[]∧Both (RLof (fun _ _=>False) (Laid N l n)) hs (η t)
def qH8:Nat→Nat
 | 0=>1
 | n+1=>1+11*qH8 n
theorem IsT.laid{N:Nat}{l:List UInt8}{n b:Nat}{s:Int}{ps:List KV}{hs:List HL}{t:Tn n}(h:IsT N l n ps hs t)(hr:RawAt l n b s ps hs)(h2:2≤b)(hb:b<N)(h6:n<6):Laid N l n b s t:=by
 have hln:=hr.len
 cases n with
 | zero=>
  obtain⟨rfl,rfl⟩:=h;rcases hr with⟨_,_,h1,h3,h4,h5⟩|⟨h0,_⟩
  ·exact⟨h2,hb,h1,h3,h4,h5,by simpa using hln⟩
  ·omega
 | succ n=>
  obtain⟨rfl,hbo⟩:=h;rcases hr with⟨h0,_⟩|⟨_,_,_,_,_,h1,h3,h4,h5⟩
  ·omega
  ·exact⟨h2,hb,h6,hs,hbo,h1,h3,fun p hp=>(h4 p hp).2.1,h5,by simpa using hln⟩
theorem zH0{k x:ByteArray}{xs:List KV}(hs:Sorted xs)(hk:∀ p∈xs,kl k p.k=true)(h:kl (qE7 k xs) x=true):kl k x=true∧∀ q∈xs,kl q.k x=true:=by
 rcases List.eq_nil_or_concat xs with rfl|⟨c,p,rfl⟩
 ·exact⟨h,fun q hq=>by cases hq⟩
 ·rw[List.concat_eq_append] at *;rw[qW9] at h;refine⟨qN8 (hk p (by simp)) h,fun q hq=>?_⟩;rcases List.mem_append.1 hq with hq|hq
  ·exact qN8 ((List.pairwise_append.1 hs).2.2 q hq p (by simp)) h
  ·rw[List.mem_singleton.1 hq];exact h
theorem xA2{a b:ByteArray}(h:¬kl b a=true):Op.bytesLess a.toList b.toList=true∨(Op.bytesLess a.toList b.toList=false∧(a.toList == b.toList)=true):=by
 cases hx:kl a b with
 | true=>exact .inl hx
 | false=>
  have e:=qX4 hx (by simpa using h);subst e;exact .inr ⟨hx,by simp⟩
def zA1(V A N C:Nat)(l:List UInt8)(writes:Int)(n:Nat):Prop:=
 ∀ (ps:List KV) (hs:List HL) (q G:Nat) (lh:HL) (bl:Int) (k:ByteArray) (b:Nat) (s:Int) (w:World),Devl V A N C l writes w→w.heap[G]?=some (qB4 V bl k)→RawM w q n ps hs→RawAt l n b s ps hs→0≤bl→bl+qH8 n≤1000000→
  Calls prog 113 #[.pointer (some ⟨G,0,none⟩),qC5 lh,.pointer (some ⟨q,0,none⟩)] w fun e w'=>(e=.panicked cor∨e=.returned (.tuple #[])∧∃ t:Tn n,IsT N l n ps hs t∧Good n lh.key t∧(∀ p∈cont n t,kl k p.k=true)∧qB1 n t≤qH8 n∧w'.heap[G]?=some (qB4 V (bl+qB1 n t-1) (qE7 k (cont n t))))∧Devl V A N C l writes w'∧Kp [A,G] w w'
theorem jS5(V A N C:Nat)(l:List UInt8)(writes:Int):zA1 V A N C l writes 0:=by
 intro ps hs q G lh bl k b s w hd hG hR hat hb0 hb1;have hln:=hat.len;obtain⟨rfl,hok,hfit⟩:hs=[]∧(∀ p∈ps,qC3 p)∧2+meas ν ps≤128:=by
  rcases hat with⟨_,h,h1,h3,h4,h5⟩|⟨h0,_⟩
  ·exact⟨h,h4,h5⟩
  ·omega
 obtain⟨vp,vl,hq,hsl,hsl2⟩:=hR;obtain⟨bs,cp,rfl⟩:=qJ8 hsl;obtain⟨lb,lc,rfl⟩:=qJ8 hsl2;have HEND:Hid (Sorted ps→(∀ p∈ps,kl p.k lh.key=false∧kl k p.k=true)→∃ t:Tn 0,IsT N l 0 ps [] t∧Good 0 lh.key t∧(∀ p∈cont 0 t,kl k p.k=true)∧qB1 0 t≤qH8 0∧qB4 V bl (qE7 k ps)=qB4 V (bl+qB1 0 t-1) (qE7 k (cont 0 t))):=fun h1 h2=>
  ⟨ps,⟨rfl,rfl⟩,⟨h1,fun p hp=>⟨hok p hp,(h2 p hp).1⟩,by omega⟩,fun p hp=>(h2 p hp).2,Nat.le_refl _,by simp[qB1,cont]⟩
 have HD:=zh hd;have HSL:=zh hsl;have hz:([]:List HL).length=0:=rfl;rw[hz] at hq;have HQ:=zh hq;have hqG:q≠G:=qB7 hq hG (by decide);have hGs:=ζ hG;have hqs:=ζ hq;have HG:=zh hG;have hlen:ps.length≤126:=by simpa using hln
 have q1:=ξ hq;simp only[υ,zG,zH,zI] at q1;clear hd hG hq hsl hsl2 hat hok hfit hln hz hb1;rw[qC5];go_enter func113,ntmps113;go_wp2_with fail;obtain⟨w0,hw0,hP0,hK0,hsz⟩:=qE8 w (.cells #[.string lh.key,.int .i64 lh.b,.int .u64 lh.s,.pointer lh.ptr] 81);rw[←hw0];have HP0:=zh hP0;have HK0:=zh hK0;clear hw0 hP0 hK0 q1
 go_loopw [15] (fun i wr=>∃ (j:Nat),j≤ps.length∧i=.int .i64 j∧w.heap.size<wr.heap.size∧Hid (Sorted (ps.take j)∧∀ p∈ps.take j,kl p.k lh.key=false∧kl k p.k=true)∧Hid (wr.heap[G]?=some (qB4 V bl (qE7 k (ps.take j))))∧Hid (wr.heap[w.heap.size]?=some (.cells #[.string lh.key,.int .i64 lh.b,.int .u64 lh.s,.pointer lh.ptr] 81))∧Hid (Kp [G] w wr)) (fun i _=>ps.length-(intOf i).toNat)
 case atStart=>exact⟨0,Nat.zero_le _,rfl,by omega,⟨by simp[Sorted],by simp⟩,HK0.out.hp HG.out,HP0,HK0.out.mono (by simp)⟩
 case round=>
  obtain⟨j,hj,rfl,hsw,HSO,HGr,HPr,HKr⟩:=hrel;clear HP0 HK0 hsz;by_cases hlt:j<ps.length
  ·obtain⟨gb,off,cp',cur,fr,hv,hcp,hrow,hcur⟩:=HSL.out.pair (by omega);obtain⟨c0,c1⟩:=hcur j hlt;simp only[Value.slice.injEq,true_and] at hv;obtain⟨rfl,rfl⟩:=hv;have hR:=HKr.out.heap hrow (by simp;exact qB7 hrow HG.out (by decide));have a0:=ξ hR (off+j*2);rw[c0] at a0;have a1:=ξ hR (off+j*2+1);rw[c1] at a1;have hgs:=ζ hR;have hjb:(j:Int)<(ps.length:Int):=by omega
   have HEN:Hid (qE7 k (ps.take (j+1))=ps[j].k):=by
    show qE7 k (ps.take (j+1))=ps[j].k;rw[List.take_succ_eq_append_getElem hlt,qW9]
   have HNX:Hid (kl (qE7 k (ps.take j)) ps[j].k=true→kl ps[j].k lh.key=false→Sorted (ps.take (j+1))∧∀ p∈ps.take (j+1),kl p.k lh.key=false∧kl k p.k=true):=by
    intro h1 h2;obtain⟨h3,h4⟩:=zH0 HSO.out.1 (fun p hp=>(HSO.out.2 p hp).2) h1;rw[List.take_succ_eq_append_getElem hlt];refine⟨Sorted.append.2 ⟨HSO.out.1,by simp[Sorted],fun x hx y hy=>by rw[List.mem_singleton.1 hy];exact h4 x hx⟩,fun p hp=>?_⟩;rcases List.mem_append.1 hp with hp|hp
    ·exact HSO.out.2 p hp
    ·rw[List.mem_singleton.1 hp];exact⟨h2,h3⟩
   obtain⟨kk,hkk⟩:∃ kk,kk=qE7 k (ps.take j):=⟨_,rfl⟩;rw[←hkk] at HNX HGr;generalize ps[j]=x at a0 a1 HEN HNX;clear hcur hcp hrow c0 c1 hkk HSO;go_wp2_with fail;obtain⟨w1,hw1,h71,hK1,hs1⟩:=qE8 wr (.cells #[.string x.k,.string x.v] 158);rw[←hw1];clear hw1 a0 a1 hR hgs;have hG1:=hK1.hp HGr.out;have hP1:=hK1.hp HPr.out;have hG1s:=ζ hG1;have hP1s:=ζ hP1;have h71s:=ζ h71;have HG1:=zh hG1;have HP1:=zh hP1;have H71:=zh h71;have HK1:Hid (Kp [G] w w1):=HKr.out.tr hK1;have HE:Hid (∀ W,Kp [] w1 W→Devl V A N C l writes W∧Kp [A,G] w W):=fun W hW=>⟨qD4 HD.out (HK1.out.tr hW) (OffD.one HG.out (by decide)),(HK1.out.tr hW).mono (by simp)⟩;by_cases c1:kl kk x.k=true
   ·by_cases c2:kl x.k lh.key=false
    ·obtain⟨hgt,hgt2⟩:=zC4 c1;have hge:Op.bytesLess x.k.toList lh.key.toList=false:=c2;have HS2:=Hid.mk' (HNX.out c1 c2);have g0:=ξ hG1 0;have g1:=ξ hG1 1;have g2:=ξ hG1 2;simp only[qB4,zG,zH,zI] at g0 g1 g2;have p0:=ξ hP1 0;simp only[zG,zH,zI] at p0;have z0:=ξ h71;clear hG1 hP1 h71 hK1 HNX c1 c2
     go_quiet (first | (go_at_call 154;exact Calls.quiet_of_same (qO2 _)))
     obtain⟨wq,hwq,hKq⟩:∃ wq,wq=w1.drewN nq∧Kp [] w1 wq:=⟨_,rfl,(Kp.refl _ _).drewN _⟩;rw[←hwq];clear hwq g0 g1 g2 p0 z0 hgt hgt2 hge;have hG2:=hKq.hp HG1.out;have hP2:=hKq.hp HP1.out;have h72:=hKq.hp H71.out;have hG2s:=ζ hG2;have h72s:=ζ h72;have hqs2:=hKq.size;have g0:=ξ hG2 0;have g1:=ξ hG2 1;have g2:=ξ hG2 2;simp only[qB4,zG,zH,zI] at g0 g1 g2;have z0:=ξ h72;have f2:=ρ hG2 2;have HG2:=zh hG2;have HP2:=zh hP2;have HK2:Hid (Kp [G] w wq):=HK1.out.tr hKq;clear hG2 hP2 h72 hKq HG1 HP1 HK1 H71 HE;go_wp2;have hK3:Kp [G] wq (wq.setCell ⟨G,2,none⟩ (.string x.k)):=(Kp.refl _ _).sc _;refine⟨⟨j+1,by omega,by go_num,by have:=hK3.size;omega,HS2,?_,hK3.ho HP2.out,HK2.out.tr hK3⟩,by simp[intOf];omega⟩;show _=_;rw[HEN.out];exact ω HG2.out 2 _
    ·obtain⟨hgt,hgt2⟩:=zC4 c1;have hge:Op.bytesLess x.k.toList lh.key.toList=true:=(by simpa using c2:kl x.k lh.key=true);clear hG1 hP1 h71 hK1 HNX c1 c2;have hSd:w1.drew.heap[wr.heap.size]?=some (.cells #[.string x.k,.string x.v] 158)∧w1.drew.heap[G]?=some (qB4 V bl kk)∧w1.drew.heap[w.heap.size]?=some (.cells #[.string lh.key,.int .i64 lh.b,.int .u64 lh.s,.pointer lh.ptr] 81):=⟨H71.out,HG1.out,HP1.out⟩;refine wp_region_held_drew (S:=fun W=>W.heap[wr.heap.size]?=some (.cells #[.string x.k,.string x.v] 158)∧W.heap[G]?=some (qB4 V bl kk)∧W.heap[w.heap.size]?=some (.cells #[.string lh.key,.int .i64 lh.b,.int .u64 lh.s,.pointer lh.ptr] 81)) (by kernel_rfl) hSd (fun _=>?_);refine zP 0 wr.heap.size 0 hSd ?_;refine zP 1 wr.heap.size 0 hSd ?_;refine zV 2 (.string x.k) rfl (fun W hS=>by have a:=ξ hS.1 0;simp only[zG,zH,zI] at a;clear hS;go_simp) hSd ?_;refine zP 3 G 0 hSd ?_;refine zV 4 (.pointer (some ⟨G,0,none⟩)) rfl (fun W hS=>by have c:=ζ hS.2.1;clear hS;go_simp) hSd ?_;refine zP 5 G 2 hSd ?_;refine zV 6 (.string kk) rfl (fun W hS=>by have a:=ξ hS.2.1 2;simp only[qB4,zG,zH,zI] at a;clear hS;go_simp) hSd ?_;refine zU 7 (.bool true) hSd ?_;refine zU 8 (.bool true) hSd ?_;refine zP 9 wr.heap.size 0 hSd ?_;refine zP 10 wr.heap.size 0 hSd ?_;refine zV 11 (.string x.k) rfl (fun W hS=>by have a:=ξ hS.1 0;simp only[zG,zH,zI] at a;clear hS;go_simp) hSd ?_;refine zP 12 w.heap.size 0 hSd ?_;refine zV 13 (.string lh.key) rfl (fun W hS=>by have a:=ξ hS.2.2 0;simp only[zG,zH,zI] at a;clear hS;go_simp) hSd ?_;refine zU 14 (.bool false) hSd ?_;refine zU 15 (.bool false) hSd ?_;refine zq 16 fun K hK=>?_;go_simp;refine (qO1 _).mono ?_;rintro e w3 ⟨rfl,hK3⟩;clear hK;go_wp2;obtain⟨e1,e2⟩:=HE.out _ (((Kp.refl [] w1).drew).tr hK3);exact⟨rfl,.inl rfl,e1,e2⟩
   ·rcases xA2 c1 with hgt|⟨hgt,hgt2⟩
    all_goals
     clear hG1 hP1 h71 hK1 HNX c1;have hSd:w1.drew.heap[wr.heap.size]?=some (.cells #[.string x.k,.string x.v] 158)∧w1.drew.heap[G]?=some (qB4 V bl kk)∧w1.drew.heap[w.heap.size]?=some (.cells #[.string lh.key,.int .i64 lh.b,.int .u64 lh.s,.pointer lh.ptr] 81):=⟨H71.out,HG1.out,HP1.out⟩;refine wp_region_held_drew (S:=fun W=>W.heap[wr.heap.size]?=some (.cells #[.string x.k,.string x.v] 158)∧W.heap[G]?=some (qB4 V bl kk)∧W.heap[w.heap.size]?=some (.cells #[.string lh.key,.int .i64 lh.b,.int .u64 lh.s,.pointer lh.ptr] 81)) (by kernel_rfl) hSd (fun _=>?_);refine zP 0 wr.heap.size 0 hSd ?_;refine zP 1 wr.heap.size 0 hSd ?_;refine zV 2 (.string x.k) rfl (fun W hS=>by have a:=ξ hS.1 0;simp only[zG,zH,zI] at a;clear hS;go_simp) hSd ?_;refine zP 3 G 0 hSd ?_;refine zV 4 (.pointer (some ⟨G,0,none⟩)) rfl (fun W hS=>by have c:=ζ hS.2.1;clear hS;go_simp) hSd ?_;refine zP 5 G 2 hSd ?_;refine zV 6 (.string kk) rfl (fun W hS=>by have a:=ξ hS.2.1 2;simp only[qB4,zG,zH,zI] at a;clear hS;go_simp) hSd ?_;refine zU 7 (.bool false) hSd ?_;refine zU 8 (.bool false) hSd ?_;refine wpAnyH_take (i:=9) (v:=undef) rfl (by kernel_rfl) (by kernel_rfl) (by kernel_rfl) (fun _ _ _ h=>h) (Or.inr ⟨by rfl,rfl⟩) hSd ?_;simp only[zZ];refine wpAnyH_take (i:=10) (v:=undef) rfl (by kernel_rfl) (by kernel_rfl) (by kernel_rfl) (fun _ _ _ h=>h) (Or.inr ⟨by rfl,rfl⟩) hSd ?_;simp only[zZ];refine wpAnyH_take (i:=11) (v:=undef) rfl (by kernel_rfl) (by kernel_rfl) (by kernel_rfl) (fun _ _ _ h=>h) (Or.inr ⟨by rfl,rfl⟩) hSd ?_;simp only[zZ];refine wpAnyH_take (i:=12) (v:=undef) rfl (by kernel_rfl) (by kernel_rfl) (by kernel_rfl) (fun _ _ _ h=>h) (Or.inr ⟨by rfl,rfl⟩) hSd ?_;simp only[zZ];refine wpAnyH_take (i:=13) (v:=undef) rfl (by kernel_rfl) (by kernel_rfl) (by kernel_rfl) (fun _ _ _ h=>h) (Or.inr ⟨by rfl,rfl⟩) hSd ?_;simp only[zZ];refine wpAnyH_take (i:=14) (v:=undef) rfl (by kernel_rfl) (by kernel_rfl) (by kernel_rfl) (fun _ _ _ h=>h) (Or.inr ⟨by rfl,rfl⟩) hSd ?_;simp only[zZ];refine zU 15 (.bool false) hSd ?_;refine zq 16 fun K hK=>?_;go_simp;refine (qO1 _).mono ?_;rintro e w3 ⟨rfl,hK3⟩;clear hK;go_wp2;obtain⟨e1,e2⟩:=HE.out _ (((Kp.refl [] w1).drew).tr hK3);exact⟨rfl,.inl rfl,e1,e2⟩
  ·have hjb:¬(j:Int)<(ps.length:Int):=by omega
   have e:ps.take j=ps:=List.take_of_length_le (by omega);have hGr:=HGr.out;rw[e] at hGr;have HGe:=Hid.mk' hGr;have hso:=HSO.out;rw[e] at hso;have HSE:=Hid.mk' hso;have hqr:=HKr.out.heap HQ.out (by simpa using hqG);have hqrs:=ζ hqr;have q1:=ξ hqr;simp only[υ,zG,zH,zI] at q1;have HKe:Hid (Kp [A,G] w wr):=HKr.out.mono (by simp);have HDe:Hid (Devl V A N C l writes wr):=qD4 HD.out HKr.out (OffD.one HG.out (by decide));clear e hGr HGr hqr HSL HPr hso HSO;go_wp2_with fail
   go_loopw [48] (fun i w'=>i=.int .i64 0∧w'=wr) (fun _ _=>0)
   case atStart=>exact⟨rfl,rfl⟩
   case round=>
    obtain⟨rfl,rfl⟩:=hrel;go_wp2
    go_end0
    obtain⟨t,t1,t2,t3,t4,t5⟩:=HEND.out HSE.out.1 HSE.out.2;exact⟨.inr ⟨rfl,t,t1,t2,t3,t4,by rw[←t5];exact HGe.out⟩,HDe.out,HKe.out⟩
theorem xR1{α β:Type}{R:α→β→Prop}{a:List α}{b:List β}{x:α}{y:β}(h:Both R a b)(hr:R x y):Both R (a++[x]) (b++[y]):=h.append ⟨rfl,fun i h1 h2=>by
 have:i=0:=by simpa using h1
 subst this;exact hr⟩
structure SoFar(N:Nat)(l:List UInt8)(n:Nat)(lo k:ByteArray)(hs:List HL)(ls:List (Lnk (Tn n))):Prop where
 both:Both (RLof (fun _ _=>False) (Laid N l n)) hs ls
 good:Good (n+1) lo (ls:Tn (n+1))
 keys:∀ p∈ls.flatMap (fun m=>cont n m.sub),kl k p.k=true
 fits:meas qA3 ls=meas ψ hs
 few:meas (fun m:Lnk (Tn n)=>qB1 n m.sub) ls≤hs.length*qH8 n
theorem SoFar.nil(N:Nat)(l:List UInt8)(n:Nat)(lo k:ByteArray):SoFar N l n lo k [] []:=
 ⟨⟨rfl,fun i h=>(by simp at h)⟩,⟨fun m hm=>(by cases hm),fun m hm=>(by cases hm),List.Pairwise.nil,(by simp[qC9])⟩,fun p hp=>(by simp at hp),(by simp[qC9]),(by simp[qC9])⟩
theorem SoFar.snoc{N:Nat}{l:List UInt8}{n:Nat}{lo k:ByteArray}{hs:List HL}{ls:List (Lnk (Tn n))}(h:SoFar N l n lo k hs ls){x:HL}{b:Nat}{t:Tn n}(hb:x.b=(b:Int))(hp:x.p=none)(h8:x.key.size≤8)(hL:Laid N l n b x.s t)(hg:Good n x.key t)(h3:3≤cnt n t)(hn:qB1 n t≤qH8 n)
  (hkey:hs=[]→x.key=lo) (hlast:hs≠[]→kl (qE7 k (ls.flatMap fun m=>cont n m.sub)) x.key=true) (hk:∀ p∈cont n t,kl (qE7 k (ls.flatMap fun m=>cont n m.sub)) p.k=true) (hfit:meas ψ (hs++[x])≤126):
  SoFar N l n lo k (hs++[x]) (ls++[⟨x.key,some (b,x.s),t⟩]):=by
 have hso:Sorted (ls.flatMap fun m=>cont n m.sub):=(qK4 (n+1) lo ls h.good).1;have hlen:hs.length=ls.length:=h.both.1;have hgd:GoodB (Good n) (cnt n) (cont n) lo ls:=h.good;refine⟨xR1 h.both ⟨rfl,hb,rfl,hp,hL⟩,⟨?_,?_,?_,?_⟩,?_,?_,?_⟩
 ·intro m hm
  cases hls:ls with
  | nil=>
   have e:hs=[]:=List.eq_nil_of_length_eq_zero (by rw[hlen,hls];rfl);rw[hls] at hm;simp only[List.nil_append,List.head?_cons,Option.mem_def,Option.some.injEq] at hm;rw[←hm];exact hkey e
  | cons a r=>
   refine hgd.head m ?_;rw[hls] at hm ⊢;simpa using hm
 ·intro m hm;rcases List.mem_append.1 hm with hm|hm
  ·exact hgd.all m hm
  ·rw[List.mem_singleton.1 hm];exact⟨hg,h3,h8⟩
 ·refine List.pairwise_append.2 ⟨hgd.pair,by simp,fun a ha y hy=>?_⟩;rw[List.mem_singleton.1 hy];have hne:hs≠[]:=fun e=>by rw[e] at hlen;have:=List.eq_nil_of_length_eq_zero hlen.symm;rw[this] at ha;cases ha
  have h2:=(zH0 hso h.keys (hlast hne)).2;have hin:∀ q∈cont n a.sub,kl q.k x.key=true:=fun q hq=>h2 q (List.mem_flatMap.2 ⟨a,ha,hq⟩);obtain⟨g1,g2,g3⟩:=hgd.all a ha;obtain⟨q,hq⟩:=qZ1 n a.key a.sub g1 (by omega);exact⟨qU4 ((qK4 n _ _ g1).2 q hq).2 (hin q hq),hin⟩
 ·have e1:=qO7 qA3 ls (⟨x.key,some (b,x.s),t⟩:Lnk (Tn n));have e2:=qO7 ψ hs x;have e3:qA3 (⟨x.key,some (b,x.s),t⟩:Lnk (Tn n))=ψ x:=rfl;have:=h.fits;show meas qA3 (ls++[⟨x.key,some (b,x.s),t⟩])≤126;omega
 ·intro p hp;rw[List.flatMap_append] at hp;rcases List.mem_append.1 hp with hp|hp
  ·exact h.keys p hp
  ·simp only[List.flatMap_cons,List.flatMap_nil,List.append_nil] at hp;exact (zH0 hso h.keys (hk p hp)).1
 ·rw[qO7,qO7,h.fits];rfl
 ·rw[qO7,List.length_append,List.length_singleton,Nat.add_mul,Nat.one_mul];have:=h.few;show _+qB1 n t≤_;omega
theorem jS6(V A N C:Nat)(l:List UInt8)(writes:Int)(hN:N≤1000)(hln:N*128≤l.length)(hAC:C≠A)(hVA:V≠A)(n:Nat)(hn6:n+1<6)(IH:zA1 V A N C l writes n):zA1 V A N C l writes (n+1):=by
 intro ps hs q G lh bl k b s w hd hG hR hat hb0 hb1;obtain⟨rfl,hok,hfit,hl11⟩:ps=[]∧(∀ p∈hs,zL0 p)∧2+meas ψ hs≤128∧hs.length≤11:=by
  rcases hat with⟨h0,_⟩|⟨_,_,h,h1⟩
  ·omega
  ·exact⟨h,h1.2.2.2.2.1,h1.2.2.2.2.2,h1.len⟩
 obtain⟨vp,vl,hq,hsl2,hsl⟩:=hR;obtain⟨bs,cp,rfl⟩:=qJ8 hsl;obtain⟨pb,pc,rfl⟩:=qJ8 hsl2;have hz:([]:List KV).length=0:=rfl;rw[hz] at hq;have HOK:Hid ((∀ p∈hs,zL0 p)∧2+meas ψ hs≤128):=⟨hok,hfit⟩;have HLEN:=zh hl11;have HN6:Hid (n<6):=by show n<6;omega
 have HCNT:Hid (∀ ps hs (t:Tn n),IsT N l n ps hs t→cnt n t=ps.length+hs.length):=by
  intro ps hs t h
  cases n with
  | zero=>obtain⟨rfl,rfl⟩:=h;rfl
  | succ n=>obtain⟨rfl,h⟩:=h;show (η t).length=_;rw[←h.1];simp
 have HD:=zh hd;have HSL:=zh hsl;have HQ:=zh hq;have hqG:q≠G:=qB7 hq hG (by decide);have hqA:q≠A:=by obtain⟨c,h⟩:=hd.hA;exact qB7 hq h (by decide)
 have hGA:G≠A:=by obtain⟨c,h⟩:=hd.hA;exact qB7 hG h (by decide)
 have hAs:A<w.heap.size:=by obtain⟨c,h⟩:=hd.hA;exact ζ h
 have hGs:=ζ hG;have hqs:=ζ hq;have HG:=zh hG;have HB1:Hid (bl+qH8 (n+1)≤1000000∧qH8 (n+1)=1+11*qH8 n):=⟨hb1,rfl⟩;have q1:=ξ hq;simp only[υ,zG,zH,zI] at q1;clear hd hG hq hsl hsl2 hat hb1 hok hfit hl11 hz;rw[qC5];go_enter func113,ntmps113;go_wp2_with fail;obtain⟨w0,hw0,hP0,hK0,hsz⟩:=qE8 w (.cells #[.string lh.key,.int .i64 lh.b,.int .u64 lh.s,.pointer lh.ptr] 81);rw[←hw0];have HP0:=zh hP0;have HK0:=zh hK0;clear hw0 hP0 hK0 q1
 go_loopw [15] (fun i w'=>i=.int .i64 0∧w'=w0) (fun _ _=>0)
 case atStart=>exact⟨rfl,rfl⟩
 case round=>
  obtain⟨rfl,hwr0⟩:=hrel;rw[hwr0];clear hwr0;have hq0:=HK0.out.hp HQ.out;have hq0s:=ζ hq0;have q1:=ξ hq0 1;have q2:=ξ hq0 2;simp only[υ,zG,zH,zI] at q1 q2;clear hq0;go_wp2_with fail
  go_loopw [48] (fun i wr=>∃ (j:Nat) (ls:List (Lnk (Tn n))),j≤hs.length∧i=.int .i64 j∧w.heap.size<wr.heap.size∧Hid (SoFar N l n lh.key k (hs.take j) ls)∧Hid (wr.heap[G]?=some (qB4 V (bl+meas (fun m:Lnk (Tn n)=>qB1 n m.sub) ls) (qE7 k (ls.flatMap fun m=>cont n m.sub))))∧Hid (Devl V A N C l writes wr)∧Hid (wr.heap[w.heap.size]?=some (.cells #[.string lh.key,.int .i64 lh.b,.int .u64 lh.s,.pointer lh.ptr] 81))∧Hid (Kp [A,G] w wr)) (fun i _=>hs.length-(intOf i).toNat)
  case atStart=>exact⟨0,[],Nat.zero_le _,rfl,by omega,SoFar.nil _ _ _ _ _,by show _=_;simpa [qC9,xK2] using HK0.out.hp HG.out,qD4 HD.out HK0.out (by intro k hk;cases hk),HP0,HK0.out.mono (by simp)⟩
  case round=>
   rename_i wr hrel;obtain⟨j,ls,hj,rfl,hsw,HSF,HGr,HDr,HPr,HKr⟩:=hrel;clear q1 q2 HP0 HK0 hsz hq0s;by_cases hlt:j<hs.length
   ·have hfew:=HSF.out.few;have hjl:(hs.take j).length=j:=by rw[List.length_take,Nat.min_eq_left (by omega)]
    rw[hjl] at hfew;have hmul:j*qH8 n≤10*qH8 n:=Nat.mul_le_mul_right _ (by have:=HLEN.out;omega);have hok:=HOK.out.1 hs[j] (List.getElem_mem hlt);obtain⟨bm,hbm0⟩:∃ x:Int,x=bl+meas (fun m:Lnk (Tn n)=>qB1 n m.sub) ls:=⟨_,rfl⟩;obtain⟨kk,hkk0⟩:∃ x,x=qE7 k (ls.flatMap fun m=>cont n m.sub):=⟨_,rfl⟩;have hbmb:0≤bm∧bm+1+qH8 n≤1000000:=by have:=HB1.out;omega
    have HBEL:Hid (∀ W,Devl V A N C l writes W→W.heap[G]?=some (qB4 V bm kk)→W.heap[q]?=some (υ ((n+1:Nat):Int) (.slice pb 0 pc) (.slice bs hs.length cp))→Calls prog 155 #[.pointer (some ⟨G,0,none⟩),.pointer (some ⟨q,0,none⟩),.agg #[.int .i64 hs[j].b,.int .u64 hs[j].s]] W fun e w'=>(e=.panicked cor∨∃ q b ps hs',e=.returned (.pointer (some ⟨q,0,none⟩))∧hs[j].b=((b:Nat):Int)∧2≤b∧b<N∧RawM w' q n ps hs'∧RawAt l n b hs[j].s ps hs'∧3≤ps.length+hs'.length∧w'.heap[G]?=some (qB4 V (bm+1) kk))∧Devl V A N C l writes w'∧Kp [A,G] W w'):=fun W h1 h2 h3=>xS0 V A N C l writes hN hln hAC hVA n hs[j].b hs[j].s G q _ _ _ _ W h1 h2 h3 (by omega) (by omega) (by omega);have HWALK:Hid (∀ W q2 b2 ps2 hs2,Devl V A N C l writes W→W.heap[G]?=some (qB4 V (bm+1) kk)→RawM W q2 n ps2 hs2→RawAt l n b2 hs[j].s ps2 hs2→Calls prog 113 #[.pointer (some ⟨G,0,none⟩),.agg #[.string hs[j].key,.int .i64 hs[j].b,.int .u64 hs[j].s,.pointer hs[j].ptr],.pointer (some ⟨q2,0,none⟩)] W fun e w'=>(e=.panicked cor∨e=.returned (.tuple #[])∧∃ t:Tn n,IsT N l n ps2 hs2 t∧Good n hs[j].key t∧(∀ p∈cont n t,kl kk p.k=true)∧qB1 n t≤qH8 n∧w'.heap[G]?=some (qB4 V (bm+1+qB1 n t-1) (qE7 kk (cont n t))))∧Devl V A N C l writes w'∧Kp [A,G] W w'):=fun W q2 b2 ps2 hs2 h1 h2 h3 h4=>IH ps2 hs2 q2 G hs[j] (bm+1) kk b2 hs[j].s W h1 h2 h3 h4 (by omega) (by omega);have HNEXT:Hid (∀ (b3:Nat) (t:Tn n),hs[j].b=(b3:Int)→Laid N l n b3 hs[j].s t→Good n hs[j].key t→3≤cnt n t→qB1 n t≤qH8 n→(∀ p∈cont n t,kl kk p.k=true)→((j=0∧hs[j].key=lh.key)∨(j≠0∧kl kk hs[j].key=true))→∃ ls2,SoFar N l n lh.key k (hs.take (j+1)) ls2∧qB4 V (bm+1+qB1 n t-1) (qE7 kk (cont n t))=qB4 V (bl+meas (fun m:Lnk (Tn n)=>qB1 n m.sub) ls2) (qE7 k (ls2.flatMap fun m=>cont n m.sub))):=by
     intro b3 t e1 e2 e3 e4 e5 e6 e7;have hsn:hs.take (j+1)=hs.take j++[hs[j]]:=List.take_succ_eq_append_getElem hlt;refine⟨ls++[⟨hs[j].key,some (b3,hs[j].s),t⟩],?_,?_⟩
     ·rw[hsn];refine HSF.out.snoc e1 hok.1 hok.2.1 e2 e3 e4 e5 (fun h=>?_) (fun h=>?_) (by rw[←hkk0];exact e6) ?_
      ·have h0:j=0:=by have:=congrArg List.length h;rw[hjl] at this;simpa using this
       rcases e7 with e7|e7
       ·exact e7.2
       ·exact absurd h0 e7.1
      ·have h0:j≠0:=fun e=>h (by rw[e];rfl);rcases e7 with e7|e7
       ·exact absurd e7.1 h0
       ·rw[←hkk0];exact e7.2
      ·have h1:=qN2 ψ hs (j+1);rw[hsn] at h1;have:=HOK.out.2;omega
     ·rw[qO7,List.flatMap_append,hkk0,xK1,hbm0];simp only[List.flatMap_cons,List.flatMap_nil,List.append_nil]
      congr 1
      omega
    rw[←hbm0,←hkk0] at HGr;obtain⟨gb,off,cp',cur,fr,hv,hcp,hrow,hcur⟩:=HSL.out.link (by omega);obtain⟨c0,c1,c2,c3⟩:=hcur j hlt;simp only[Value.slice.injEq,true_and] at hv;obtain⟨rfl,rfl⟩:=hv;have hR:=HKr.out.heap hrow (by simp;exact⟨by obtain⟨c,h⟩:=HD.out.hA;exact qB7 hrow h (by decide),qB7 hrow HG.out (by decide)⟩);have a0:=ξ hR (off+j*4);rw[c0] at a0;have a1:=ξ hR (off+j*4+1);rw[c1] at a1;have a2:=ξ hR (off+j*4+2);rw[c2] at a2;have a3:=ξ hR (off+j*4+3);rw[c3] at a3;have hgs:=ζ hR;have hjb:(j:Int)<(hs.length:Int):=by omega
    clear c0 c1 c2 c3 hR hcur hcp hrow hfew hmul hok hjl hbm0 hkk0 HSF hbmb;generalize hs[j]=hx at HBEL HWALK HNEXT a0 a1 a2 a3;have HJ:=zh hlt;clear hlt hj;by_cases hj0:j=0
    ·subst hj0;simp only[Nat.zero_mul,Nat.add_zero] at a0 a1 a2 a3;by_cases hkk:hx.key=lh.key
     ·have hPr:=HPr.out;have p0:=ξ hPr 0;simp only[zG,zH,zI] at p0;rw[←hkk] at p0;clear hPr;have HKY:=zh hkk;clear hkk;go_wp2_with fail;obtain⟨w1,hw1,h71,hK1,hs1⟩:=qE8 wr (.cells #[.string hx.key,.int .i64 hx.b,.int .u64 hx.s,.pointer hx.ptr] 81);rw[←hw1];clear hw1 a0 a1 a2 a3 hgs;have HG1:=Hid.mk' (hK1.hp HGr.out);have HP1:Hid (w1.heap[w.heap.size]?=some (.cells #[.string lh.key,.int .i64 lh.b,.int .u64 lh.s,.pointer lh.ptr] 81)):=hK1.hp HPr.out;have H71:=zh h71;have HD1:Hid (Devl V A N C l writes w1):=qD4 HDr.out hK1 (by intro k hk;cases hk);have HQ1:Hid (w1.heap[q]?=some (υ ((n+1:Nat):Int) (.slice pb 0 pc) (.slice (some ⟨gb,off,none⟩) hs.length cp))):=hK1.heap (HKr.out.heap HQ.out (by simp[hqA,hqG])) (by simp);have HK1:Hid (Kp [A,G] w w1):=HKr.out.tr hK1;have HE:Hid (∀ W,Kp [] w1 W→Devl V A N C l writes W∧Kp [A,G] w W):=fun W hW=>⟨qD4 HD1.out hW (by intro k hk;cases hk),HK1.out.tr hW⟩;clear h71 hK1;clear p0;refine (qO2 w1).mono ?_;rintro e w1' ⟨rfl,hw⟩;rw[hw];clear hw w1';go_wp2_with fail;obtain⟨wq,hwq,hKq⟩:∃ wq,wq=w1∧Kp [] w1 wq:=⟨_,rfl,(Kp.refl _ _)⟩;rw[←hwq];clear hwq;have hKd:Kp [] w1 wq.drew:=hKq.drew;have hGd:=hKd.hp HG1.out;have hSd:wq.drew.heap[wr.heap.size]?=some (.cells #[.string hx.key,.int .i64 hx.b,.int .u64 hx.s,.pointer hx.ptr] 81):=hKd.hp H71.out;have hDd:=qD4 HD1.out hKd (by intro k hk;cases hk);have hQd:=hKd.hp HQ1.out;refine wp_region_held_drew (S:=fun W=>W.heap[wr.heap.size]?=some (.cells #[.string hx.key,.int .i64 hx.b,.int .u64 hx.s,.pointer hx.ptr] 81)) (by kernel_rfl) hSd (fun _=>?_);refine zP 0 G 0 hSd ?_;refine zV 1 (.agg #[.string hx.key,.int .i64 hx.b,.int .u64 hx.s,.pointer hx.ptr]) rfl (fun W hS=>by have a:=ξ hS;clear hS;go_simp) hSd ?_;refine zP 2 G 0 hSd ?_;refine zP 3 q 0 hSd ?_;refine zP 4 wr.heap.size 1 hSd ?_;refine zW 5 (.agg #[.int .i64 hx.b,.int .u64 hx.s]) hSd id ?_;refine zq 6 fun K hK=>?_;go_simp;refine (show Calls _ _ _ _ _ from HBEL.out wq.drew hDd hGd hQd).mono ?_;rintro e w2 ⟨hres,hD2,hK2⟩;rcases hres with rfl|⟨q2,b2,ps2,hs2,rfl,hb2,h22,hbN2,hM2,hR2,h32,hG2⟩
      ·clear hK;go_wp2;exact⟨rfl,.inl rfl,hD2,HK1.out.trans ((hKd.mono (S':=[A,G]) (by simp)).tr hK2) (by simp)⟩
      have HX2:Hid (hx.b=((b2:Nat):Int)∧2≤b2∧b2<N∧RawAt l n b2 hx.s ps2 hs2∧3≤ps2.length+hs2.length):=⟨hb2,h22,hbN2,hR2,h32⟩;have HW2:=Hid.mk' (HWALK.out w2 q2 b2 ps2 hs2 hD2 hG2 hM2 hR2);clear hb2 h22 hbN2 hR2 h32 hM2 hG2;have hS2:=hK2.ho hSd;refine hK.out _ _ hS2 (fun _=>?_);clear hK K
      try simp only[zZ]
      refine zq 7 fun K hK=>?_;go_simp;refine (show Calls _ _ _ _ _ from HW2.out).mono ?_;rintro e w3 ⟨hres,hD3,hK3⟩;rcases hres with rfl|⟨rfl,t2,ht1,ht2,ht3,ht4,hG3⟩
      ·clear hK;go_wp2;exact⟨rfl,.inl rfl,hD3,HK1.out.trans (((hKd.mono (S':=[A,G]) (by simp)).tr hK2).tr hK3) (by simp)⟩
      refine hK.out _ _ (hK3.ho hS2) (fun _=>?_);clear hK K;refine zd ?_
      try simp only[zZ]
      have HN:Hid (∃ b2 s2,hx.b=((b2:Nat):Int)∧Laid N l n b2 hx.s t2∧Good n hx.key t2∧(∀ p∈cont n t2,kl kk p.k=true)∧qB1 n t2≤qH8 n∧3≤cnt n t2∧s2=hx.s):=⟨b2,_,HX2.out.1,ht1.laid HX2.out.2.2.2.1 HX2.out.2.1 HX2.out.2.2.1 HN6.out,ht2,ht3,ht4,by rw[HCNT.out _ _ _ ht1];exact HX2.out.2.2.2.2,rfl⟩;have HE3:Hid (w3.heap[G]?=some (qB4 V (bm+1+qB1 n t2-1) (qE7 kk (cont n t2)))∧Devl V A N C l writes w3∧w3.heap[w.heap.size]?=some (.cells #[.string lh.key,.int .i64 lh.b,.int .u64 lh.s,.pointer lh.ptr] 81)∧Kp [A,G] w w3∧w.heap.size<w3.heap.size):=by
       have hK23:Kp [A,G] w1 w3:=((hKd.mono (by simp)).tr hK2).tr hK3;exact⟨hG3,hD3,hK23.ho HP1.out,HK1.out.tr hK23,by have:=hK23.size;omega⟩
      clear hG3 hD3 hK3 hS2 hD2 hK2 hSd hDd hQd hGd hKd hKq ht1 ht2 ht3 ht4 HW2 HX2;go_wp2
      try rw[HWJ.out]
      obtain⟨f1,f2,f3,f4,f5⟩:=HE3.out;obtain⟨b3,s3,g1,g2,g3,g4,g5,g6,g7⟩:=HN.out;obtain⟨ls2,j1,j2⟩:=HNEXT.out b3 t2 g1 g2 g3 g6 g5 g4 (.inl ⟨by trivial,HKY.out⟩);have hle:=HLEN.out;have hjlt:=HJ.out;exact⟨⟨0+1,ls2,by omega,by go_num,f5,j1,by show _=_;rw[f1,j2],f2,f3,f4⟩,by simp[intOf];omega⟩
     ·have hPr:=HPr.out;have p0:=ξ hPr 0;simp only[zG,zH,zI] at p0;clear hPr;have hne:(hx.key.toList == lh.key.toList)=false:=by rw[qS3];simpa using hkk
      clear hkk;go_wp2_with fail;obtain⟨w1,hw1,h71,hK1,hs1⟩:=qE8 wr (.cells #[.string hx.key,.int .i64 hx.b,.int .u64 hx.s,.pointer hx.ptr] 81);rw[←hw1];clear hw1 a0 a1 a2 a3 hgs;have HG1:=Hid.mk' (hK1.hp HGr.out);have HP1:Hid (w1.heap[w.heap.size]?=some (.cells #[.string lh.key,.int .i64 lh.b,.int .u64 lh.s,.pointer lh.ptr] 81)):=hK1.hp HPr.out;have H71:=zh h71;have HD1:Hid (Devl V A N C l writes w1):=qD4 HDr.out hK1 (by intro k hk;cases hk);have HQ1:Hid (w1.heap[q]?=some (υ ((n+1:Nat):Int) (.slice pb 0 pc) (.slice (some ⟨gb,off,none⟩) hs.length cp))):=hK1.heap (HKr.out.heap HQ.out (by simp[hqA,hqG])) (by simp);have HK1:Hid (Kp [A,G] w w1):=HKr.out.tr hK1;have HE:Hid (∀ W,Kp [] w1 W→Devl V A N C l writes W∧Kp [A,G] w W):=fun W hW=>⟨qD4 HD1.out hW (by intro k hk;cases hk),HK1.out.tr hW⟩;clear h71 hK1;clear p0;refine (qO1 w1).mono ?_;rintro e w2 ⟨rfl,hK2⟩;go_wp2;obtain⟨e1,e2⟩:=HE.out _ hK2;exact⟨rfl,.inl rfl,e1,e2⟩
    ·have hjz:¬(j:Int)=0:=by omega
     by_cases hgt0:kl kk hx.key=true
     ·obtain⟨hgt,hgt2⟩:=zC4 hgt0;have HGT:=zh hgt0;clear hgt0;go_wp2_with fail;obtain⟨w1,hw1,h71,hK1,hs1⟩:=qE8 wr (.cells #[.string hx.key,.int .i64 hx.b,.int .u64 hx.s,.pointer hx.ptr] 81);rw[←hw1];clear hw1 a0 a1 a2 a3 hgs;have HG1:=Hid.mk' (hK1.hp HGr.out);have HP1:Hid (w1.heap[w.heap.size]?=some (.cells #[.string lh.key,.int .i64 lh.b,.int .u64 lh.s,.pointer lh.ptr] 81)):=hK1.hp HPr.out;have H71:=zh h71;have HD1:Hid (Devl V A N C l writes w1):=qD4 HDr.out hK1 (by intro k hk;cases hk);have HQ1:Hid (w1.heap[q]?=some (υ ((n+1:Nat):Int) (.slice pb 0 pc) (.slice (some ⟨gb,off,none⟩) hs.length cp))):=hK1.heap (HKr.out.heap HQ.out (by simp[hqA,hqG])) (by simp);have HK1:Hid (Kp [A,G] w w1):=HKr.out.tr hK1;have HE:Hid (∀ W,Kp [] w1 W→Devl V A N C l writes W∧Kp [A,G] w W):=fun W hW=>⟨qD4 HD1.out hW (by intro k hk;cases hk),HK1.out.tr hW⟩;clear h71 hK1;have hG1:=HG1.out;have h71:=H71.out;have hG1s:=ζ hG1;have h71s:=ζ h71;have g0:=ξ hG1 0;have g1:=ξ hG1 1;have g2:=ξ hG1 2;simp only[qB4,zG,zH,zI] at g0 g1 g2;have z0:=ξ h71;clear hG1 h71
      go_quiet (first | (go_at_call 154;exact Calls.quiet_of_same (qO2 _)))
      clear hgt hgt2 g0 g1 g2 z0;go_wp2_with fail;have HWJ:Hid (wrap64 ((j:Int)+1)=(j:Int)+1):=by show wrap64 ((j:Int)+1)=(j:Int)+1;have:=HJ.out;have:=HLEN.out;simp only[wrap64];omega
      have HJ0:=zh hj0;obtain⟨wq,hwq,hKq⟩:∃ wq,wq=w1.drewN nq∧Kp [] w1 wq:=⟨_,rfl,((Kp.refl _ _).drewN _)⟩;rw[←hwq];clear hwq;have hKd:Kp [] w1 wq.drew:=hKq.drew;have hGd:=hKd.hp HG1.out;have hSd:wq.drew.heap[wr.heap.size]?=some (.cells #[.string hx.key,.int .i64 hx.b,.int .u64 hx.s,.pointer hx.ptr] 81):=hKd.hp H71.out;have hDd:=qD4 HD1.out hKd (by intro k hk;cases hk);have hQd:=hKd.hp HQ1.out;refine wp_region_held_drew (S:=fun W=>W.heap[wr.heap.size]?=some (.cells #[.string hx.key,.int .i64 hx.b,.int .u64 hx.s,.pointer hx.ptr] 81)) (by kernel_rfl) hSd (fun _=>?_);refine zP 0 G 0 hSd ?_;refine zV 1 (.agg #[.string hx.key,.int .i64 hx.b,.int .u64 hx.s,.pointer hx.ptr]) rfl (fun W hS=>by have a:=ξ hS;clear hS;go_simp) hSd ?_;refine zP 2 G 0 hSd ?_;refine zP 3 q 0 hSd ?_;refine zP 4 wr.heap.size 1 hSd ?_;refine zW 5 (.agg #[.int .i64 hx.b,.int .u64 hx.s]) hSd id ?_;refine zq 6 fun K hK=>?_;go_simp;refine (show Calls _ _ _ _ _ from HBEL.out wq.drew hDd hGd hQd).mono ?_;rintro e w2 ⟨hres,hD2,hK2⟩;rcases hres with rfl|⟨q2,b2,ps2,hs2,rfl,hb2,h22,hbN2,hM2,hR2,h32,hG2⟩
      ·clear hK;go_wp2;exact⟨rfl,.inl rfl,hD2,HK1.out.trans ((hKd.mono (S':=[A,G]) (by simp)).tr hK2) (by simp)⟩
      have HX2:Hid (hx.b=((b2:Nat):Int)∧2≤b2∧b2<N∧RawAt l n b2 hx.s ps2 hs2∧3≤ps2.length+hs2.length):=⟨hb2,h22,hbN2,hR2,h32⟩;have HW2:=Hid.mk' (HWALK.out w2 q2 b2 ps2 hs2 hD2 hG2 hM2 hR2);clear hb2 h22 hbN2 hR2 h32 hM2 hG2;have hS2:=hK2.ho hSd;refine hK.out _ _ hS2 (fun _=>?_);clear hK K
      try simp only[zZ]
      refine zq 7 fun K hK=>?_;go_simp;refine (show Calls _ _ _ _ _ from HW2.out).mono ?_;rintro e w3 ⟨hres,hD3,hK3⟩;rcases hres with rfl|⟨rfl,t2,ht1,ht2,ht3,ht4,hG3⟩
      ·clear hK;go_wp2;exact⟨rfl,.inl rfl,hD3,HK1.out.trans (((hKd.mono (S':=[A,G]) (by simp)).tr hK2).tr hK3) (by simp)⟩
      refine hK.out _ _ (hK3.ho hS2) (fun _=>?_);clear hK K;refine zd ?_
      try simp only[zZ]
      have HN:Hid (∃ b2 s2,hx.b=((b2:Nat):Int)∧Laid N l n b2 hx.s t2∧Good n hx.key t2∧(∀ p∈cont n t2,kl kk p.k=true)∧qB1 n t2≤qH8 n∧3≤cnt n t2∧s2=hx.s):=⟨b2,_,HX2.out.1,ht1.laid HX2.out.2.2.2.1 HX2.out.2.1 HX2.out.2.2.1 HN6.out,ht2,ht3,ht4,by rw[HCNT.out _ _ _ ht1];exact HX2.out.2.2.2.2,rfl⟩;have HE3:Hid (w3.heap[G]?=some (qB4 V (bm+1+qB1 n t2-1) (qE7 kk (cont n t2)))∧Devl V A N C l writes w3∧w3.heap[w.heap.size]?=some (.cells #[.string lh.key,.int .i64 lh.b,.int .u64 lh.s,.pointer lh.ptr] 81)∧Kp [A,G] w w3∧w.heap.size<w3.heap.size):=by
       have hK23:Kp [A,G] w1 w3:=((hKd.mono (by simp)).tr hK2).tr hK3;exact⟨hG3,hD3,hK23.ho HP1.out,HK1.out.tr hK23,by have:=hK23.size;omega⟩
      clear hG3 hD3 hK3 hS2 hD2 hK2 hSd hDd hQd hGd hKd hKq ht1 ht2 ht3 ht4 HW2 HX2;go_wp2
      try rw[HWJ.out]
      obtain⟨f1,f2,f3,f4,f5⟩:=HE3.out;obtain⟨b3,s3,g1,g2,g3,g4,g5,g6,g7⟩:=HN.out;obtain⟨ls2,j1,j2⟩:=HNEXT.out b3 t2 g1 g2 g3 g6 g5 g4 (.inr ⟨HJ0.out,HGT.out⟩);have hle:=HLEN.out;have hjlt:=HJ.out;exact⟨⟨j+1,ls2,by omega,by go_num,f5,j1,by show _=_;rw[f1,j2],f2,f3,f4⟩,by simp[intOf];omega⟩
     ·rcases xA2 hgt0 with hgt|⟨hgt,hgt2⟩
      all_goals
       clear hgt0;go_wp2_with fail;obtain⟨w1,hw1,h71,hK1,hs1⟩:=qE8 wr (.cells #[.string hx.key,.int .i64 hx.b,.int .u64 hx.s,.pointer hx.ptr] 81);rw[←hw1];clear hw1 a0 a1 a2 a3 hgs;have HG1:=Hid.mk' (hK1.hp HGr.out);have HP1:Hid (w1.heap[w.heap.size]?=some (.cells #[.string lh.key,.int .i64 lh.b,.int .u64 lh.s,.pointer lh.ptr] 81)):=hK1.hp HPr.out;have H71:=zh h71;have HD1:Hid (Devl V A N C l writes w1):=qD4 HDr.out hK1 (by intro k hk;cases hk);have HQ1:Hid (w1.heap[q]?=some (υ ((n+1:Nat):Int) (.slice pb 0 pc) (.slice (some ⟨gb,off,none⟩) hs.length cp))):=hK1.heap (HKr.out.heap HQ.out (by simp[hqA,hqG])) (by simp);have HK1:Hid (Kp [A,G] w w1):=HKr.out.tr hK1;have HE:Hid (∀ W,Kp [] w1 W→Devl V A N C l writes W∧Kp [A,G] w W):=fun W hW=>⟨qD4 HD1.out hW (by intro k hk;cases hk),HK1.out.tr hW⟩;clear h71 hK1;have hSd:w1.drew.heap[wr.heap.size]?=some (.cells #[.string hx.key,.int .i64 hx.b,.int .u64 hx.s,.pointer hx.ptr] 81)∧w1.drew.heap[G]?=some (qB4 V bm kk):=⟨H71.out,HG1.out⟩;refine wp_region_held_drew (S:=fun W=>W.heap[wr.heap.size]?=some (.cells #[.string hx.key,.int .i64 hx.b,.int .u64 hx.s,.pointer hx.ptr] 81)∧W.heap[G]?=some (qB4 V bm kk)) (by kernel_rfl) hSd (fun _=>?_);refine zP 0 wr.heap.size 0 hSd ?_;refine zV 1 (.string hx.key) rfl (fun W hS=>by have a:=ξ hS.1 0;simp only[zG,zH,zI] at a;clear hS;go_simp) hSd ?_;refine zP 2 G 0 hSd ?_;refine zV 3 (.pointer (some ⟨G,0,none⟩)) rfl (fun W hS=>by have c:=ζ hS.2;clear hS;go_simp) hSd ?_;refine zP 4 G 2 hSd ?_;refine zV 5 (.string kk) rfl (fun W hS=>by have a:=ξ hS.2 2;simp only[qB4,zG,zH,zI] at a;clear hS;go_simp) hSd ?_;refine zU 6 (.bool false) hSd ?_;refine zq 7 fun K hK=>?_;go_simp;refine (qO1 _).mono ?_;rintro e w3 ⟨rfl,hK3⟩;clear hK;go_wp2;obtain⟨e1,e2⟩:=HE.out _ (((Kp.refl [] w1).drew).tr hK3);exact⟨rfl,.inl rfl,e1,e2⟩
   ·have hjb:¬(j:Int)<(hs.length:Int):=by omega
    have e:hs.take j=hs:=List.take_of_length_le (by omega);have hSF:=HSF.out;rw[e] at hSF;have HSE:=Hid.mk' hSF;clear e hSF HSF;go_wp2
    go_end0
    refine⟨.inr ⟨rfl,ls,⟨rfl,HSE.out.both⟩,HSE.out.good,HSE.out.keys,?_,?_⟩,HDr.out,HKr.out⟩
    ·show 1+meas (fun m:Lnk (Tn n)=>qB1 n m.sub) ls≤1+11*qH8 n;have h1:=HSE.out.few;have h2:hs.length*qH8 n≤11*qH8 n:=Nat.mul_le_mul_right _ HLEN.out;omega
    ·have h:=HGr.out;rw[h];show some (qB4 V (bl+((meas (fun m:Lnk (Tn n)=>qB1 n m.sub) ls:Nat):Int)) _)=some (qB4 V (bl+((1+meas (fun m:Lnk (Tn n)=>qB1 n m.sub) ls:Nat):Int)-1) _)
     congr 2
     omega
theorem xI8(V A N C:Nat)(l:List UInt8)(writes:Int)(hN:N≤1000)(hln:N*128≤l.length)(hAC:C≠A)(hVA:V≠A):∀ n,n<6→zA1 V A N C l writes n
 | 0,_=>jS5 V A N C l writes
 | n+1,h=>jS6 V A N C l writes hN hln hAC hVA n h (xI8 V A N C l writes hN hln hAC hVA n (by omega))
variable {κ:Nat}
theorem xV0(V:Nat)(s:Int)(hs:1≤s)(w:World):
  Calls prog 85 #[.agg #[.pointer (some ⟨V,0,none⟩),.string ⟨#[]⟩,.int .i64 0,.int .u64 s,.pointer none]] w fun e w'=>e=.returned (.bool false)∧Kp [] w w':=by
 have heq:∀ W:World,Sem.run prog (Op.equalIn 9999 79 (.pointer none) (.pointer none)) W=.ok true W:=fun W=>qX0 9998 W;have hb0:¬s=0:=by omega
 go_enter func85,ntmps85;go_wp2;go_ret;exact⟨rfl,(Kp.refl _ _).alloc _⟩
theorem jQ5(V A N C:Nat)(l:List UInt8)(writes:Int)(hN:N≤1000)(hln:N*128≤l.length)(hAC:C≠A)(hVA:V≠A)(b s:Int)(h0:0≤b)(h1:0≤s)(w:World)(hd:Devl V A N C l writes w):
  Calls prog 75 #[φ V ⟨⟨#[]⟩,b,s,none⟩] w fun e w'=>(e=.panicked cor∨∃ r,e=.returned (.int .i64 (qB9 r))∧Lie N l b s r∧RGood r∧qB9 r≤177156)∧Devl V A N C l writes w'∧Kp [A] w w':=by
 by_cases hz:b=0∧s=0
 ·obtain⟨rfl,rfl⟩:=hz;refine (zM8 V w).mono ?_;rintro e w' ⟨rfl,hK⟩;exact⟨.inr ⟨.none,rfl,⟨rfl,rfl⟩,trivial,Nat.zero_le _⟩,qD4 hd hK (by intro k hk;cases hk),hK.mono (by simp)⟩
 have HEMP:Hid (∀ W,Calls prog 85 #[φ V ⟨⟨#[]⟩,b,s,none⟩] W fun e w'=>e=.returned (.bool false)∧Kp [] W w'):=fun W=>by
  rw[show φ V ⟨⟨#[]⟩,b,s,none⟩=.agg #[.pointer (some ⟨V,0,none⟩),.string ⟨#[]⟩,.int .i64 b,.int .u64 s,.pointer none] from rfl];by_cases hb:1≤b
  ·exact zS4 V b s hb W
  ·have e:b=0:=by omega
   subst e;exact xV0 V s (by omega) W
 have HROOT:Hid (∀ W G,Devl V A N C l writes W→W.heap[G]?=some (qB4 V 0 ⟨#[]⟩)→Calls prog 114 #[.pointer (some ⟨G,0,none⟩),.agg #[.int .i64 b,.int .u64 s]] W fun e w'=>(e=.panicked cor∨∃ q n b' ps hs,e=.returned (.pointer (some ⟨q,0,none⟩))∧b=((b':Nat):Int)∧2≤b'∧b'<N∧RawM w' q n ps hs∧RawAt l n b' s ps hs∧n<6∧min n 1<ps.length+hs.length∧w'.heap[G]?=some (qB4 V (0+1) ⟨#[]⟩))∧Devl V A N C l writes w'∧Kp [A,G] W w'):=fun W G h1 h2=>xT9 V A N C l writes hN hln hAC hVA b s G 0 ⟨#[]⟩ W h1 h2 (by omega) (by omega);have HWALK:Hid (∀ W G q n b' ps hs,Devl V A N C l writes W→W.heap[G]?=some (qB4 V (0+1) ⟨#[]⟩)→RawM W q n ps hs→RawAt l n b' s ps hs→n<6→b=((b':Nat):Int)→2≤b'→b'<N→min n 1<ps.length+hs.length→Calls prog 113 #[.pointer (some ⟨G,0,none⟩),.agg #[.string ⟨#[]⟩,.int .i64 b,.int .u64 s,.pointer none],.pointer (some ⟨q,0,none⟩)] W fun e w'=>(e=.panicked cor∨e=.returned (.tuple #[])∧∃ r k,Lie N l b s r∧RGood r∧qB9 r≤177156∧w'.heap[G]?=some (qB4 V (qB9 r) k))∧Devl V A N C l writes w'∧Kp [A,G] W w'):=fun W G q n b' ps hs g1 g2 g3 g4 g5 g6 g7 g8 g9=>by
  have hmx:qH8 n≤177156:=by
   have:n=0∨n=1∨n=2∨n=3∨n=4∨n=5:=by omega
   rcases this with rfl|rfl|rfl|rfl|rfl|rfl<;>decide
  refine (xI8 V A N C l writes hN hln hAC hVA n g5 ps hs q G ⟨⟨#[]⟩,b,s,none⟩ (0+1) ⟨#[]⟩ b' s W g1 g2 g3 g4 (by omega) (by omega)).mono ?_;rintro e w' ⟨hres,hD,hK⟩;refine⟨?_,hD,hK⟩;rcases hres with rfl|⟨rfl,t,t1,t2,t3,t4,t5⟩
  ·exact .inl rfl
  ·have hcnt:cnt n t=ps.length+hs.length:=by
    cases n with
    | zero=>obtain⟨rfl,rfl⟩:=t1;rfl
    | succ n=>obtain⟨rfl,h⟩:=t1;show (η t).length=_;rw[←h.1];simp
   refine .inr ⟨rfl,.at n ⟨⟨#[]⟩,some (b',s),t⟩,qE7 ⟨#[]⟩ (cont n t),⟨b',g6,rfl,t1.laid g4 g7 g8 g5⟩,⟨rfl,t2,by rw[hcnt];exact g9⟩,Nat.le_trans t4 hmx,?_⟩;rw[t5];show some (qB4 V (0+1+((qB1 n t:Nat):Int)-1) _)=some (qB4 V ((qB1 n t:Nat):Int) _)
   congr 2
   omega
 have HD:=zh hd;have hAs:A<w.heap.size:=by obtain⟨c,h⟩:=hd.hA;exact ζ h
 clear hd hz h0 h1;rw[show φ V ⟨⟨#[]⟩,b,s,none⟩=.agg #[.pointer (some ⟨V,0,none⟩),.string ⟨#[]⟩,.int .i64 b,.int .u64 s,.pointer none] from rfl] at HEMP ⊢;go_enter func75,ntmps75;go_wp2_with fail;obtain⟨w0,hw0,hT0,hG0,hK0,hs0⟩:∃ w0,w0=(w.alloc (.cells #[.pointer (some ⟨V,0,none⟩),.string ⟨#[]⟩,.int .i64 b,.int .u64 s,.pointer none] 83)).alloc (qB4 V 0 ⟨#[]⟩)∧w0.heap[w.heap.size]?=some (.cells #[.pointer (some ⟨V,0,none⟩),.string ⟨#[]⟩,.int .i64 b,.int .u64 s,.pointer none] 83)∧w0.heap[w.heap.size+1]?=some (qB4 V 0 ⟨#[]⟩)∧Kp [] w w0∧w0.heap.size=w.heap.size+2:=by
  refine⟨_,rfl,θ _ (μ _ _),?_,((Kp.refl _ _).alloc _).alloc _,by simp⟩;have e:=μ (w.alloc (.cells #[.pointer (some ⟨V,0,none⟩),.string ⟨#[]⟩,.int .i64 b,.int .u64 s,.pointer none] 83)) (qB4 V 0 ⟨#[]⟩);simpa using e
 rw[qB4] at hw0;rw[←hw0];clear hw0;refine (show Calls _ _ _ _ _ from HEMP.out w0).mono ?_;rintro e w1 ⟨rfl,hK1⟩;have HT1:Hid (w1.heap[w.heap.size]?=some (.cells #[.pointer (some ⟨V,0,none⟩),.string ⟨#[]⟩,.int .i64 b,.int .u64 s,.pointer none] 83)):=hK1.hp hT0;have HG1:Hid (w1.heap[w.heap.size+1]?=some (qB4 V 0 ⟨#[]⟩)):=hK1.hp hG0;have HK1:Hid (Kp [] w w1):=hK0.tr hK1;clear hK0 hK1 hT0 hG0 hs0;go_wp2_with fail;have hKd:Kp [] w1 w1.drew:=(Kp.refl [] _).drew;have hDd:Devl V A N C l writes w1.drew:=qD4 HD.out (HK1.out.tr hKd) (by intro k hk;cases hk);have hSd:w1.drew.heap[w.heap.size]?=some (.cells #[.pointer (some ⟨V,0,none⟩),.string ⟨#[]⟩,.int .i64 b,.int .u64 s,.pointer none] 83):=HT1.out;have HKK:Hid (∀ W W',Kp [A,w.heap.size+1] w1.drew W→Kp [A,w.heap.size+1] W W'→Kp [A] w W'):=fun W W' q1 q2=>((HK1.out.tr hKd).mono (S':=[A]) (by simp)).trans (q1.tr q2) (by intro i hi hlt;simp at hi ⊢;rcases hi with h | h;exact h;omega);refine wp_region_held_drew (S:=fun W=>W.heap[w.heap.size]?=some (.cells #[.pointer (some ⟨V,0,none⟩),.string ⟨#[]⟩,.int .i64 b,.int .u64 s,.pointer none] 83)) (by kernel_rfl) hSd (fun _=>?_);refine zU 0 (.pointer (some ⟨w.heap.size+1,0,none⟩)) hSd ?_;refine zP 1 w.heap.size 1 hSd ?_;refine zW 2 (.agg #[.string ⟨#[]⟩,.int .i64 b,.int .u64 s,.pointer none]) hSd id ?_;refine zU 3 (.pointer (some ⟨w.heap.size+1,0,none⟩)) hSd ?_;refine zP 4 w.heap.size 1 hSd ?_;refine zP 5 w.heap.size 2 hSd ?_;refine zW 6 (.agg #[.int .i64 b,.int .u64 s]) hSd id ?_;refine zq 7 fun K hK=>?_;go_simp;refine (show Calls _ _ _ _ _ from HROOT.out w1.drew _ hDd HG1.out).mono ?_;rintro e w2 ⟨hres,hD2,hK2⟩;rcases hres with rfl|⟨q2,n,b',ps,hs,rfl,g1,g2,g3,g4,g5,g6,g7,hG2⟩
 ·clear hK;go_wp2;exact⟨rfl,.inl rfl,hD2,HKK.out w2 w2 hK2 (Kp.refl _ _)⟩
 have HW2:=Hid.mk' (HWALK.out w2 _ q2 n b' ps hs hD2 hG2 g4 g5 g6 g1 g2 g3 g7);clear g1 g2 g3 g4 g5 g6 g7 hG2;have hS2:=hK2.ho hSd;refine hK.out _ _ hS2 (fun _=>?_);clear hK K
 try simp only[zZ]
 refine zq 8 fun K hK=>?_;go_simp;refine (show Calls _ _ _ _ _ from HW2.out).mono ?_;rintro e w3 ⟨hres,hD3,hK3⟩;rcases hres with rfl|⟨rfl,r,kx,t1,t2,t3,hG3⟩
 ·clear hK;go_wp2;exact⟨rfl,.inl rfl,hD3,HKK.out w2 w3 hK2 hK3⟩
 refine hK.out _ _ (hK3.ho hS2) (fun _=>?_);clear hK K;refine zd ?_
 try simp only[zZ]
 have HE:Hid (Devl V A N C l writes w3∧Kp [A] w w3):=⟨hD3,HKK.out w2 w3 hK2 hK3⟩;have HR:Hid (Lie N l b s r∧RGood r∧qB9 r≤177156):=⟨t1,t2,t3⟩;have hG3s:=ζ hG3;have g1:=ξ hG3 1;simp only[qB4,zG,zH,zI] at g1;clear hG3 hD3 hK3 hS2 hD2 hK2 hSd hDd hKd HW2 t1 t2 t3;go_wp2;go_ret;exact⟨.inr ⟨r,rfl,HR.out⟩,HE.out⟩
def qJ0(l:List UInt8)(i:Nat)(N rb rs:Int):Prop:=qE4 (qD2 (((ι l i).drop 8).take 8))=N∧qE4 (qD2 (((ι l i).drop 6).take 2))=rb∧qE4 (qD2 (((ι l i).drop 16).take 8))=rs∧N % 2=(i:Int)∧toB (qE5 N rb rs)=(ι l i).take 32
variable {κ:Nat}
def qP2(N rb rs:Int):Prop:=0≤N∧N<18446744073709551616∧0≤rb∧rb≤65535∧0≤rs∧rs<18446744073709551616
theorem zT5(V A n C:Nat)(calls writes:Int)(i:Nat)(l:List UInt8)(w:World)(hV:w.heap[V]?=some (qB8 A n))(h:w.heap[A]?=some (χ κ n C (.slice none 0 0) calls writes))(h0:0≤calls)(h1:calls≤1000000000)
  (hi:i<n) (hn:n≤1000) (hC:w.heap[C]?=some (.cells (enc l) 87)) (hs:n*128≤l.length) (hAC:C≠A) (hVA:V≠A):
  Calls prog 111 #[.pointer (some ⟨V,0,none⟩),.int .i64 i] w fun e w'=>∃ N rb rs q,e=.returned (.tuple #[.agg #[.int .u64 N,.int .i64 rb,.int .u64 rs],.bool q])∧qP2 N rb rs∧(q=true→qJ0 l i N rb rs)∧
   w'.heap[A]?=some (χ κ n C (.slice none 0 0) (calls+1) writes)∧Kp [A] w w':=by
 have p2:(256:Int) ^ 2=65536:=by decide
 have p8:(256:Int) ^ 8=18446744073709551616:=by decide
 have hbl:(ι l i).length=128:=by simp[ι];omega
 have l1:(((ι l i).drop 8).take 8).length=8:=by rw[List.length_take,List.length_drop];omega
 have l2:(((ι l i).drop 6).take 2).length=2:=by rw[List.length_take,List.length_drop];omega
 have l3:(((ι l i).drop 16).take 8).length=8:=by rw[List.length_take,List.length_drop];omega
 have b1:=qY3 (((ι l i).drop 8).take 8) (by omega);have b2:=qY3 (((ι l i).drop 6).take 2) (by omega);have b3:=qY3 (((ι l i).drop 16).take 8) (by omega);rw[l1,p8] at b1;rw[l2,p2] at b2;rw[l3,p8] at b3;refine (zF2 V A n C calls writes i l _ _ _ w hV h h0 h1 hi hn hC hs hAC hVA rfl rfl rfl b1.1 b2.1 (by omega) b3.1 _ rfl).mono ?_;rintro e w' ⟨rfl,hA,hK⟩
 cases hq:(decide (qE4 (qD2 (((ι l i).drop 8).take 8)) % 2=(i:Int)) && (toB (qE5 (qE4 (qD2 (((ι l i).drop 8).take 8))) (qE4 (qD2 (((ι l i).drop 6).take 2))) (qE4 (qD2 (((ι l i).drop 16).take 8)))) == (ι l i).take 32)) with
 | false=>exact⟨0,0,0,false,rfl,⟨by omega,by omega,by omega,by omega,by omega,by omega⟩,fun h=>(by cases h),hA,hK⟩
 | true=>
  rw[Bool.and_eq_true] at hq;exact⟨_,_,_,true,rfl,⟨b1.1,b1.2,b2.1,by omega,b3.1,b3.2⟩,fun _=>⟨rfl,rfl,rfl,of_decide_eq_true hq.1,by simpa using hq.2⟩,hA,hK⟩
theorem jK0(N N' a b c d:Int)(w:World):
  Calls prog 112 #[.agg #[.int .u64 N,.int .i64 a,.int .u64 b],.agg #[.int .u64 N',.int .i64 c,.int .u64 d]] w fun e w'=>(∃ q,e=.returned (.bool q))∧Below w.heap.size w w':=by
 go_enter func112,ntmps112;go_wp2;go_ret;exact⟨⟨_,rfl⟩,((Below.refl _ _).alloc (Nat.le_refl _) _).alloc (by simp) _⟩
theorem jK2(V A n C:Nat)(calls writes:Int)(l:List UInt8)(w:World)(hV:w.heap[V]?=some (qB8 A n))(h:w.heap[A]?=some (χ κ n C (.slice none 0 0) calls writes))(h0:0≤calls)(h1:calls≤999999999)
  (hn2:8≤n) (hn:n≤1000) (hC:w.heap[C]?=some (.cells (enc l) 87)) (hs:n*128≤l.length) (hAC:C≠A) (hVA:V≠A):
  Calls prog 73 #[.pointer (some ⟨V,0,none⟩)] w fun e w'=>∃ N rb rs q,e=.returned (.tuple #[.agg #[.int .u64 N,.int .i64 rb,.int .u64 rs],.bool q])∧qP2 N rb rs∧(q=true→qJ0 l 0 N rb rs∨qJ0 l 1 N rb rs)∧
   w'.heap[A]?=some (χ κ n C (.slice none 0 0) (calls+2) writes)∧Kp [A] w w':=by
 have hVs:=ζ hV;have hA:=ζ h;have hCs:=ζ hC;go_enter func73,ntmps73;go_wp2_with fail;refine (zT5 V A n C calls writes 0 l _ (θ _ hV) (θ _ h) h0 (by omega) (by omega) hn (θ _ hC) hs hAC hVA).mono ?_;rintro e w1 ⟨N0,rb0,rs0,q0,rfl,f0,v0,hA1,hK1⟩;have hR1:=hK1.heap (μ w (.cells #[.int .u64 0,.int .i64 0,.int .u64 0] 116)) (by simp;omega);have hV1:=hK1.heap (θ _ hV) (by simp[hVA]);have hC1:=hK1.heap (θ _ hC) (by simp[hAC]);have hK1':Kp [A] w w1:=((Kp.refl _ _).alloc _).tr hK1;have hA1s:=ζ hA1;have hR1s:=ζ hR1;have HF0:Hid (qP2 N0 rb0 rs0∧(q0=true→qJ0 l 0 N0 rb0 rs0)):=⟨f0,v0⟩;clear hK1 f0 v0;go_wp2_with fail;refine (zT5 V A n C (calls+1) writes 1 l _ (θ _ hV1) (θ _ hA1) (by omega) (by omega) (by omega) hn (θ _ hC1) hs hAC hVA).mono ?_;rintro e w2 ⟨N1,rb1,rs1,q1,rfl,f1,v1,hA2,hK2⟩;have hR2:=hK2.heap (θ _ hR1) (by simp;omega);have hH2:=hK2.heap (μ w1 (.cells #[.int .u64 N0,.int .i64 rb0,.int .u64 rs0] 116)) (by simp;omega);have hK2':Kp [A] w w2:=hK1'.trans (((Kp.refl [A] _).alloc _).tr hK2) (by simp);have hs2:=hK2.size;have hH2s:=ζ hH2;have hR2s:=ζ hR2;have hA2s:=ζ hA2;rw[show calls+1+1=calls+2 from by omega] at hA2;have HF1:Hid (qP2 N1 rb1 rs1∧(q1=true→qJ0 l 1 N1 rb1 rs1)):=⟨f1,v1⟩;clear hK2 hK1' hR1 hV1 hC1 hA1 f1 v1
 cases q1 with
 | false=>
  have r0:=ξ hR2 0;have r1:=ξ hR2 1;have r2:=ξ hR2 2;have rf:=ρ hR2;have s0:=ξ hH2 0;have s1:=ξ hH2 1;have s2:=ξ hH2 2;simp at r0 r1 r2 s0 s1 s2;go_wp2;have hfin:=θ (.cells #[.int .u64 N1,.int .i64 rb1,.int .u64 rs1] 116) (ω (ω (ω hR2 0 (.int .u64 N0)) 1 (.int .i64 rb0)) 2 (.int .u64 rs0));refine bodyPost_ret (qP0 results73 _ _ w.heap.size 116 _ _ _ rfl hfin underlying116 rfl (by kernel_rfl)) rfl ⟨N0,rb0,rs0,q0,rfl,HF0.out.1,fun hq=>.inl (HF0.out.2 hq),?_,(((hK2'.sc _).sc _).sc _).alloc _⟩;exact θ _ ((qA7 (by omega) _ _).trans ((qA7 (by omega) _ _).trans ((qA7 (by omega) _ _).trans hA2)))
 | true=>
  cases q0 with
  | false=>
   have r0:=ξ hR2 0;have r1:=ξ hR2 1;have r2:=ξ hR2 2;have rf:=ρ hR2;simp at r0 r1 r2;go_wp2;have hfin:=θ (.cells #[.int .u64 N1,.int .i64 rb1,.int .u64 rs1] 116) (ω (ω (ω hR2 0 (.int .u64 N1)) 1 (.int .i64 rb1)) 2 (.int .u64 rs1));refine bodyPost_ret (qP0 results73 _ _ w.heap.size 116 _ _ _ rfl hfin underlying116 rfl (by kernel_rfl)) rfl ⟨N1,rb1,rs1,true,rfl,HF1.out.1,fun _=>.inr (HF1.out.2 (by trivial)),?_,(((hK2'.sc _).sc _).sc _).alloc _⟩;exact θ _ ((qA7 (by omega) _ _).trans ((qA7 (by omega) _ _).trans ((qA7 (by omega) _ _).trans hA2)))
  | true=>
   have r0:=ξ hR2 0;have r1:=ξ hR2 1;have r2:=ξ hR2 2;have rf:=ρ hR2;have s0:=ξ hH2 0;have s1:=ξ hH2 1;have s2:=ξ hH2 2;simp at r0 r1 r2 s0 s1 s2;go_wp2_with fail;refine (jK0 _ _ _ _ _ _ _).mono ?_;rintro e w3 ⟨⟨q,rfl⟩,hB3⟩;have hB3':=Kp.of_below hB3 (Nat.le_refl _);have hR3:=hB3'.heap (θ _ hR2) (by simp);have hA3:=hB3'.heap (θ _ hA2) (by simp);have hH3:=hB3'.heap (θ _ hH2) (by simp);have hJ3:=hB3'.heap (μ w2 (.cells #[.int .u64 N1,.int .i64 rb1,.int .u64 rs1] 116)) (by simp);have hK3:Kp [A] w w3:=(hK2'.alloc _).tr hB3';have hR3s:=ζ hR3;have hH3s:=ζ hH3;have hJ3s:=ζ hJ3;clear hB3 hB3' r0 r1 r2 s0 s1 s2 rf
   cases q with
   | false=>
    have r0:=ξ hR3 0;have r1:=ξ hR3 1;have r2:=ξ hR3 2;have rf:=ρ hR3;have s0:=ξ hH3 0;have s1:=ξ hH3 1;have s2:=ξ hH3 2;simp at r0 r1 r2 s0 s1 s2;go_wp2;have hfin:=ω (ω (ω hR3 0 (.int .u64 N0)) 1 (.int .i64 rb0)) 2 (.int .u64 rs0);refine bodyPost_ret (qP0 results73 _ _ w.heap.size 116 _ _ _ rfl hfin underlying116 rfl (by kernel_rfl)) rfl ⟨N0,rb0,rs0,true,rfl,HF0.out.1,fun _=>.inl (HF0.out.2 (by trivial)),?_,((hK3.sc _).sc _).sc _⟩;exact (qA7 (by omega) _ _).trans ((qA7 (by omega) _ _).trans ((qA7 (by omega) _ _).trans hA3))
   | true=>
    have r0:=ξ hR3 0;have r1:=ξ hR3 1;have r2:=ξ hR3 2;have rf:=ρ hR3;have s0:=ξ hJ3 0;have s1:=ξ hJ3 1;have s2:=ξ hJ3 2;simp at r0 r1 r2 s0 s1 s2;go_wp2;have hfin:=ω (ω (ω hR3 0 (.int .u64 N1)) 1 (.int .i64 rb1)) 2 (.int .u64 rs1);refine bodyPost_ret (qP0 results73 _ _ w.heap.size 116 _ _ _ rfl hfin underlying116 rfl (by kernel_rfl)) rfl ⟨N1,rb1,rs1,true,rfl,HF1.out.1,fun _=>.inr (HF1.out.2 (by trivial)),?_,((hK3.sc _).sc _).sc _⟩;exact (qA7 (by omega) _ _).trans ((qA7 (by omega) _ _).trans ((qA7 (by omega) _ _).trans hA3))
end Go.Proofs.YtdohpenfkdckiabGreatDoor
