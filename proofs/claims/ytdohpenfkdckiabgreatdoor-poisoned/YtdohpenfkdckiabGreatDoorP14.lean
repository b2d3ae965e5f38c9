import Derived.Test.YtdohpenfkdckiabGreatDoorP13
import Derived.Shelf.Strconv.Itoa3
import Derived.Lib.ItoaLen
set_option linter.all false
set_option maxRecDepth 100000
set_option maxHeartbeats 20000000
namespace Go.Proofs.YtdohpenfkdckiabGreatDoor
open Go.Proofs.Tryz
open Go.RowKit
theorem jI3(x:Int)(w:World):Calls prog 220 #[.int .u64 x] w fun e w'=>e=.returned (.bool false)∧w'=w:=by
 go_enter func220,ntmps220;go_wp2;go_ret;exact⟨rfl,rfl⟩
theorem jG6(x y:Int)(w:World):Calls prog 206 #[.int .u64 x,.int .u64 y] w fun e w'=>e=.returned (.bool (decide (x<y)))∧w'=w:=by
 go_enter func206,ntmps206;go_wp2_with fail;refine (jI3 x w).mono ?_;rintro e w1 ⟨rfl,rfl⟩;go_wp2;go_ret;exact⟨rfl,rfl⟩
theorem jG5(x:Int)(h0:0≤x)(h1:x<12)(w:World):Calls prog 210 #[.int .u64 x] w fun e w'=>(∃ n,e=.returned (.int .i64 n))∧w'=w:=by
 have hc:x=0∨x=1∨x=2∨x=3∨x=4∨x=5∨x=6∨x=7∨x=8∨x=9∨x=10∨x=11:=by omega
 rcases hc with rfl|rfl|rfl|rfl|rfl|rfl|rfl|rfl|rfl|rfl|rfl|rfl <;>
 ·clear h0 h1;go_enter func210,ntmps210;go_wp2;go_ret;exact⟨⟨_,rfl⟩,rfl⟩
theorem xA7(x:Int)(h0:0≤x)(h1:x<12)(w:World):Calls prog 181 #[.int .u64 x] w fun e w'=>(∃ n,e=.returned (.int .i64 n))∧w'=w:=by
 go_enter func181,ntmps181;go_wp2_with fail;refine (jG5 x h0 h1 w).mono ?_;rintro e w1 ⟨⟨n,rfl⟩,rfl⟩;go_wp2;go_ret;exact⟨⟨_,rfl⟩,rfl⟩
def RowU(w:World)(g:Nat)(ks:List Int)(c:Nat):Prop:=∃ cur,w.heap[g]?=some (.cells cur 75)∧cur.size=c∧∀ i (h:i<ks.length),cur[i]?=some (.int .u64 ks[i])
def qQ9(w:World)(g:Nat)(ks:List Int)(c:Nat)(W:World):Prop:=∃ ks',ks'.Perm ks∧RowU W g ks' c∧Kp [g] w W
theorem jA7(g cp:Nat)(ks:List Int)(w:World)(hr:RowU w g ks cp)(hn:ks.length≤cp)(h12:ks.length≤12):
  Calls prog 200 #[.slice (some ⟨g,0,none⟩) ks.length cp,.int .i64 0,.int .i64 ks.length] w fun e w'=>e=.returned (.tuple #[])∧qQ9 w g ks cp w':=by
 obtain⟨ln,hln⟩:∃ ln,ln=ks.length:=⟨_,rfl⟩;rw[←hln];have HLN:=zh hln;have HR:=zh hr;rw[←hln] at hn h12;clear hln hr;go_enter func200,ntmps200;go_wp2_with fail
 go_loopw [6] (fun i wr=>∃ (j:Nat),1≤j∧j≤13∧i=.int .i64 j∧Hid (qQ9 w g ks cp wr)) (fun i _=>(14-intOf i).toNat)
 case atStart=>exact⟨1,by omega,by omega,rfl,ks,List.Perm.refl _,HR.out,Kp.refl _ _⟩
 case round=>
  obtain⟨j,hj1,hj13,rfl,HSU⟩:=hrel;by_cases hlt:j<ln
  ·have hjb:(j:Int)<(ln:Int):=by omega
   go_wp2_with fail
   go_loopw [7] (fun i wr=>∃ (m:Nat),m≤j∧i=.int .i64 m∧Hid (qQ9 w g ks cp wr)) (fun i _=>(intOf i).toNat)
   case atStart=>exact⟨j,Nat.le_refl _,rfl,HSU⟩
   case round=>
    obtain⟨m,hmj,rfl,HSV⟩:=hrel;by_cases hm:0<m
    ·have hd:decide ((0:Int)<(m:Int))=true:=by simp;omega
     obtain⟨ks',hp,⟨cur,hc,hsz,hcur⟩,hK⟩:=HSV.out;have hlk:=hp.length_eq;have hln:=HLN.out;have x1:=ξ hc m;rw[hcur m (by omega)] at x1;have x2:=ξ hc (m-1);rw[hcur (m-1) (by omega)] at x2;have hwr:wrap64 ((m:Int)-1)=((m-1:Nat):Int):=by simp only[wrap64];omega
     have HIN:Hid (w.heap.size≤w.heap.size∧wr.heap[g]?=some (.cells cur 75)):=⟨Nat.le_refl _,hc⟩;have f1:=ψ hc m;have f2:=ψ hc (m-1);have hgs:=ζ hc;obtain⟨A,hA⟩:∃ A,A=ks'[m]'(by omega):=⟨_,rfl⟩;obtain⟨B,hB⟩:∃ B,B=ks'[m-1]'(by omega):=⟨_,rfl⟩;rw[←hA] at x1;rw[←hB] at x2;have HAB:Hid (A=ks'[m]'(by omega)∧B=ks'[m-1]'(by omega)):=⟨hA,hB⟩;have HCU:=zh hcur;have HK:=zh hK;have HPP:=zh hp;clear hc hcur hK hA hB;go_wp2_with fail
     go_quiet (first | (go_at_call 206;refine Calls.quiet_of_same (jG6 _ _ _)))
     by_cases hAB:A<B
     ·go_wp2_with fail
      go_region
      all_goals go_wp2_with fail
      refine⟨⟨m-1,by omega,by congr 1;omega,?_⟩,by simp[intOf];omega⟩;refine⟨(ks'.set m B).set (m-1) A,?_,⟨(cur.setIfInBounds m (.int .u64 B)).setIfInBounds (m-1) (.int .u64 A),φ (φ (w:=wr.drewN (nq+1)) HIN.out.2 m (.int .u64 B)) (m-1) (.int .u64 A),by simp[hsz],?_⟩,?_⟩
      ·rw[HAB.out.1,HAB.out.2];exact (List.set_set_perm (by omega) (by omega)).trans HPP.out
      ·intro i hi;simp only[List.length_set] at hi;have h1:=HCU.out i hi;rw[Array.getElem?_setIfInBounds,Array.getElem?_setIfInBounds,List.getElem_set,List.getElem_set];by_cases e1:m-1=i
       ·subst e1;simp[hsz];omega
       ·by_cases e2:m=i
        ·subst e2;simp[hsz,e1];omega
        ·simp[e1,e2,h1]
      ·exact (((HK.out.drewN _).sc _).sc _)
     ·go_wp2_with fail;refine⟨⟨j+1,by omega,by omega,by go_num,?_⟩,by simp[intOf];omega⟩;exact⟨ks',HPP.out,⟨cur,HIN.out.2,hsz,HCU.out⟩,HK.out.drewN _⟩
    ·obtain rfl:m=0:=by omega
     have hd:decide ((0:Int)<((0:Nat):Int))=false:=by simp
     go_wp2_with fail
     go_quiet (fail)
     go_wp2_with fail;obtain⟨ks',hp,⟨cur,hc,hsz,hcur⟩,hK⟩:=HSV.out;refine⟨⟨j+1,by omega,by omega,by go_num,?_⟩,by simp[intOf];omega⟩;exact⟨ks',hp,⟨cur,hc,hsz,hcur⟩,hK.drewN _⟩
  ·have hjb:¬(j:Int)<(ln:Int):=by omega
   go_wp2
   go_end0
   exact⟨rfl,HSU.out⟩
theorem jP3(g cp:Nat)(ks:List Int)(lim:Int)(w:World)(hr:RowU w g ks cp)(hn:ks.length≤cp)(h12:ks.length≤12):
  Calls prog 180 #[.slice (some ⟨g,0,none⟩) ks.length cp,.int .i64 0,.int .i64 ks.length,.int .i64 lim] w fun e w'=>e=.returned (.tuple #[])∧qQ9 w g ks cp w':=by
 obtain⟨ln,hln⟩:∃ ln,ln=ks.length:=⟨_,rfl⟩;have HC:Hid (Calls prog 200 #[.slice (some ⟨g,0,none⟩) ln cp,.int .i64 0,.int .i64 ln] w fun e w'=>e=.returned (.tuple #[])∧qQ9 w g ks cp w'):=by rw[hln];exact jA7 g cp ks w hr hn h12
 rw[←hln];rw[←hln] at hn h12;clear hln hr;have hwr:wrap64 ((ln:Int)-0)=(ln:Int):=by simp only[wrap64];omega
 have hle:(ln:Int)≤12:=by omega
 go_enter func180,ntmps180;go_wp2_with fail
 go_loopw [1,2] (fun a b wr=>a=.int .i64 0∧b=.int .i64 ln∧wr=w) (fun _ _ _=>0)
 case atStart=>exact⟨rfl,rfl,rfl⟩
 case round=>
  obtain⟨rfl,rfl,rfl⟩:=hrel;go_wp2_with fail;refine (show Calls _ _ _ _ _ from HC.out).mono ?_;rintro e w1 ⟨rfl,hS⟩;have HS:=zh hS;clear hS;go_wp2;refine bodyPost_ret (results_none results180 _ _ _) rfl ?_;exact⟨rfl,HS.out⟩
theorem jT8(g cp:Nat)(ks:List Int)(w:World)(hr:RowU w g ks cp)(hn:ks.length≤cp)(h12:ks.length<12):
  Calls prog 147 #[.slice (some ⟨g,0,none⟩) ks.length cp] w fun e w'=>e=.returned (.tuple #[])∧qQ9 w g ks cp w':=by
 obtain⟨ln,hln⟩:∃ ln,ln=ks.length:=⟨_,rfl⟩;have HC:Hid (∀ lim:Int,Calls prog 180 #[.slice (some ⟨g,0,none⟩) ln cp,.int .i64 0,.int .i64 ln,.int .i64 lim] w fun e w'=>e=.returned (.tuple #[])∧qQ9 w g ks cp w'):=fun lim=>by rw[hln];exact jP3 g cp ks lim w hr hn (by omega)
 rw[←hln];rw[←hln] at hn h12;clear hln hr;have hcv:IntKind.u64.wrap (ln:Int)=(ln:Int):=by rw[IntKind.wrap_u64];omega
 go_enter func147,ntmps147;go_wp2_with fail;refine (xA7 (ln:Int) (by omega) (by omega) w).mono ?_;rintro e w1 ⟨⟨n,rfl⟩,rfl⟩;go_wp2_with fail;refine (show Calls _ _ _ _ _ from HC.out n).mono ?_;rintro e w2 ⟨rfl,hS⟩;have HS:=zh hS;clear hS;go_wp2
 go_end0
 exact⟨rfl,HS.out⟩
theorem jT7(w:World):Calls prog 147 #[.slice none 0 0] w fun e w'=>e=.returned (.tuple #[])∧w'=w:=by
 have hI:Hid (Calls prog 200 #[.slice none 0 0,.int .i64 0,.int .i64 0] w fun e w'=>e=.returned (.tuple #[])∧w'=w):=by
  show Calls _ _ _ _ _;go_enter func200,ntmps200;go_wp2_with fail
  go_loopw [6] (fun i wr=>i=.int .i64 1∧wr=w) (fun i _=>0)
  case atStart=>exact⟨rfl,rfl⟩
  case round=>
   obtain⟨rfl,rfl⟩:=hrel;go_wp2
   go_end0
   exact⟨rfl,rfl⟩
 have hP:Hid (∀ lim:Int,Calls prog 180 #[.slice none 0 0,.int .i64 0,.int .i64 0,.int .i64 lim] w fun e w'=>e=.returned (.tuple #[])∧w'=w):=by
  intro lim;go_enter func180,ntmps180;go_wp2_with fail
  go_loopw [1,2] (fun a b wr=>a=.int .i64 0∧b=.int .i64 0∧wr=w) (fun _ _ _=>0)
  case atStart=>exact⟨rfl,rfl,rfl⟩
  case round=>
   obtain⟨rfl,rfl,rfl⟩:=hrel;go_wp2_with fail;refine (show Calls _ _ _ _ _ from hI.out).mono ?_;rintro e w1 ⟨rfl,rfl⟩;go_wp2;refine bodyPost_ret (results_none results180 _ _ _) rfl ?_;exact⟨rfl,rfl⟩
 clear hI;go_enter func147,ntmps147;go_wp2_with fail;refine (xA7 0 (by omega) (by omega) w).mono ?_;rintro e w1 ⟨⟨n,rfl⟩,rfl⟩;go_wp2_with fail;refine (show Calls _ _ _ _ _ from hP.out n).mono ?_;rintro e w2 ⟨rfl,rfl⟩;go_wp2
 go_end0
 exact⟨rfl,rfl⟩
end Go.Proofs.YtdohpenfkdckiabGreatDoor
namespace Go.Proofs.YtdohpenfkdckiabGreatDoor
open Go.Proofs.Tryz
open Go.RowKit
open Go.Maps (Keyed)
theorem zH7:(prog.info? 83).map (fun i=>(i.zero,i.size,i.bytes))=some (some (.agg #[.pointer none,.string ⟨#[]⟩,.int .i64 0,.int .u64 0,.pointer none]),5,48):=by kernel_rfl
theorem jW6{V:Nat}{v:Value}{y:DataW Unit × List MemPlace}(h:qT4 V v=some y):∃ hl:HL,hl.p=none∧v=τ V hl∧y.1=qE4 hl:=by
 unfold qT4 at h;split at h
 ·rename_i c;split at h
  ·rename_i a k x z hc;split at h
   ·rename_i he;cases h;refine⟨⟨k,x,z,none⟩,rfl,?_,rfl⟩;have hc':c=#[.pointer (some a),.string k,.int .i64 x,.int .u64 z,.pointer none]:=by rw[←Array.toArray_toList (xs:=c),hc]
    have ha:a=⟨V,0,none⟩:=by cases a;simp at he ⊢;exact he
    rw[hc',ha];rfl
   ·cases h
  ·cases h
 ·cases h
theorem RM.look{w:World}{V M n:Nat}{D:DataW Unit}(h:RM w V M n D){x:Int}(hh:Maps.has D (ι x)=true)(hk:keyOf prog 75 (.int .u64 x)=some (ι x)):
  ∃ hl:HL,hl.p=none∧(Instr.lookup 124 (.map (some M)) (.int .u64 x) false).run prog w=.ok (τ V hl) w∧∀ zd,D.atKey (ι x) zd=qE4 hl:=by
 obtain⟨es,clock,hb,F,hs,rfl⟩:=h;rcases Maps.fit_look false qO0 qX1 (z:=.agg #[.pointer none,.string ⟨#[]⟩,.int .i64 0,.int .u64 0,.pointer none]) (w:=w) (by kernel_rfl) hb F hk with⟨_,hno,_⟩|⟨e0,y,_,_,hrun,hRv,hat,_⟩
 ·obtain⟨p,hp,hpk⟩:=List.any_eq_true.1 hh;obtain⟨e0,he,rfl⟩:=List.mem_map.1 (Go.mem_sorted.1 hp);obtain⟨y,hy⟩:=F.reads e0 he;have m1:=WideElems.rd_key hy;have e1:=WideAt.sameKey_eq hpk;rw[WideElems.rg_of hy] at e1;rw[e1] at m1;exact absurd (qO0.inj m1 hk) (hno e0 he)
 ·obtain⟨hl,h1,h2,h3⟩:=jW6 hRv;exact⟨hl,h1,by rw[hrun,h2];rfl,fun zd=>by rw[hat zd,h3]⟩
theorem RowU.of{w:World}{base g cap:Nat}{cur:Array Value}{ks:List Int}(h3:w.heap[g]?=some (.cells cur 75))(hs:cur.size=cap*1)(ht:cur.toList.take (ks.length*1)=qL2 ks):RowU w g ks cap:=by
 refine⟨cur,h3,by omega,fun i hi=>?_⟩;have h1:(qL2 ks)[i]?=some (.int .u64 ks[i]):=by simp[qL2,hi]
 rw[←ht,List.getElem?_take_of_lt (by omega),Array.getElem?_toList] at h1;exact h1
def xI6(B:Nat)(D:DataW Unit)(v:Value)(ks:List Int)(w:World):Prop:=KeysU D ks∧((v=.slice none 0 0∧ks=[])∨∃ g cap,v=.slice (some ⟨g,0,none⟩) ks.length cap∧B≤g∧ks.length≤cap∧RowU w g ks cap)
theorem KeysU.perm{D:DataW Unit}{ks ks':List Int}(h:KeysU D ks)(hp:ks'.Perm ks):KeysU D ks':=
 ⟨fun x hx=>h.1 x (hp.mem_iff.1 hx),fun kl hk=>by obtain⟨x,hx,e⟩:=h.2.1 kl hk;exact⟨x,hp.mem_iff.2 hx,e⟩,by rw[hp.length_eq];exact h.2.2⟩
theorem jT9(Mx M V nn:Nat)(D:DataW Unit)(h4:Maps.size D≤4)(w:World)(hm:w.heap[Mx]?=some (.cells #[.map (some M)] 124))(hown:RM w V M nn D):
  Calls prog 104 #[.func (.func 148) #[] #[.pointer (some ⟨Mx,0,none⟩)]] w fun e w'=>∃ v ks,e=.returned v∧xI6 w.heap.size D v ks w'∧Kp [] w w':=by
 have HC:Hid (Calls prog 146 #[.func (.func 148) #[] #[.pointer (some ⟨Mx,0,none⟩)]] w fun e w'=>∃ v ks,e=.returned v∧KeysU D ks∧w'.ownsRow w.heap.size 75 1 v ks.length (qL2 ks)∧Kp [] w w'):=xQ1 Mx M V nn D h4 w hm hown;clear hm hown;go_enter func104,ntmps104;go_wp2_with fail;refine (show Calls _ _ _ _ _ from HC.out).mono ?_;rintro e w1 ⟨v,ks,rfl,h1,h2,h3⟩;have HK:Hid (KeysU D ks∧Kp [] w w1):=⟨h1,h3⟩;rcases h2.2 with⟨rfl,h0⟩|⟨g,cap,cur,rfl,hbase,hgb,hr1,hr2,hr3,hr4⟩
 ·have hks:ks=[]:=List.eq_nil_of_length_eq_zero h0;clear h1 h2 h3 h0;go_wp2_with fail;refine (jT7 w1).mono ?_;rintro e w2 ⟨rfl,rfl⟩;go_wp2;go_ret;exact⟨_,ks,rfl,⟨HK.out.1,.inl ⟨rfl,hks⟩⟩,HK.out.2⟩
 ·have HS:Hid (Calls prog 147 #[.slice (some ⟨g,0,none⟩) ks.length cap] w1 fun e w'=>e=.returned (.tuple #[])∧qQ9 w1 g ks cap w'):=jT8 g cap ks w1 (RowU.of (base:=0) hgb hr3 hr4) hr1 (by have:=h1.2.2;omega);obtain⟨ln,hln⟩:∃ ln,ln=ks.length:=⟨_,rfl⟩;rw[←hln] at HS ⊢;have HLN:Hid (ln=ks.length∧ks.length≤cap):=⟨hln,hr1⟩;clear h1 h2 h3 hgb hr1 hr2 hr3 hr4 hln HC;go_wp2_with fail;refine (show Calls _ _ _ _ _ from HS.out).mono ?_;rintro e w2 ⟨rfl,ks',hp,hR,hK2⟩;have HE:Hid (ks'.Perm ks∧RowU w2 g ks' cap∧Kp [g] w1 w2):=⟨hp,hR,hK2⟩;clear hp hR hK2;go_wp2;go_ret;obtain⟨hp,hR,hK2⟩:=HE.out;exact⟨.slice (some ⟨g,0,none⟩) ln cap,ks',rfl,⟨HK.out.1.perm hp,.inr ⟨g,cap,by rw[hp.length_eq,←HLN.out.1],hbase,by rw[hp.length_eq];exact HLN.out.2,hR⟩⟩,HK.out.2.trans hK2 (by simp;omega)⟩
structure ReadH(D:DataW Unit)(hs:List HL):Prop where
 len:hs.length≤Maps.size D
 are:∀ h∈hs,h.p=none∧∃ x,Maps.has D (ι x)=true∧∀ zd,D.atKey (ι x) zd=qE4 h
 all:∀ kl,Maps.has D kl=true→∃ h∈hs,h.p=none∧∀ zd,D.atKey kl zd=qE4 h
theorem zM6(V:Nat)(hs:List HL)(h:HL):qL1 V (hs++[h])=qL1 V hs++tcs V h:=by simp[qL1]
theorem jU3(St nn:Nat)(lk:Int)(s:Sto)(D:DataW Unit)(w:World)(hSt:w.heap[St]?=some (ν lk s))(hM:RM w s.V s.M nn D)(h4:Maps.size D≤4):
  Calls prog 67 #[.pointer (some ⟨St,0,none⟩)] w fun e w'=>∃ v hs,e=.returned v∧w'.ownsRow w.heap.size 83 5 v hs.length (qL1 s.V hs)∧ReadH D hs∧Kp [] w w':=by
 obtain⟨i0,hi0,hz0,hz1,hz2⟩:=info_parts zH7;have hSs:=ζ hSt;have s10:=ξ hSt 10;simp only[ν,zG,zH,zI] at s10;have HS:=zh hSt;have HM:=zh hM;clear hSt hM;go_enter func67,ntmps67;go_wp2_with fail;refine (jE3 s.M w).mono ?_;rintro e w1 ⟨rfl,hw1⟩;have hB1:w1.heap[w.heap.size]?=some (.cells #[.map (some s.M)] 124):=by rw[hw1];exact μ _ _
 have hK1:Kp [] w w1:=by rw[hw1];exact (Kp.refl _ _).alloc _
 clear hw1;go_wp2_with fail;refine (jT9 w.heap.size s.M s.V nn D h4 w1 hB1 (HM.out.kp hK1 (by simp))).mono ?_;rintro e w2 ⟨v,ks,rfl,⟨hku,hv⟩,hK2⟩;have HK2:Hid (Kp [] w w2):=hK1.tr hK2;have hs2:=HK2.out.size;have HKU:=zh hku;obtain⟨bs,cp,hvf⟩:∃ bs cp,v=.slice bs ks.length cp:=by
  rcases hv with⟨h1,h2⟩|⟨g,cap,h1,_⟩
  ·exact⟨none,0,by rw[h1,h2];rfl⟩
  ·exact⟨_,cap,h1⟩
 subst hvf;obtain⟨ln,hln⟩:∃ ln,ln=ks.length:=⟨_,rfl⟩;have HV:Hid (ln=ks.length∧((Value.slice bs ln cp=.slice none 0 0∧ks=[])∨∃ g cap,Value.slice bs ln cp=.slice (some ⟨g,0,none⟩) ln cap∧w1.heap.size≤g∧ks.length≤cap∧RowU w2 g ks cap)):=⟨hln,by rw[hln];exact hv⟩;rw[←hln];have hl4:ln≤4:=by have:=hku.2.2;omega
 clear hln hv hku hB1 hK1 hK2;go_wp2_with fail
 go_loopw [3,13] (fun lv i wr=>∃ (j:Nat) (hs:List HL),j≤ln∧i=.int .i64 j∧hs.length=j∧Hid (wr.ownsRow w2.heap.size 83 5 lv j (qL1 s.V hs))∧Hid (∀ q (h1:q<hs.length) (h2:q<ks.length),hs[q].p=none∧∀ zd,D.atKey (ι ks[q]) zd=qE4 hs[q])∧Hid (Kp [] w2 wr)) (fun _ i _=>ln-(intOf i).toNat)
 case atStart=>exact⟨0,[],Nat.zero_le _,rfl,rfl,World.ownsRow_nil _ _ _ _,fun q h1=>by simp at h1,Kp.refl _ _⟩
 case round=>
  obtain⟨j,hs,hjl,rfl,hhs,HO,HA,HK⟩:=hrel;by_cases hlt:j<ln
  ·have hjb:(j:Int)<(ln:Int):=by omega
   have hjk:j<ks.length:=by have:=HV.out.1;omega
   obtain⟨g,cap,hve,hgb,hcap,⟨cur,hc,hsz,hcur⟩⟩:∃ g cap,Value.slice bs ln cp=.slice (some ⟨g,0,none⟩) ln cap∧w1.heap.size≤g∧ks.length≤cap∧RowU w2 g ks cap:=by
    rcases HV.out.2 with⟨_,h2⟩|h
    ·rw[h2] at hjk;simp at hjk
    ·exact h
   cases hve;have x1:=ξ (HK.out.hp hc) j;rw[hcur j hjk] at x1;have hgs:=ζ (HK.out.hp hc);have hKw:Kp [] w wr:=HK2.out.tr HK.out;have hSr:=hKw.hp HS.out;have hSrs:=ζ hSr;have y10:=ξ hSr 10;simp only[ν,zG,zH,zI] at y10;obtain⟨hl,hp,hrun,hat⟩:=(HM.out.kp hKw (by simp)).look (HKU.out.1 _ (List.getElem_mem hjk)).1 (HKU.out.1 _ (List.getElem_mem hjk)).2;have hptr:hl.ptr=none:=by simp[HL.ptr,hp]
   rw[τ,hptr] at hrun;have HAT:Hid (hl.p=none∧∀ zd,D.atKey (ι ks[j]) zd=qE4 hl):=⟨hp,hat⟩;have HKW:=zh hKw;obtain⟨kj,hkj⟩:∃ kj,kj=ks[j]:=⟨_,rfl⟩;rw[←hkj] at x1 hrun;clear hc hcur hSr hat hp hKw hkj;clear hSs s10
   go_wp2_with (at_builtin;refine wpList_append_own _ rfl _ _ 112 rfl w2.heap.size 83 i0 (.agg #[.pointer none,.string ⟨#[]⟩,.int .i64 0,.int .u64 0,.pointer none]) 5 48 underlying112 hi0 hz0 hz1 hz2 rfl (by decide) _ _ _ rfl (HO.out.alloc _) ⟨wr.heap.size,0,none⟩ 1 1 [.pointer (some ⟨s.V,0,none⟩),.string hl.key,.int .i64 hl.b,.int .u64 hl.s,.pointer none] rfl rfl ?_ (by simp[Value.oneCell']) (by unfold maxLen;omega) (by omega) (by have:=HK.out.size;simp;omega) ?_)
   ·intro q u hu;rw[qM5,ξ (μ _ _)];simpa using hu
   ·intro v1 w3 hown1 hgr1 _;have HO1:Hid (w3.ownsRow w2.heap.size 83 5 v1 (j+1) (qL1 s.V (hs++[hl]))):=by
     show World.ownsRow _ _ _ _ _ _ _;rw[zM6,tcs,hptr];exact hown1
    have HK1:Hid (Kp [] w2 w3):=(HK.out.alloc _).grown hgr1 (fun q hq=>Or.inr (by have:=qH7 HO.out q hq;omega));clear hown1 hgr1;go_wp2;refine⟨⟨j+1,hs++[hl],by omega,by go_num,by simp[hhs],HO1,fun q h1 h2=>?_,HK1⟩,by simp[intOf];omega⟩;by_cases hq:q<hs.length
    ·rw[List.getElem_append_left hq];exact HA.out q hq h2
    ·have e:q=j:=by simp at h1;omega
     subst e;rw[List.getElem_append_right (by omega)];simpa [hhs] using HAT.out
  ·have hjb:¬(j:Int)<(ln:Int):=by omega
   have hjn:j=ks.length:=by have:=HV.out.1;omega
   subst hjn;go_wp2;go_ret;refine⟨_,rfl,hs,by rw[hhs];exact qH4 HO.out hs2,⟨by rw[hhs];exact HKU.out.2.2,fun h hm=>?_,fun kl hk=>?_⟩,HK2.out.tr HK.out⟩
   ·obtain⟨q,hq,rfl⟩:=List.getElem_of_mem hm;have h1:=HA.out q hq (by omega);exact⟨h1.1,ks[q]'(by omega),(HKU.out.1 _ (List.getElem_mem (by omega))).1,h1.2⟩
   ·obtain⟨x,hx,rfl⟩:=HKU.out.2.1 kl hk;obtain⟨q,hq,rfl⟩:=List.getElem_of_mem hx;have h1:=HA.out q (by omega) hq;exact⟨hs[q]'(by omega),List.getElem_mem (by omega),h1.1,h1.2⟩
end Go.Proofs.YtdohpenfkdckiabGreatDoor
namespace Go.Proofs.YtdohpenfkdckiabGreatDoor
open Go.Proofs.Tryz
open Go.RowKit
def Sto.cmt(s:Sto)(qb qs bl:Int):Sto:={ s with N:=s.N+1+1,rb:=qb,rs:=qs,bl:=bl }
def qB5:Root→List Nat→HL × List (Nat × List UInt8)
 | .none,_=>(⟨⟨#[]⟩,0,0,none⟩,[])
 | .at n L,fr=>(lhl (ω n L fr).1,(ω n L fr).2.1)
def qM9(s:Sto):HL:=⟨⟨#[]⟩,s.rb,s.rs,none⟩
def OkR:Root→Prop
 | .none=>True
 | .at n L=>OkL n L
theorem zZ8{N:Nat}{rt:Root}{fr:List Nat}(ho:OkR rt)(hn:rt.news≤fr.length)(hf:∀ b∈fr,b<N):∀ x∈(qB5 rt fr).2,x.1<N∧x.2.length=128:=by
 cases rt with
 | none=>intro x hx;simp[qB5] at hx
 | «at» n L=>
  intro x hx;refine⟨hf x.1 ?_,zJ1 n L fr ho x hx⟩;have h1:x.1∈((ω n L fr).2.1).map Prod.fst:=List.mem_map_of_mem hx;rw[qW9 n L fr hn] at h1;exact List.mem_of_mem_take h1
theorem xB5{α:Type}(f:α→Nat)(c:Nat):∀ (l:List α),(∀ x∈l,c≤f x)→c*l.length≤meas f l
 | [],_=>by simp[meas]
 | x::l,h=>by
  have h1:=h x (by simp);have h2:=xB5 f c l fun y hy=>h y (by simp[hy]);rw[qF1,List.length_cons,Nat.mul_succ];omega
theorem xU4{α β:Type}(f:α→List β)(l:List α):(l.flatMap f).length=meas (fun x=>(f x).length) l:=by simp[meas,List.length_flatMap]
theorem zW6:∀ (n:Nat) (lo:ByteArray) (t:Tn n),Good n lo t→cnt n t*3 ^ n≤(cont n t).length
 | 0,lo,t,h=>by simp[cnt,cont]
 | n+1,lo,t,h=>by
  have h1:∀ x∈η t,3 ^ (n+1)≤(cont n x.sub).length:=fun x hx=>by
   have h2:=zW6 n x.key x.sub (h.all x hx).1;have h3:=(h.all x hx).2.1;have h4:3*3 ^ n≤cnt n x.sub*3 ^ n:=Nat.mul_le_mul_right _ h3;rw[Nat.pow_succ];omega
  have h5:=xB5 (fun x:Lnk (Tn n)=>(cont n x.sub).length) (3 ^ (n+1)) (η t) h1;have h6:(cont (n+1) t).length=meas (fun x:Lnk (Tn n)=>(cont n x.sub).length) (η t):=xU4 (fun x:Lnk (Tn n)=>cont n x.sub) (η t);have h7:cnt (n+1) t=(η t).length:=rfl;rw[h6,h7,Nat.mul_comm];exact h5
theorem xE8{n:Nat}{l:Lnk (Tn n)}(h:RGood (.at n l))(hc:(cont n l.sub).length≤1400):n<6:=by
 obtain⟨_,h2,h3⟩:=h;have h1:=zW6 n _ _ h2;rcases Nat.lt_or_ge n 6 with hn|hn
 ·exact hn
 ·have h4:2≤cnt n l.sub:=by
    have:min n 1=1:=by omega
    omega
  have h5:3 ^ 6≤3 ^ n:=Nat.pow_le_pow_right (by omega) hn;have h6:2*3 ^ n≤cnt n l.sub*3 ^ n:=Nat.mul_le_mul_right _ h4;simp at h5;omega
theorem zW7:∀ (n:Nat) (L:Lnk (Tn n)),Good n L.key L.sub→L.key.size≤8→n<256→OkL n L
 | 0,L,h,hk,hn=>⟨hk,fun _=>by
   have h1:meas ρ (prs L.sub)≤126:=h.fits;have h2:=qG9 ρ (prs L.sub) fun x _=>by unfold ρ;omega
   exact⟨fun p hp=>(h.all p hp).1,by omega,by omega⟩⟩
 | n+1,L,h,hk,hn=>⟨hk,fun _=>by
   have h1:meas qA4 (η L.sub)≤126:=h.fits;have h2:=qG9 qA4 (η L.sub) fun x _=>by unfold qA4;omega
   exact⟨hn,fun m hm=>zW7 n m (h.all m hm).1 (h.all m hm).2.2 (by omega),by omega,by omega⟩⟩
theorem zC6{r:Root}(h:RGood r)(hc:r.cont.length≤1400):OkR r:=by
 cases r with
 | none=>trivial
 | «at» n L=>
  have hn:=xE8 h hc;exact zW7 n L h.2.1 (by rw[h.1];decide) (by omega)
theorem xE5{N:Nat}{l:List UInt8}{w:World}:∀ (n:Nat) (h:HL) (L:Lnk (Tn n)),RL (Laid N l) n w h L→qK5 N l n L
 | 0,h,L,hr=>fun x hx=>by
  have h2:=hr.2;rw[hx] at h2;exact h2.2.2.2
 | n+1,h,L,hr=>by
  refine⟨fun x hx=>?_,fun hn m hm=>?_⟩
  ·have h2:=hr.2;rw[hx] at h2;exact h2.2.2.2
  ·have h2:=hr.2;rw[hn] at h2;obtain⟨_,_,q,_,vl,_,hs,_,hb⟩:=h2;obtain⟨i,hi,rfl⟩:=List.getElem_of_mem hm;exact xE5 n (hs[i]'(by rw[hb.1];exact hi)) _ (hb.2 i (by rw[hb.1];exact hi) hi)
theorem zI9{X:Type}(f:Lnk X→List Nat→Lnk X × List (Nat × List UInt8) × List Nat)(R:Lnk X→Lnk X→Prop):∀ (ls:List (Lnk X)) (fr:List Nat),(∀ l∈ls,∀ fr,R l (f l fr).1)→Both R ls (qB1 f ls fr).1
 | [],fr,_=>⟨rfl,fun i h=>by simp at h⟩
 | l::ls,fr,h=>by
  obtain⟨h1,h2⟩:=zI9 f R ls (f l fr).2.2 fun x hx=>h x (by simp[hx]);refine⟨by simp[qB1,h1],fun i hi hi'=>?_⟩
  cases i with
  | zero=>exact h l (by simp) fr
  | succ i=>exact h2 i (by simpa using hi) (by simpa [qB1] using hi')
theorem zJ2:∀ (n:Nat) (L:Lnk (Tn n)) (fr:List Nat),(ω n L fr).1.key=L.key
 | 0,L,fr=>by unfold ω;split<;>rfl
 | n+1,L,fr=>by unfold ω;split<;>rfl
theorem xA0:∀ (n:Nat) (L:Lnk (Tn n)) (fr:List Nat),cnt n (ω n L fr).1.sub=cnt n L.sub
 | 0,L,fr=>by unfold ω;split<;>rfl
 | n+1,L,fr=>by
  unfold ω;split
  ·rfl
  ·exact (zI9 (ω n) (fun _ _=>True) (η L.sub) fr fun _ _ _=>trivial).1.symm
theorem zS1{α:Type}(f:α→Nat):∀ (a b:List α),Both (fun x y=>f x=f y) a b→meas f b=meas f a
 | [],[],_=>rfl
 | [],_::_,h=>by have:=h.1;simp at this
 | _::_,[],h=>by have:=h.1;simp at this
 | x::a,y::b,h=>by
  have h0:=h.2 0 (by simp) (by simp);simp only[zF] at h0;have h1:=zS1 f a b ⟨by simpa using h.1,fun i hi hi'=>by have h3:=h.2 (i+1) (by simp;exact hi) (by simp;exact hi');simp only[zE] at h3;exact h3⟩;rw[qF1,qF1,h0,h1]
theorem xA1:∀ (n:Nat) (L:Lnk (Tn n)) (fr:List Nat) (lo:ByteArray),Good n lo L.sub→Good n lo (ω n L fr).1.sub
 | 0,L,fr,lo,h=>by unfold ω;split<;>exact h
 | n+1,L,fr,lo,h=>by
  unfold ω;split
  ·exact h
  ·have hB:=zI9 (ω n) (fun a b=>b.key=a.key∧cnt n b.sub=cnt n a.sub∧cont n b.sub=cont n a.sub∧(Good n a.key a.sub→Good n a.key b.sub)) (η L.sub) fr fun l hl fr=>⟨zJ2 n l fr,xA0 n l fr,zJ0 n l fr,xA1 n l fr l.key⟩;have hlen:=hB.1;refine⟨?_,?_,?_,?_⟩
   ·intro l hl;have hl':(qB1 (ω n) (η L.sub) fr).1.head?=some l:=hl
    cases hx:(qB1 (ω n) (η L.sub) fr).1 with
    | nil=>rw[hx] at hl';cases hl'
    | cons y ys=>
     rw[hx] at hl' hB hlen;cases hl'
     cases hz:η L.sub with
     | nil=>rw[hz] at hlen;simp at hlen
     | cons z zs=>
      have h0:=hB.2 0 (by rw[hz];simp) (by simp);simp only[zF] at h0;rw[h0.1];have:=h.head z (by show (η L.sub).head?=some z;rw[hz];rfl);simp only[hz,zF];exact this
   ·intro l hl;obtain⟨i,hi,rfl⟩:=List.getElem_of_mem hl;have hi2:i<(η L.sub).length:=by rw[hlen];exact hi
    obtain⟨e1,e2,e3,e4⟩:=hB.2 i hi2 hi;have:=h.all _ (List.getElem_mem hi2);refine⟨?_,?_,?_⟩
    ·rw[e1];exact e4 this.1
    ·rw[e2];exact this.2.1
    ·rw[e1];exact this.2.2
   ·rw[List.pairwise_iff_getElem];intro i j hi hj hij;have hi2:i<(η L.sub).length:=by rw[hlen];exact hi
    have hj2:j<(η L.sub).length:=by rw[hlen];exact hj
    obtain⟨e1,e2,e3,e4⟩:=hB.2 i hi2 hi;obtain⟨f1,f2,f3,f4⟩:=hB.2 j hj2 hj;have:=(List.pairwise_iff_getElem.1 h.pair) i j hi2 hj2 hij;refine⟨?_,?_⟩
    ·rw[e1,f1];exact this.1
    ·rw[e3,f1];exact this.2
   ·have e:=zS1 qA4 (η L.sub) (qB1 (ω n) (η L.sub) fr).1 ⟨hlen,fun i h1 h2=>by show 11+_=11+_;rw[(hB.2 i h1 h2).1]⟩;show meas qA4 (qB1 (ω n) (η L.sub) fr).1≤126;rw[e];exact h.fits
theorem zM4{X:Type}(f:X→List Nat→List Nat)(g:X→Nat)(hf:∀ t ks,(f t ks).length+1≤ks.length+g t):∀ (ls:List (Lnk X)) (ks:List Nat),(ls.foldl (qH0 f) ks).length≤ks.length+meas (fun m=>g m.sub) ls
 | [],ks=>by simp[meas]
 | m::ls,ks=>by
  have h1:=zM4 f g hf ls (qH0 f ks m);have h2:(qH0 f ks m).length≤ks.length+g m.sub:=by
   unfold qH0;split
   ·have:=hf m.sub ks;omega
   ·rename_i x _;split
    ·omega
    ·have:=hf m.sub (x.1::ks);simp at this;omega
  rw[List.foldl_cons,qF1];omega
theorem zR6:∀ (n:Nat) (t:Tn n) (ks:List Nat),(qF6 n t ks).length+1≤ks.length+qB9 n t
 | 0,t,ks=>by simp[qF6,qB9]
 | n+1,t,ks=>by
  have h:=zM4 (qF6 n) (qB9 n) (zR6 n) (η t) ks;have e:qB9 (n+1) t=1+meas (fun m:Lnk (Tn n)=>qB9 n m.sub) (η t):=rfl;rw[e];simp only[qF6];omega
theorem zE9(ks:List Nat)(r:Root):(qA5 ks r).length≤ks.length+qC4 r:=by
 cases r with
 | none=>simp[qA5,qC4]
 | «at» n L=>
  have h:=zM4 (qF6 n) (qB9 n) (zR6 n) [L] ks;simpa [qA5,qC4,meas] using h
theorem zO5:∀ (rs:List Root) (ks:List Nat),(rs.foldl qA5 ks).length≤ks.length+meas qC4 rs
 | [],ks=>by simp[meas]
 | r::rs,ks=>by
  have h1:=zO5 rs (qA5 ks r);have h2:=zE9 ks r;rw[List.foldl_cons,qF1];omega
theorem zG6:∀ (a ks:List Nat),a.Nodup→a.length≤(a.filter (fun k=>decide (k ∉ ks))).length+ks.length
 | [],ks,_=>by simp
 | x::a,ks,h=>by
  obtain⟨hx,ha⟩:=List.nodup_cons.1 h;by_cases hm:x∈ks
  ·have ih:=zG6 a (ks.erase x) ha;have e:a.filter (fun k=>decide (k ∉ ks.erase x))=a.filter (fun k=>decide (k ∉ ks)):=List.filter_congr fun y hy=>by
    have hne:y≠x:=fun e=>hx (e ▸ hy);simp[List.mem_erase_of_ne hne]
   have e2:(x::a).filter (fun k=>decide (k ∉ ks))=a.filter (fun k=>decide (k ∉ ks)):=by rw[List.filter_cons_of_neg (by simp[hm])]
   have e3:=List.length_erase_of_mem hm;have e4:1≤ks.length:=List.length_pos_of_mem hm;rw[e] at ih;rw[e2,List.length_cons];omega
  ·have ih:=zG6 a ks ha;rw[List.filter_cons_of_pos (by simp[hm]),List.length_cons,List.length_cons];omega
theorem xV9(N:Nat)(ks:List Nat):N-2≤(qC0 N ks).length+ks.length:=by
 have h:=zG6 (List.range' 2 (N-2)) ks List.nodup_range';simpa [qC0] using h
theorem qQ6{r:Root}(h:RGood r):2*qC4 r≤r.cont.length+1:=by
 cases r with
 | none=>simp[qC4]
 | «at» n l=>
  have h1:=qX4 n _ _ h.2.1;have h2:=h.2.2;show 2*qB9 n l.sub≤(cont n l.sub).length+1;omega
end Go.Proofs.YtdohpenfkdckiabGreatDoor
namespace Go.Proofs.YtdohpenfkdckiabGreatDoor
open Go.Proofs.Tryz
open Go.RowKit Go.MuLone
theorem xK1(St f:Nat)(s:Sto)(first cap:Array Value)(call:ByteArray)(X:List Nat)(Q:World→World→Prop)(w:World)(hSt:w.heap[St]?=some (ν 0 s))(hpo:s.po=false)
  (hcf:∀ W:World,Sem.run prog (callFunc f (first++cap)) W=.ok (.enter f (first++cap)) W) (hX:∀ i,i∈X→i<w.heap.size)
  (hw:∀ W:World,Kp [St] w W→W.heap[St]?=some (ν 1 s)→Calls prog f (first++cap) W fun e w1=>e=qC6 none∧Q W w1∧Kp (St::X) W w1∧(∃ s',w1.heap[St]?=some (ν 1 s'))):
  Calls prog 44 #[.pointer (some ⟨St,0,none⟩),.string call,.func (.func f) first cap] w fun e w'=>∃ v,e=.returned v∧v=.nilIface∧Kp (St::X) w w'∧∃ W w1 B s',Q W w1∧w1.heap[St]?=some (ν 1 s')∧w'.heap[St]?=some (ν 0 s')∧Kp [St] w W∧w.heap.size≤B∧B<W.heap.size∧w1.heap[B]?=some (.cells #[.nilIface] 35)∧Kp [St,B] w1 w':=by
 have hmf:=zM;have HW:=zh hw;have HX:=zh hX;have HPO:=zh hpo;clear hw hX hpo;have hSs:=ζ hSt
 go_enter_defers func44,ntmps44
 go_wp2_with fail;refine (lock_free qO3 ⟨St,0,none⟩ _ (ξ (θ _ (θ _ hSt)) 0) (ψ (θ _ (θ _ hSt)) 0)).mono ?_;rintro e W0 ⟨rfl,rfl⟩;obtain⟨W0,hW0,hK0,hs0,hB0,hF0,hSt0⟩:∃ W0,W0=((w.alloc (.cells #[.pointer (some ⟨St,0,none⟩)] 74)).alloc (.cells #[.func (Fn.func f) first cap] 1)).setCell ⟨St,0,none⟩ (.int .i32 1)∧Kp [St] w W0∧W0.heap.size=w.heap.size+2∧W0.heap[w.heap.size]?=some (.cells #[.pointer (some ⟨St,0,none⟩)] 74)∧W0.heap[w.heap.size+1]?=some (.cells #[.func (Fn.func f) first cap] 1)∧W0.heap[St]?=some (ν 1 s):=by
  refine⟨_,rfl,((((Kp.refl _ _).alloc _).alloc _).sc _),by simp[World.setCell],?_,?_,?_⟩
  ·exact (qA9 (by omega) _ _).trans (θ _ (μ _ _))
  ·refine (qA9 (by omega) _ _).trans ?_;have e:=μ (w.alloc (.cells #[.pointer (some ⟨St,0,none⟩)] 74)) (.cells #[.func (Fn.func f) first cap] 1);simpa using e
  ·exact φ (θ _ (θ _ hSt)) 0 _
 rw[←hW0];clear hW0;have b0:=ξ hB0 0;simp at b0;go_wp2_with fail;obtain⟨Wc,hWc,hKc,hsc,hBc,hFc,hStc,hEc,hCc⟩:∃ Wc,Wc=(W0.alloc (.cells #[.string call] 9)).alloc (.cells #[.nilIface] 35)∧Kp [St] w Wc∧Wc.heap.size=w.heap.size+4∧Wc.heap[w.heap.size]?=some (.cells #[.pointer (some ⟨St,0,none⟩)] 74)∧Wc.heap[w.heap.size+1]?=some (.cells #[.func (Fn.func f) first cap] 1)∧Wc.heap[St]?=some (ν 1 s)∧Wc.heap[W0.heap.size+1]?=some (.cells #[.nilIface] 35)∧Wc.heap[W0.heap.size]?=some (.cells #[.string call] 9):=by
  refine⟨_,rfl,(hK0.alloc _).alloc _,by simp[hs0],θ _ (θ _ hB0),θ _ (θ _ hF0),θ _ (θ _ hSt0),?_,θ _ (μ _ _)⟩;have e:=μ (W0.alloc (.cells #[.string call] 9)) (.cells #[.nilIface] 35);simpa using e
 have HA1:Hid (Calls prog 83 #[.pointer (some ⟨w.heap.size,0,none⟩),.pointer (some ⟨w.heap.size+1,0,none⟩)] Wc fun e w1=>e=qC6 none∧Q Wc w1∧Kp (St::X) Wc w1∧(∃ s',w1.heap[St]?=some (ν 1 s'))):=
  zO8 none w.heap.size (w.heap.size+1) St f s first cap Wc (fun w1=>Q Wc w1∧Kp (St::X) Wc w1∧(∃ s',w1.heap[St]?=some (ν 1 s'))) hBc hFc hStc HPO.out hcf (HW.out Wc hKc hStc)
 have HNM:Hid (∀ i,w.heap.size≤i→i ∉ St::X):=by
  show ∀ i,w.heap.size≤i→i ∉ St::X;intro i hi h;rcases List.mem_cons.1 h with h|h
  ·omega
  ·have:=HX.out _ h;omega
 clear HW;refine (qV8 83 _ _ _ (fun w1=>Q Wc w1∧Kp (St::X) Wc w1∧(∃ s',w1.heap[St]?=some (ν 1 s'))) (qV9 _) ?_).mono ?_
 ·rw[←hWc];refine (show Calls _ _ _ _ _ from HA1.out).mono ?_;rintro e w1 ⟨rfl,hQ,hk,hst⟩;exact⟨rfl,⟨hQ,hk,hst⟩,hk.heap hEc (HNM.out _ (by omega))⟩
 rintro e w2 ⟨rfl,w1,⟨hQ,hk,s',hst⟩,rfl⟩;have hs1:=hk.size;have hEw1:=hk.heap hEc (HNM.out _ (by omega));obtain⟨w2,hw2,hst2,hK2,ho2⟩:∃ w2,w2=w1.setCell ⟨W0.heap.size+1,0,none⟩ .nilIface∧w2.heap[St]?=some (ν 1 s')∧Kp (St::X) w w2∧Kp [St,W0.heap.size+1] w1 w2:=
  ⟨_,rfl,(qA9 (by omega) _ _).trans hst,(((hKc.mono (S':=St::X) (by simp)).trans hk (fun _ h _=>h)).setCell (Or.inr (by simp;omega)) _),(Kp.refl _ _).sc _⟩
 rw[←hw2];clear hw2
 go_wp2_with (go_at_call 84;refine (zH9 8 _).mono ?_;rintro e w' ⟨rfl,rfl⟩)
 refine leaves_cons (f:=82) (args:=#[.pointer (some ⟨St,0,none⟩)]) (by simp) (by simp[go_sem]) ?_;refine (unlock_deferred qO3 ⟨St,0,none⟩ .returning _ (ξ hst2 0) (ψ hst2 0)).mono ?_;rintro e u' w'' ⟨rfl,rfl,rfl⟩;exact⟨_,results_tmp rfl _ _ _,.nilIface,rfl,rfl,hK2.sc _,Wc,w1,W0.heap.size+1,s',hQ,hst,φ hst2 0 _,hKc,by omega,by omega,hEw1,ho2.sc _⟩
theorem xX5(x St f:Nat)(t:Tx)(s:Sto)(first cap:Array Value)(call:ByteArray)(X:List Nat)(Q:World→World→Prop)(w:World)(hx:w.heap[x]?=some (qA3 t))(htS:t.St=St)(hSt:w.heap[St]?=some (ν 0 s))(hpo:s.po=false)(hX:∀ i,i∈X→i<w.heap.size)
  (hw:∀ W:World,Kp [St] w W→W.heap[St]?=some (ν 1 s)→W.heap[w.heap.size]?=some (.cells #[.pointer (some ⟨x,0,none⟩)] 29)→W.heap[w.heap.size+1]?=some (.cells #[.func (.func f) first cap] 1)→Calls prog 64 #[.pointer (some ⟨w.heap.size,0,none⟩),.pointer (some ⟨w.heap.size+1,0,none⟩)] W fun e w1=>e=qC6 none∧Q W w1∧Kp (St::X) W w1∧(∃ s',w1.heap[St]?=some (ν 1 s'))):
  Calls prog 38 #[.pointer (some ⟨x,0,none⟩),.string call,.func (.func f) first cap] w fun e w'=>∃ v,e=.returned v∧v=.nilIface∧Kp (St::X) w w'∧∃ W w1 B s',Q W w1∧w1.heap[St]?=some (ν 1 s')∧w'.heap[St]?=some (ν 0 s')∧Kp [St] w W∧w.heap.size≤B∧B<W.heap.size∧w1.heap[B]?=some (.cells #[.nilIface] 35)∧Kp [St,B] w1 w':=by
 have hmf:=zM;have HW:=zh hw;have HX:=zh hX;have HPO:=zh hpo;clear hw hX hpo;have hSs:=ζ hSt;have hxs:=ζ hx;subst htS;have d0:=ξ (θ (.cells #[.func (Fn.func f) first cap] 1) (θ (.cells #[.pointer (some ⟨x,0,none⟩)] 29) hx)) 0;simp only[zG,zH] at d0;go_enter func38,ntmps38;go_wp2_with fail;obtain⟨W0,hW0,hK0,hs0,hB0,hF0⟩:∃ W0,W0=(w.alloc (.cells #[.pointer (some ⟨x,0,none⟩)] 29)).alloc (.cells #[.func (Fn.func f) first cap] 1)∧Kp [] w W0∧W0.heap.size=w.heap.size+2∧W0.heap[w.heap.size]?=some (.cells #[.pointer (some ⟨x,0,none⟩)] 29)∧W0.heap[w.heap.size+1]?=some (.cells #[.func (Fn.func f) first cap] 1):=by
  refine⟨_,rfl,((Kp.refl _ _).alloc _).alloc _,by simp,θ _ (μ _ _),?_⟩;have e:=μ (w.alloc (.cells #[.pointer (some ⟨x,0,none⟩)] 29)) (.cells #[.func (Fn.func f) first cap] 1);simpa using e
 rw[←hW0];clear hW0;have hSt0:=hK0.hp hSt;refine (xK1 t.St 64 s #[] #[.pointer (some ⟨w.heap.size,0,none⟩),.pointer (some ⟨w.heap.size+1,0,none⟩)] _ X Q W0 hSt0 HPO.out (zG0 _) (fun i hi=>by have:=HX.out i hi;omega) ?_).mono ?_
 ·intro W hK hS;exact HW.out W ((hK0.mono (S':=[t.St]) (by simp)).trans hK (fun _ h _=>h)) hS (hK.ho hB0) (hK.ho hF0)
 rintro e w2 ⟨v,rfl,rfl,hK2,W,w1,B,s',hQ,hs1,hs2,hKW,hB1,hB2,hB3,hKB⟩;have HR:Hid ((Q W w1∧Kp [t.St,B] w1 w2)∧w1.heap[t.St]?=some (ν 1 s')∧w2.heap[t.St]?=some (ν 0 s')):=⟨⟨hQ,hKB⟩,hs1,hs2⟩;clear hQ hKB hs1 hs2;go_wp2;go_ret;exact⟨.nilIface,rfl,rfl,(hK0.mono (S':=t.St::X) (by simp)).trans hK2 (fun _ h _=>h),W,w1,B,s',HR.out.1.1,HR.out.2.1,HR.out.2.2,(hK0.mono (S':=[t.St]) (by simp)).trans hKW (fun _ h _=>h),by omega,hB2,hB3,HR.out.1.2⟩
theorem xX8(x St f:Nat)(t:Tx)(s:Sto)(first cap:Array Value)(call:ByteArray)(X:List Nat)(Q:World→World→Prop)(w:World)(hx:w.heap[x]?=some (qA3 t))(ho:t.over=false)(htS:t.St=St)(hSt:w.heap[St]?=some (ν 0 s))(hpo:s.po=false)(hne:x≠St)
  (hcf:∀ W:World,Sem.run prog (callFunc f (first++cap)) W=.ok (.enter f (first++cap)) W) (hX:∀ i,i∈X→i<w.heap.size)
  (hw:∀ W:World,Kp [St] w W→W.heap[St]?=some (ν 1 s)→Calls prog f (first++cap) W fun e w1=>e=qC6 none∧Q W w1∧Kp (St::X) W w1∧(∃ s',w1.heap[St]?=some (ν 1 s'))):
  Calls prog 38 #[.pointer (some ⟨x,0,none⟩),.string call,.func (.func f) first cap] w fun e w'=>∃ v,e=.returned v∧v=.nilIface∧Kp (St::X) w w'∧∃ W w1 B s',Q W w1∧w1.heap[St]?=some (ν 1 s')∧w'.heap[St]?=some (ν 0 s')∧Kp [St] w W∧w.heap.size≤B∧B<W.heap.size∧w1.heap[B]?=some (.cells #[.nilIface] 35)∧Kp [St,B] w1 w':=
 xX5 x St f t s first cap call X Q w hx htS hSt hpo hX fun W hK hS hB hF=>
  zW3 none _ _ x f t first cap W (fun w1=>Q W w1∧Kp (St::X) W w1∧(∃ s',w1.heap[St]?=some (ν 1 s'))) hB hF (hK.heap hx (by simp;exact hne)) ho hcf (hw W hK hS)
end Go.Proofs.YtdohpenfkdckiabGreatDoor
namespace Go.Proofs.YtdohpenfkdckiabGreatDoor
open Go.Proofs.Tryz
open Go.RowKit
open Go.Maps (Keyed)
theorem zC0{w:World}{a b:Nat}{c d:Array Value}{t u:TypeId}{fr gr:Nat × Nat}(ha:w.heap[a]?=some (.cells c t fr))(hb:w.heap[b]?=some (.cells d u gr))(h:t≠u):a≠b:=fun e=>by
 subst e;rw[ha] at hb;cases hb;exact h rfl
theorem zS7(args:Array Value)(W:World):Sem.run prog (callFunc 39 args) W=.ok (.enter 39 args) W:=by
 simp[go_sem,func39]
theorem xQ3(Tc x n V:Nat)(t:Tx)(s:Sto)(D:DataW Unit)(R:World→World→Prop)(w:World)(hTc:w.heap[Tc]?=some (.cells #[.pointer (some ⟨x,0,none⟩)] 29))(hx:w.heap[x]?=some (qA3 t))(hSt:w.heap[t.St]?=some (ν 1 s))(hM:RM w s.V s.M n D)(h0:0≤t.nr)(h1:t.nr≤1000000000)(hMS:s.M≠t.St)(hxS:x≠t.St)(hxM:x≠s.M)(hTM:Tc≠s.M)(hMs:s.M<w.heap.size)(hon:t.on=some ⟨V,0,none⟩)(hwr:t.wrt=true)
  (hc:∀ W:World,Kp [t.St,x,s.M] w W→W.heap[x]?=some (qA3 t.ended)→W.heap[t.St]?=some (ν 1 (s.left t.nr))→RM W s.V s.M n (D.del (ι t.nr))→Calls prog 41 #[.pointer (some ⟨t.St,0,none⟩),τ V t.h] W fun e w'=>e=.returned (.tuple #[])∧R W w'):
  Calls prog 39 #[.pointer (some ⟨Tc,0,none⟩)] w fun e w'=>e=qC6 none∧∃ W,Kp [t.St,x,s.M] w W∧W.heap[x]?=some (qA3 t.ended)∧W.heap[t.St]?=some (ν 1 (s.left t.nr))∧RM W s.V s.M n (D.del (ι t.nr))∧R W w':=by
 have hxs:=ζ hx;have hTs:=ζ hTc;have hSs:=ζ hSt;have hTx:Tc≠x:=zC0 hTc hx (by decide);have hTS:Tc≠t.St:=zC0 hTc hSt (by decide);have tc0:=ξ hTc 0;simp only[zG,zH,zI] at tc0;have x4:=ξ hx 4;have x5:=ξ hx 5;have x6:=ξ hx 6;have x7:=ξ hx 7;have x8:=ξ hx 8;simp only[qA3,zG,zH,zI] at x4 x5 x6 x7 x8;rw[hon] at x4;have HX:=zh hx;have HT:=zh hTc;have HS:=zh hSt;have HM:=zh hM;have HN:Hid (s.M≠t.St∧x≠t.St∧x≠s.M∧Tc≠s.M∧Tc≠x∧Tc≠t.St):=⟨hMS,hxS,hxM,hTM,hTx,hTS⟩;have HC:=zh hc;clear hx hTc hSt hM hMS hxS hxM hTM hTx hTS hc;go_enter func39,ntmps39;go_wp2_with fail;obtain⟨w0,hw0,hB0,hK0,hs0⟩:∃ w0,w0=w.alloc (.cells #[.pointer (some ⟨V,0,none⟩),.string t.h.key,.int .i64 t.h.b,.int .u64 t.h.s,.pointer t.h.ptr] 83)∧w0.heap[w.heap.size]?=some (.cells #[.pointer (some ⟨V,0,none⟩),.string t.h.key,.int .i64 t.h.b,.int .u64 t.h.s,.pointer t.h.ptr] 83)∧Kp [] w w0∧w0.heap.size=w.heap.size+1:=⟨_,rfl,μ _ _,(Kp.refl _ _).alloc _,by simp⟩;rw[←hw0];clear hw0 tc0 x4 x5 x6 x7 x8;obtain⟨n1,n2,n3,n4,n5,n6⟩:=HN.out;refine (zG3 x n t s D w0 (hK0.hp HX.out) (hK0.hp HS.out) (HM.out.kp hK0 (by simp)) h0 h1 n1 n2 n3).mono ?_;rintro e w1 ⟨rfl,hx1,hS1,hM1,hK1⟩;have hKw:Kp [t.St,x,s.M] w w1:=(hK0.mono (by simp)).trans hK1 (fun _ h _=>h);have hT1:=hKw.heap HT.out (by simp;exact⟨n6,n5,n4⟩);have hB1:=hK1.ho hB0;have hT1s:=ζ hT1;have hx1s:=ζ hx1;have hB1s:=ζ hB1;have tc0:=ξ hT1 0;simp only[zG,zH,zI] at tc0;have x0:=ξ hx1 0;have x2:=ξ hx1 2;simp only[qA3,Tx.ended,zG,zH,zI] at x0 x2;rw[hwr] at x2;have HCALL:Hid (Calls prog 41 #[.pointer (some ⟨t.St,0,none⟩),τ V t.h] w1.drew fun e w'=>e=.returned (.tuple #[])∧R w1.drew w'):=HC.out w1.drew hKw.drew hx1 hS1 (hM1.kp ((Kp.refl [] w1).drew) (by simp));have HEND:Hid (Kp [t.St,x,s.M] w w1.drew∧w1.drew.heap[x]?=some (qA3 t.ended)∧w1.drew.heap[t.St]?=some (ν 1 (s.left t.nr))∧RM w1.drew s.V s.M n (D.del (ι t.nr))):=⟨hKw.drew,hx1,hS1,hM1.kp ((Kp.refl [] w1).drew) (by simp)⟩;have hSd:w1.drew.heap[Tc]?=some (.cells #[.pointer (some ⟨x,0,none⟩)] 29)∧w1.drew.heap[x]?=some (qA3 t.ended)∧w1.drew.heap[w.heap.size]?=some (.cells #[.pointer (some ⟨V,0,none⟩),.string t.h.key,.int .i64 t.h.b,.int .u64 t.h.s,.pointer t.h.ptr] 83):=⟨hT1,hx1,hB1⟩;clear HC hKw hS1 hM1 hK1 hT1 hx1 hB1;go_wp2_with fail;have b:=ξ hSd.2.2;have hb:=hSd.2.2;rw[τ] at HCALL;clear hSd
 go_region_with (go_at_call 41;go_must (refine (show Calls _ _ _ _ _ from HCALL.out).mono ?_);rintro e w2 ⟨rfl,hR2⟩)
 all_goals
  have HR2:=zh hR2;clear hR2 b hb;go_wp2
  go_end0
  exact⟨rfl,w1.drew,HEND.out.1,HEND.out.2.1,HEND.out.2.2.1,HEND.out.2.2.2,HR2.out⟩
theorem xG1(x n V:Nat)(t:Tx)(s:Sto)(D:DataW Unit)(X:List Nat)(R:World→World→Prop)(w:World)(hx:w.heap[x]?=some (qA3 t))(ho:t.over=false)(hSt:w.heap[t.St]?=some (ν 0 s))(hpo:s.po=false)(hM:RM w s.V s.M n D)(h0:0≤t.nr)(h1:t.nr≤1000000000)(hMS:s.M≠t.St)(hxS:x≠t.St)(hxM:x≠s.M)(hMs:s.M<w.heap.size)(hon:t.on=some ⟨V,0,none⟩)(hwr:t.wrt=true)(hX:∀ i∈X,i<w.heap.size)
  (hc:∀ W:World,Kp [t.St,x,s.M] w W→W.heap[x]?=some (qA3 t.ended)→W.heap[t.St]?=some (ν 1 (s.left t.nr))→RM W s.V s.M n (D.del (ι t.nr))→Calls prog 41 #[.pointer (some ⟨t.St,0,none⟩),τ V t.h] W fun e w'=>e=.returned (.tuple #[])∧(∃ s',w'.heap[t.St]?=some (ν 1 s'))∧R W w'∧Kp (t.St::X) W w'):
  Calls prog 14 #[.pointer (some ⟨x,0,none⟩)] w fun e w'=>e=.returned .nilIface∧Kp (t.St::x::s.M::X) w w'∧∃ W w1 B s',Kp [t.St,x,s.M] w W∧W.heap[x]?=some (qA3 t.ended)∧W.heap[t.St]?=some (ν 1 (s.left t.nr))∧RM W s.V s.M n (D.del (ι t.nr))∧R W w1∧Kp (t.St::X) W w1∧w1.heap[t.St]?=some (ν 1 s')∧w'.heap[t.St]?=some (ν 0 s')∧w.heap.size≤B∧w1.heap[B]?=some (.cells #[.nilIface] 35)∧Kp [t.St,B] w1 w':=by
 have hmf:=zM;have hxs:=ζ hx;have hSs:=ζ hSt;go_enter func14,ntmps14;go_wp2_with fail;obtain⟨w0,hw0,hB0,hK0,hs0⟩:∃ w0,w0=w.alloc (.cells #[.pointer (some ⟨x,0,none⟩)] 29)∧w0.heap[w.heap.size]?=some (.cells #[.pointer (some ⟨x,0,none⟩)] 29)∧Kp [] w w0∧w0.heap.size=w.heap.size+1:=⟨_,rfl,μ _ _,(Kp.refl _ _).alloc _,by simp⟩;rw[←hw0];clear hw0;refine (xX8 x t.St 39 t s #[] #[.pointer (some ⟨w.heap.size,0,none⟩)] _ (x::s.M::X) (fun W0 w1=>∃ W,Kp [t.St,x,s.M] w W∧W.heap[x]?=some (qA3 t.ended)∧W.heap[t.St]?=some (ν 1 (s.left t.nr))∧RM W s.V s.M n (D.del (ι t.nr))∧R W w1∧Kp (t.St::X) W w1) w0 (hK0.hp hx) ho rfl (hK0.hp hSt) hpo hxS (zS7 _) (by intro i hi;simp at hi;rcases hi with rfl | rfl | hi;omega;omega;have:=hX i hi;omega) ?_).mono ?_
 ·intro W hK hS;have hKw:Kp [t.St] w W:=(hK0.mono (by simp)).trans hK (fun _ h _=>h);have hTne:w.heap.size≠t.St:=by omega
  refine (xQ3 w.heap.size x n V t s D (fun W w'=>(∃ s',w'.heap[t.St]?=some (ν 1 s'))∧R W w'∧Kp (t.St::X) W w') W (hK.heap hB0 (by simp;exact hTne)) (hKw.heap hx (by simp;exact hxS)) hS (hM.kp hKw (by simp;exact hMS)) h0 h1 hMS hxS hxM (by omega) (by have:=hKw.size;omega) hon hwr ?_).mono ?_
  ·intro W' hK' e1 e2 e3;exact hc W' ((hKw.mono (by simp)).trans hK' (fun _ h _=>h)) e1 e2 e3
  ·rintro e w1 ⟨rfl,W',hK',e1,e2,e3,e4,e5,e6⟩;refine⟨rfl,⟨W',(hKw.mono (by simp)).trans hK' (fun _ h _=>h),e1,e2,e3,e5,e6⟩,?_,e4⟩;refine (hK'.mono ?_).trans e6 ?_
   ·intro i hi;simp at hi ⊢;omega
   ·intro i hi _;simp at hi ⊢;rcases hi with h | h<;>simp[h]
 rintro e w2 ⟨v,rfl,rfl,hK2,W0,w1,B,s',⟨W,e1,e2,e3,e4,e5,e6⟩,hs1,hs2,hKW,hB1,hB2,hB3,hKB⟩;have HE:Hid (Kp (t.St::x::s.M::X) w w2∧∃ W w1 B s',Kp [t.St,x,s.M] w W∧W.heap[x]?=some (qA3 t.ended)∧W.heap[t.St]?=some (ν 1 (s.left t.nr))∧RM W s.V s.M n (D.del (ι t.nr))∧R W w1∧Kp (t.St::X) W w1∧w1.heap[t.St]?=some (ν 1 s')∧w2.heap[t.St]?=some (ν 0 s')∧w.heap.size≤B∧w1.heap[B]?=some (.cells #[.nilIface] 35)∧Kp [t.St,B] w1 w2):=
  ⟨(hK0.mono (by simp)).trans hK2 (fun _ h _=>h),W,w1,B,s',e1,e2,e3,e4,e5,e6,hs1,hs2,by omega,hB3,hKB⟩
 clear hK2 e1 e2 e3 e4 e5 e6 hs1 hs2 hKW hB3 hKB;go_wp2;go_ret;exact⟨rfl,HE.out⟩
def Lie(N:Nat)(l:List UInt8)(rb rs:Int):Root→Prop
 | .none=>rb=0∧rs=0
 | .at n L=>∃ b:Nat,rb=(b:Int)∧L.ref=some (b,rs)∧Laid N l n b rs L.sub
theorem Lie.bnd{N:Nat}{l:List UInt8}{rb rs:Int}{r:Root}(h:Lie N l rb rs r)(hN:N≤1000):0≤rb∧rb≤1000∧0≤rs:=by
 cases r with
 | none=>obtain⟨rfl,rfl⟩:=h;decide
 | «at» n L=>obtain⟨b,rfl,_,h3⟩:=h;have:=h3.at;omega
theorem Lie.sum{N:Nat}{l:List UInt8}{rb rs:Int}{r:Root}(h:Lie N l rb rs r):rs<18446744073709551616:=by
 cases r with
 | none=>obtain⟨rfl,rfl⟩:=h;decide
 | «at» n L=>obtain⟨b,rfl,_,h3⟩:=h;have:=h3.at;omega
theorem Lie.rr{N:Nat}{l:List UInt8}{rb rs:Int}{r:Root}(h:Lie N l rb rs r)(hg:RGood r){V A C:Nat}{wr:Int}{hN:N≤1000}{hs:N*128≤l.length}{hAC:C≠A}{hVA:V≠A}(w:World):RR (EL V A N C l wr hN hs hAC hVA).toEnv w ⟨⟨#[]⟩,rb,rs,none⟩ r:=by
 cases r with
 | none=>obtain⟨rfl,rfl⟩:=h;rfl
 | «at» n L=>
  obtain⟨b,rfl,h2,h3⟩:=h;refine⟨hg.1.symm,?_⟩;rw[h2];exact⟨rfl,rfl,rfl,h3⟩
theorem Lie.old{N:Nat}{l:List UInt8}{rb rs:Int}{r:Root}(h:Lie N l rb rs r):qN8 N l r:=by
 cases r with
 | none=>trivial
 | «at» n L=>
  obtain⟨b,rfl,h2,h3⟩:=h
  cases n with
  | zero=>intro x hx;rw[h2] at hx;cases hx;exact h3
  | succ n=>exact⟨fun x hx=>by rw[h2] at hx;cases hx;exact h3,fun hx=>by rw[h2] at hx;cases hx⟩
theorem Lie.move{N:Nat}{l l':List UInt8}{rb rs:Int}{r:Root}(h:Lie N l rb rs r)(hk:∀ k∈qL3 r,χ l' k=χ l k):Lie N l' rb rs r:=by
 cases r with
 | none=>exact h
 | «at» n L=>
  obtain⟨b,e1,h2,h3⟩:=h;refine⟨b,e1,h2,h3.move _ _ _ _ fun k hm=>hk k ?_⟩;show k∈qH8 n L;rw[qR1 h2];exact hm
theorem qZ0{N:Nat}{l:List UInt8}:∀ (n b:Nat) (s:Int) (t:Tn n),Laid N l n b s t→∀ k∈Blk n b t,2≤k
 | 0,b,s,t,h,k,hk=>by simp[Blk] at hk;have:=h.at;omega
 | n+1,b,s,t,h,k,hk=>by
  have hb:=h.at;obtain⟨h1,h2,h3,hs,h4,h5⟩:=h;simp only[Blk,List.mem_cons,List.mem_flatMap] at hk;rcases hk with rfl|⟨m,hm,hk⟩
  ·omega
  ·obtain⟨i,hi,rfl⟩:=List.getElem_of_mem hm;have hr:=(h4.2 i (by rw[h4.1];exact hi) hi).2
   cases hx:(η t)[i].ref with
   | none=>rw[hx] at hk;cases hk
   | some x=>
    rw[hx] at hk hr;exact qZ0 n x.1 x.2 _ hr.2.2.2 k hk
theorem Lie.ge{N:Nat}{l:List UInt8}{rb rs:Int}{r:Root}(h:Lie N l rb rs r):∀ k∈qL3 r,2≤k:=by
 cases r with
 | none=>intro k hk;cases hk
 | «at» n L=>
  obtain⟨b,rfl,h2,h3⟩:=h;intro k hk;have hk':k∈qH8 n L:=hk;rw[qR1 h2] at hk';exact qZ0 n b rs L.sub h3 k hk'
theorem Lie.head{N:Nat}{l:List UInt8}{rb rs:Int}{r:Root}(h:Lie N l rb rs r)(hl:N*128≤l.length)(hN2:2≤N)(i:Nat)(hi:i<2)(x y z:Int):Lie N (qB6 l i (qB4 x y z)) rb rs r:=
 h.move fun k hk=>qP2 l _ i k N (qJ2 _ _ _) hl (by omega) (by have:=h.ge k hk;omega)
theorem xC9{N:Nat}{l l':List UInt8}(hk:∀ k,2≤k→χ l' k=χ l k):∀ (n:Nat) (L:Lnk (Tn n)),qK5 N l n L→qK5 N l' n L
 | 0,L,h=>fun x hx=>(h x hx).move _ _ _ _ fun k hm=>hk k (qZ0 0 x.1 x.2 L.sub (h x hx) k hm)
 | n+1,L,h=>⟨fun x hx=>(h.1 x hx).move _ _ _ _ fun k hm=>hk k (qZ0 (n+1) x.1 x.2 L.sub (h.1 x hx) k hm),fun hn m hm=>xC9 hk n m (h.2 hn m hm)⟩
theorem xD1{N:Nat}{l l':List UInt8}(hk:∀ k,2≤k→χ l' k=χ l k){r:Root}(h:qN8 N l r):qN8 N l' r:=by
 cases r with
 | none=>trivial
 | «at» n L=>exact xC9 hk n L h
theorem jG0{N:Nat}{l:List UInt8}(hN:N≤1000)(hl:N*128≤l.length)(rt:Root)(rs:List Root)(ho:qN8 N l rt)(hg:RGood rt)(hc:rt.cont.length≤1400)(hrs:∀ r∈rs,qN8 N l r)(fr:List Nat)(hfr:fr=qC0 N (rs.foldl qA5 (qA5 [] rt)))(hfit:rt.news≤fr.length):
  ∃ nt:Root,Lie N (laidAll l (qB5 rt fr).2) (qB5 rt fr).1.b (qB5 rt fr).1.s nt∧RGood nt∧nt.cont=rt.cont∧(qB5 rt fr).2.length=rt.news∧(∀ r∈rs,∀ k∈qL3 r,χ (laidAll l (qB5 rt fr).2) k=χ l k)∧(∀ k,k<2→χ (laidAll l (qB5 rt fr).2) k=χ l k):=by
 cases rt with
 | none=>exact⟨.none,⟨rfl,rfl⟩,trivial,rfl,rfl,fun _ _ _ _=>rfl,fun _ _=>rfl⟩
 | «at» n L=>
  have hok:=zC6 hg hc;subst hfr;obtain⟨h1,⟨x,h2,h3⟩,h4,h5⟩:=xQ5 hN hl n L rs ho hok (xE8 hg hc) hrs hfit _ rfl;refine⟨.at n (ω n L (qC0 N (rs.foldl qA5 (qA5 [] (.at n L))))).1,?_,⟨?_,?_,?_⟩,zJ0 _ _ _,qU2 _ _ _,h4,h5⟩
  ·refine⟨x.1,?_,?_,?_⟩
   ·simp[qB5,lhl,h2]
   ·simp[qB5,lhl,h2]
   ·have e:(qB5 (.at n L) (qC0 N (rs.foldl qA5 (qA5 [] (.at n L))))).1.s=x.2:=by simp[qB5,lhl,h2]
    rw[e];exact h3
  ·rw[zJ2];exact hg.1
  ·rw[zJ2];exact xA1 n L _ _ hg.2.1
  ·rw[xA0];exact hg.2.2
theorem Lie.one{N:Nat}{l:List UInt8}{rb rs:Int}{r r':Root}(hN:N≤1000)(h:Lie N l rb rs r)(h':Lie N l rb rs r'):r.cont=r'.cont∧qL3 r=qL3 r':=by
 cases r with
 | none=>
  obtain⟨rfl,rfl⟩:=h
  cases r' with
  | none=>exact⟨rfl,rfl⟩
  | «at» n L=>obtain⟨b,e1,_,e3⟩:=h';have:=e3.at;omega
 | «at» n L=>
  obtain⟨b,rfl,e2,e3⟩:=h
  cases r' with
  | none=>obtain⟨e,_⟩:=h';have:=e3.at;omega
  | «at» n' L'=>
   obtain⟨b',f1,f2,f3⟩:=h';have hb:b=b':=by omega
   subst hb;have hn:=qW8 hN e3 f3;subst hn;have ht:=(zI6 hN n b rs rs L.sub L'.sub e3 f3).2;refine⟨?_,?_⟩
   ·show cont n L.sub=cont n L'.sub;rw[ht]
   ·show qH8 n L=qH8 n L';rw[qR1 e2,qR1 f2,ht]
end Go.Proofs.YtdohpenfkdckiabGreatDoor
namespace Go.Proofs.YtdohpenfkdckiabGreatDoor
open Go.Proofs.Tryz
open Go.RowKit
variable {κ:Nat}
theorem xY8(N rb rs:Int):(qB4 N rb rs).take 32=toB (qE3 N rb rs):=by
 have h:(toB (qE3 N rb rs)).length=32:=by rw[qJ1,qV0]
 rw[qB4,List.take_append_of_le_length (by omega),List.take_of_length_le (by omega)]
theorem zH4(N rb rs:Int):qB4 N rb rs=toB qH3++(toB (qB2 2 rb)++(toB (qB2 8 N)++(toB (qB2 8 rs)++(toB (qB2 8 (fnv (qL0 N rb rs)))++List.replicate 96 0)))):=by
 simp only[qB4,qE3]
 conv=>lhs;rw[qM2]
 simp only[qL0,qM2,List.append_assoc]
theorem xY6(N rb rs:Int)(h0:0≤N)(h1:N≤2000000000):qE6 (qE9 (((qB4 N rb rs).drop 8).take 8))=N:=by
 have e:((qB4 N rb rs).drop 8).take 8=toB (qB2 8 N):=by
  rw[zH4,←List.append_assoc (toB qH3)];exact qT6 _ _ _ 8 8 (by simp[qJ1,qG1,qH3]) (by simp[qJ1,qG1])
 rw[e,qP1 _ (qJ5 8 N),qN0 8 N (by decide) h0];have:(256:Int) ^ 8=18446744073709551616:=by decide
 omega
theorem xY5(N rb rs:Int)(h0:0≤rb)(h1:rb≤1000):qE6 (qE9 (((qB4 N rb rs).drop 6).take 2))=rb:=by
 have e:((qB4 N rb rs).drop 6).take 2=toB (qB2 2 rb):=by
  rw[zH4];exact qT6 _ _ _ 6 2 (by simp[qJ1,qH3]) (by simp[qJ1,qG1])
 rw[e,qP1 _ (qJ5 2 rb),qN0 2 rb (by decide) h0];have:(256:Int) ^ 2=65536:=by decide
 omega
theorem xY7(N rb rs:Int)(h0:0≤rs)(h1:rs<18446744073709551616):qE6 (qE9 (((qB4 N rb rs).drop 16).take 8))=rs:=by
 have e:((qB4 N rb rs).drop 16).take 8=toB (qB2 8 rs):=by
  rw[zH4,←List.append_assoc (toB qH3),←List.append_assoc (toB qH3++toB (qB2 2 rb))];exact qT6 _ _ _ 16 8 (by simp[qJ1,qG1,qH3]) (by simp[qJ1,qG1])
 rw[e,qP1 _ (qJ5 8 rs),qN0 8 rs (by decide) h0];have:(256:Int) ^ 8=18446744073709551616:=by decide
 omega
structure HeadOk(i:Nat)(N rb rs:Int):Prop where
 place:N % 2=(i:Int)
 n0:0≤N
 n1:N≤2000000000
 b0:0≤rb
 b1:rb≤1000
 s0:0≤rs
 s1:rs<18446744073709551616
theorem zK6(l:List UInt8)(h:l.length≤8):0≤qE6 (qE9 l)∧qE6 (qE9 l)<(256:Int) ^ l.length:=by
 have hb:=xM6 l;rw[zK5 _ hb (by rw[zF3];exact h)];have:=zK7 _ hb
 rwa [zF3] at this
def Valid(l:List UInt8)(i:Nat)(N rb rs:Int):Prop:=qE6 (qE9 (((χ l i).drop 8).take 8))=N∧qE6 (qE9 (((χ l i).drop 6).take 2))=rb∧qE6 (qE9 (((χ l i).drop 16).take 8))=rs∧N % 2=(i:Int)∧toB (qE3 N rb rs)=(χ l i).take 32
theorem qN5(x:List UInt8)(a b:Nat)(h:a+b≤32):(x.drop a).take b=((x.take 32).drop a).take b:=by rw[List.drop_take,List.take_take,Nat.min_eq_left (by omega)]
theorem Valid.sec{l l2:List UInt8}{i:Nat}{N rb rs:Int}(h:Valid l i N rb rs)(hs:(χ l2 i).take 32=(χ l i).take 32):Valid l2 i N rb rs:=by
 obtain⟨h1,h2,h3,h4,h5⟩:=h;rw[qN5 _ 8 8 (by omega),←hs,←qN5 _ 8 8 (by omega)] at h1;rw[qN5 _ 6 2 (by omega),←hs,←qN5 _ 6 2 (by omega)] at h2;rw[qN5 _ 16 8 (by omega),←hs,←qN5 _ 16 8 (by omega)] at h3;exact⟨h1,h2,h3,h4,h5.trans hs.symm⟩
theorem Valid.laid{l:List UInt8}{i:Nat}{N rb rs:Int}(hs:(χ l i).take 32=(qB4 N rb rs).take 32)(ho:HeadOk i N rb rs):Valid l i N rb rs:=by
 refine⟨?_,?_,?_,ho.place,?_⟩
 ·rw[qN5 _ 8 8 (by omega),hs,←qN5 _ 8 8 (by omega)];exact xY6 N rb rs ho.n0 ho.n1
 ·rw[qN5 _ 6 2 (by omega),hs,←qN5 _ 6 2 (by omega)];exact xY5 N rb rs ho.b0 ho.b1
 ·rw[qN5 _ 16 8 (by omega),hs,←qN5 _ 16 8 (by omega)];exact xY7 N rb rs ho.s0 ho.s1
 ·rw[hs,xY8]
def IsHd(l:List UInt8)(i:Nat):Option (Int × Int × Int)→Prop
 | some h=>Valid l i h.1 h.2.1 h.2.2
 | none=>∀ N rb rs,¬Valid l i N rb rs
def qP7:Option (Int × Int × Int)→Value
 | some h=>qI0 h.1 h.2.1 h.2.2
 | none=>qI0 0 0 0
theorem IsHd.sec{l l2:List UInt8}{i:Nat}{h:Option (Int × Int × Int)}(hh:IsHd l i h)(hs:(χ l2 i).take 32=(χ l i).take 32):IsHd l2 i h:=by
 cases h with
 | some h=>exact Valid.sec hh hs
 | none=>exact fun N rb rs hv=>hh N rb rs (hv.sec hs.symm)
def qT0(N N':Int):Bool:=decide (0<wrap64 (IntKind.u64.wrap (N-N')))
theorem jI5{N N':Int}(h:N=N'+1):qT0 N N'=true∧qT0 N' N=false:=by
 have e1:N-N'=1:=by omega
 have e2:N'-N=-1:=by omega
 unfold qT0;rw[e1,e2];refine⟨?_,?_⟩<;>simp only[wrap64,IntKind.wrap_u64]<;>decide
theorem jI6(N N' a b c d:Int)(w:World):
  Calls prog 112 #[.agg #[.int .u64 N,.int .i64 a,.int .u64 b],.agg #[.int .u64 N',.int .i64 c,.int .u64 d]] w fun e w'=>e=.returned (.bool (qT0 N N'))∧Below w.heap.size w w':=by
 go_enter func112,ntmps112;go_wp2;go_ret;exact⟨rfl,((Below.refl _ _).alloc (Nat.le_refl _) _).alloc (by simp) _⟩
def qK1:Option (Int × Int × Int)→Option (Int × Int × Int)→Option (Int × Int × Int)
 | a,none=>a
 | none,some b=>some b
 | some a,some b=>if qT0 b.1 a.1 then some b else some a
def Heads(l:List UInt8)(N rb rs:Int):Prop:=∃ d0 d1,IsHd l 0 d0∧IsHd l 1 d1∧qK1 d0 d1=some (N,rb,rs)
theorem Heads.same{l l2:List UInt8}{N rb rs:Int}(h:Heads l N rb rs)(hk:∀ k,k<2→(χ l2 k).take 32=(χ l k).take 32):Heads l2 N rb rs:=by
 obtain⟨d0,d1,h0,h1,h2⟩:=h;exact⟨d0,d1,h0.sec (hk 0 (by omega)),h1.sec (hk 1 (by omega)),h2⟩
theorem Heads.move{l l':List UInt8}{N rb rs:Int}(h:Heads l N rb rs)(hk:∀ k,k<2→χ l' k=χ l k):Heads l' N rb rs:=h.same fun k h2=>by rw[hk k h2]
theorem Heads.valid{l:List UInt8}{N rb rs:Int}(h:Heads l N rb rs):∃ i:Nat,i<2∧N % 2=(i:Int)∧Valid l i N rb rs:=by
 obtain⟨d0,d1,h0,h1,h2⟩:=h
 cases d0 with
 | none=>
  cases d1 with
  | none=>cases h2
  | some b=>cases h2;exact⟨1,by omega,h1.2.2.2.1,h1⟩
 | some a=>
  cases d1 with
  | none=>cases h2;exact⟨0,by omega,h0.2.2.2.1,h0⟩
  | some b=>
   simp only[qK1] at h2;split at h2
   ·cases h2;exact⟨1,by omega,h1.2.2.2.1,h1⟩
   ·cases h2;exact⟨0,by omega,h0.2.2.2.1,h0⟩
theorem Heads.next{l:List UInt8}{i j:Nat}{N N' rb rs rb' rs':Int}(h1:Valid l i N rb rs)(h2:Valid l j N' rb' rs')(hn:N'=N+1)(hi:i<2)(hj:j<2):Heads l N' rb' rs':=by
 have e1:=h1.2.2.2.1;have e2:=h2.2.2.2.1;have hb:=jI5 hn;have hc:(i=0∧j=1)∨(i=1∧j=0):=by omega
 rcases hc with⟨rfl,rfl⟩|⟨rfl,rfl⟩
 ·exact⟨some (N,rb,rs),some (N',rb',rs'),h1,h2,by simp[qK1,hb.1]⟩
 ·exact⟨some (N',rb',rs'),some (N,rb,rs),h2,h1,by simp[qK1,hb.2]⟩
theorem Heads.lay{l l2:List UInt8}{i:Nat}{N rb rs rb' rs':Int}(h:Heads l N rb rs)(hi:(N+1) % 2=(i:Int))(hk:∀ k,k<2→k≠i→(χ l2 k).take 32=(χ l k).take 32)(hs:(χ l2 i).take 32=(qB4 (N+1) rb' rs').take 32)(ho:HeadOk i (N+1) rb' rs'):Heads l2 (N+1) rb' rs':=by
 obtain⟨j,hj,hj2,hv⟩:=h.valid;exact Heads.next (hv.sec (hk j hj (by omega))) (Valid.laid hs ho) rfl hj (by omega)
theorem Heads.made{l:List UInt8}{i j:Nat}{N rb rs rb' rs':Int}(h1:χ l i=qB4 (N+1) rb rs)(h2:χ l j=qB4 (N+1+1) rb' rs')(hi:i<2)(hj:j<2)(o1:HeadOk i (N+1) rb rs)(o2:HeadOk j (N+1+1) rb' rs'):Heads l (N+1+1) rb' rs':=
 Heads.next (Valid.laid (by rw[h1]) o1) (Valid.laid (by rw[h2]) o2) rfl hi hj
theorem Heads.new{l:List UInt8}{N:Int}(h:Formatted l N):Heads l N 0 0:=by
 have:=h.even;have:=h.low;have:=h.high;exact Heads.next (i:=1) (j:=0) (N:=N-1) (rb:=0) (rs:=0) (Valid.laid (by rw[h.b1];rfl) ⟨by omega,by omega,by omega,by decide,by decide,by decide,by decide⟩) (Valid.laid (by rw[h.b0];rfl) ⟨by omega,by omega,by omega,by decide,by decide,by decide,by decide⟩) (by omega) (by omega) (by omega)
def jB0:Go.Shelf.Ren:=⟨fun | 171=>167 | 243=>192 | 246=>213 | 283=>221 | 284=>222 | 285=>223 | 286=>224 | 129=>210 | 317=>226 | 318=>227 | 319=>228 | 320=>229 | 337=>230 | 338=>231 | n=>n,fun | 3=>3 | 9=>9 | 2=>2 | 4=>4 | 171=>306 | 0=>0 | 53=>75 | 37=>90 | 5=>5 | 173=>308 | 212=>314 | 51=>119 | 20=>20 | 213=>315 | 46=>269 | 232=>316 | 233=>317 | n=>n,fun | 17=>1 | 18=>2 | 19=>3 | n=>n⟩
theorem jA9:Go.Proofs.LaysM.n171 prog jB0:={
 mixed:=by kernel_rfl
 f129:=func210.trans (congrArg some (by kernel_rfl))
 f171:=func167.trans (congrArg some (by kernel_rfl))
 f243:=func192.trans (congrArg some (by kernel_rfl))
 f246:=func213.trans (congrArg some (by kernel_rfl))
 f283:=func221.trans (congrArg some (by kernel_rfl))
 f284:=func222.trans (congrArg some (by kernel_rfl))
 f285:=func223.trans (congrArg some (by kernel_rfl))
 f286:=func224.trans (congrArg some (by kernel_rfl))
 f317:=func226.trans (congrArg some (by kernel_rfl))
 f318:=func227.trans (congrArg some (by kernel_rfl))
 f319:=func228.trans (congrArg some (by kernel_rfl))
 f320:=func229.trans (congrArg some (by kernel_rfl))
 f337:=func230.trans (congrArg some (by kernel_rfl))
 f338:=func231.trans (congrArg some (by kernel_rfl))
 t0:=underlying0
 a0:=isAgg0
 z0:=sizeOf0
 v0:=zeroValue0
 t2:=underlying2
 a2:=isAgg2
 z2:=sizeOf2
 v2:=zeroValue2
 t3:=underlying3
 a3:=isAgg3
 z3:=sizeOf3
 v3:=zeroValue3
 t4:=underlying4
 a4:=isAgg4
 z4:=sizeOf4
 v4:=zeroValue4
 t5:=underlying5
 a5:=isAgg5
 z5:=sizeOf5
 v5:=zeroValue5
 t9:=underlying9
 a9:=isAgg9
 z9:=sizeOf9
 v9:=zeroValue9
 t20:=underlying20
 a20:=isAgg20
 z20:=sizeOf20
 v20:=zeroValue20
 t37:=underlying90
 a37:=isAgg90
 z37:=sizeOf90
 v37:=zeroValue90
 t46:=underlying269
 a46:=isAgg269
 z46:=sizeOf269
 v46:=zeroValue269
 t51:=underlying119
 a51:=isAgg119
 z51:=sizeOf119
 v51:=zeroValue119
 t53:=underlying75
 a53:=isAgg75
 z53:=sizeOf75
 v53:=zeroValue75
 t171:=underlying306
 a171:=isAgg306
 z171:=sizeOf306
 v171:=zeroValue306
 t173:=underlying308
 a173:=isAgg308
 z173:=sizeOf308
 v173:=zeroValue308
 t212:=underlying314
 a212:=isAgg314
 z212:=sizeOf314
 v212:=zeroValue314
 t213:=underlying315
 a213:=isAgg315
 z213:=sizeOf315
 t232:=underlying316
 a232:=isAgg316
 z232:=sizeOf316
 v232:=zeroValue316
 t233:=underlying317
 a233:=isAgg317
 z233:=sizeOf317
 v233:=zeroValue317
 g17:=by kernel_rfl
 g18:=by kernel_rfl
 g19:=by kernel_rfl
 i0:=by kernel_rfl
 i2:=by kernel_rfl
 i3:=by kernel_rfl
 i4:=by kernel_rfl
 i5:=by kernel_rfl
 i9:=by kernel_rfl
 i20:=by kernel_rfl
 i37:=by kernel_rfl
 i46:=by kernel_rfl
 i51:=by kernel_rfl
 i53:=by kernel_rfl
 i171:=by kernel_rfl
 i173:=by kernel_rfl
 i212:=by kernel_rfl
 i232:=by kernel_rfl
 i233:=by kernel_rfl
 m17:=by kernel_rfl
 m18:=by kernel_rfl
 m19:=by kernel_rfl }
theorem zY0(i:Nat)(hi:i≤1000000)(w:World)(h:Lib.TabIs prog w "internal/strconv.uint64pow10" .u64 Lib.pow10Tab):
  Calls prog 167 #[.int .i64 i] w fun e w'=>∃ s,e=.returned (.string s)∧s.size≤21∧Kp [] w w':=by
 refine (Any.strconv_Itoa jA9 (i:Int) (by omega) (by omega) w h).mono ?_;rintro e w' ⟨rfl,kk,os,rfl⟩;refine⟨_,rfl,by simpa [ByteArray.size] using Lib.itoa_length_le (i:Int) (by omega) (by omega),?_⟩;exact⟨rfl,rfl,rfl,by simp[Sort.grow],fun k hk _=>by show ((w.drewN kk).heap++os)[k]?=_;rw[Array.getElem?_append_left (by simpa using hk)];rfl⟩
structure Kd where
 cap:Nat
 told:Int
 off:Int
 fr:Int
 to:Int
def kq(c:Nat):Kd:=⟨c,0,-1,0,0⟩
def Kd.quiet(κ:Kd):Prop:=κ.off=-1∧κ.to≤κ.fr
theorem zY7(c:Nat):(kq c).quiet:=⟨rfl,Int.le_refl _⟩
def Kd.up(κ:Kd):Kd:=⟨κ.cap,nx κ.told,κ.off,κ.fr,κ.to⟩
theorem Kd.up_quiet{κ:Kd}:κ.up.quiet↔κ.quiet:=Iff.rfl
def qC1(κ:Kd)(n C:Nat)(cache:Value)(calls writes:Int):Obj:=
 .cells #[.slice (some ⟨C,0,none⟩) n κ.cap,cache,.int .i64 calls,.int .i64 writes,.int .i64 κ.told,.int .i64 κ.off,.int .i64 κ.fr,.int .i64 κ.to] 72
variable {κ:Kd}
def xI4(κ:Kd)(A:Nat)(calls:Int)(w:World)(e:Ending)(w':World):Prop:=
 (e=.returned (.bool false)∧w'=w.setCell ⟨A,2,none⟩ (.int .i64 (nx calls)))∨(¬κ.quiet∧e=.returned (.bool true)∧w'=(w.setCell ⟨A,2,none⟩ (.int .i64 (nx calls))).setCell ⟨A,4,none⟩ (.int .i64 (nx κ.told)))
theorem zA2(A n C:Nat)(cache:Value)(calls writes:Int)(w:World)(h:w.heap[A]?=some (qC1 κ n C cache calls writes)):
  Calls prog 252 #[.pointer (some ⟨A,0,none⟩)] w (xI4 κ A calls w):=by
 obtain⟨cap,told,off,fr,to⟩:=κ;have c2:=ξ h 2;have c4:=ξ h 4;have c5:=ξ h 5;have c6:=ξ h 6;have c7:=ξ h 7;simp at c2 c4 c5 c6 c7;have f2:=ψ h;have hn1:wrap64 (calls+1)=nx calls:=rfl;have hn2:wrap64 (told+1)=nx told:=rfl;have hq1:decide (0≤off)=true→¬(Kd.mk cap told off fr to).quiet:=fun h hq=>by have:=of_decide_eq_true h;have:=hq.1;simp at this;omega
 have hq2:decide (fr≤calls)=true→decide (calls<to)=true→¬(Kd.mk cap told off fr to).quiet:=fun h h2 hq=>by have:=of_decide_eq_true h;have:=of_decide_eq_true h2;have:=hq.2;simp at this;omega
 have HNO:Hid ((decide (0≤off)=true→¬(Kd.mk cap told off fr to).quiet)∧(decide (fr≤calls)=true→decide (calls<to)=true→¬(Kd.mk cap told off fr to).quiet)):=⟨hq1,hq2⟩;clear h hq1 hq2;cases h1:decide (0≤off)<;>cases h2:decide (off≤calls)<;>cases h3:decide (fr≤calls)<;>cases h4:decide (calls<to) <;>
 (go_enter func252,ntmps252
  go_wp2;go_ret
  first | exact Or.inl ⟨rfl,rfl⟩ | exact Or.inr ⟨HNO.out.1 h1,rfl,rfl⟩ | exact Or.inr ⟨HNO.out.2 h3 h4,rfl,rfl⟩)
structure Gl(w:World):Prop where
 tab:∃ fr,w.heap[1]?=some (.cells (Lib.pow10Tab.map fun z=>Value.int .u64 z).toArray 314 fr)
 word:∃ c fr s,w.heap[4]?=some (.cells c 330 fr)∧c[8]?=some (.string s)
def xF9:List TypeId:=[314,330]
theorem Gl.keep{w w':World}{S:List Nat}(h:Gl w)(hK:Kp S w w')(hS:∀ k∈S,∀ c t fr,w.heap[k]?=some (.cells c t fr)→t ∉ xF9):Gl w':=by
 obtain⟨fr,h1⟩:=h.tab;obtain⟨c,fr2,s,h2,h3⟩:=h.word;exact⟨⟨fr,hK.heap h1 (fun hm=>hS _ hm _ _ _ h1 (by decide))⟩,⟨c,fr2,s,hK.heap h2 (fun hm=>hS _ hm _ _ _ h2 (by decide)),h3⟩⟩
theorem Gl.is{w:World}(h:Gl w):Lib.TabIs prog w "internal/strconv.uint64pow10" .u64 Lib.pow10Tab:=by
 obtain⟨fr,h1⟩:=h.tab;have hg:prog.globalNamed "internal/strconv.uint64pow10"=some 1:=by kernel_rfl
 unfold Lib.TabIs World.var?;simp[hg,h1]
def ioP(p:Addr):List PanicEntry:=[{ v:=.iface 162 (.agg #[.iface 241 (.pointer (some p))]),recovered:=false }]
def Io(κ:Kd)(e:Ending):Prop:=¬κ.quiet∧∃ p,e=.panicked (ioP p)
def qP5:Value:=.iface 46 (.int .i64 8)
theorem jA1(t:ByteArray)(w:World)(c8:w.cell? ⟨4,8,none⟩=some (.string t))(hs:4<w.heap.size):Calls prog 254 #[.int .i64 8] w fun e w'=>e=.returned (.string t)∧w'=w:=by
 go_enter func254,ntmps254;go_wp2;go_ret;exact⟨rfl,rfl⟩
theorem jV5(p:Addr)(w:World):Calls prog 55 #[.iface 241 (.pointer (some p))] w fun e w'=>e=.panicked (ioP p)∧w'=w:=by
 go_enter func55,ntmps55;go_wp2;exact⟨rfl,rfl,rfl⟩
theorem zG5(s:ByteArray)(w:World)(h:Gl w):Calls prog 115 #[.string s,qP5] w fun e w'=>(∃ p,e=.panicked (ioP p))∧Kp [] w w':=by
 obtain⟨c,fr2,t,h2,h3⟩:=h.word;have c8:=ξ h2 8;rw[h3] at c8;have hs:=ζ h2;have hm:∀ W:World,(method 445 46 (.int .i64 8) "Error").run prog W=.ok (254,.int .i64 8) W:=fun _=>by kernel_rfl
 unfold qP5;clear h h2 h3;go_enter func115,ntmps115
 go_wp2_with (go_at_call 254;refine (jA1 t w c8 hs).mono ?_;rintro e w1 ⟨rfl,rfl⟩)
 refine (jV5 _ _).mono ?_;rintro e w1 ⟨rfl,rfl⟩;go_wp2;exact⟨rfl,⟨_,rfl⟩,(Kp.refl _ _).alloc _⟩
variable {κ:Kd}
theorem xC5(A n C:Nat)(cache:Value)(calls writes:Int)(i:Int)(w:World)(h:w.heap[A]?=some (qC1 κ n C cache calls writes))(h0:0≤i)(h1:i<n):
  Calls prog 253 #[.pointer (some ⟨A,0,none⟩),.int .i64 i] w fun e w'=>e=.returned (.bool false)∧w'=w:=by
 have c0:=ξ h 0;simp at c0;clear h;go_enter func253,ntmps253;go_wp2;go_ret;exact⟨rfl,rfl⟩
theorem zD7{A n C:Nat}{v:Value}{calls writes:Int}{w:World}(h:w.heap[A]?=some (qC1 κ n C v calls writes)):((w.setCell ⟨A,2,none⟩ (.int .i64 (nx calls))).setCell ⟨A,4,none⟩ (.int .i64 (nx κ.told))).heap[A]?=some (qC1 κ.up n C v (nx calls) writes):=φ (φ h 2 _) 4 _
theorem zD6(A:Nat)(a b:Value)(w:World):Kp [A] w ((w.setCell ⟨A,2,none⟩ a).setCell ⟨A,4,none⟩ b):=((Kp.refl _ _).sc _).sc _
theorem zF4{l:List UInt8}{i n:Nat}(hl:n*128≤l.length)(hi:i<n):(χ l i).length=128:=by simp[χ];omega
theorem xH5{n:Nat}{ws:List (Nat × List UInt8)}{cur:Array Value}(hws:∀ x∈ws,x.1<n∧x.2.length=128)(hcur:cur.toList.take (ws.length*129)=ws.flatMap wcs)(j:Nat)(hlt:j<ws.length):qA1 cur (j*129) 129=(wcs ws[j]).toArray:=by
 have hf:=zG9 wcs 129 ws (fun x hx=>by simp[wcs,zU0,(hws x hx).2]) j hlt;have hjm:j*129+129≤ws.length*129:=by omega
 unfold qA1
 congr 1
 rw[←hf,←hcur,List.drop_take,List.take_take]
 congr 1
 omega
theorem xH6{x:Nat × List UInt8}(h:x.2.length=128):((wcs x).toArray).size=129∧((wcs x).toArray)[0]?=some (.int .i64 (x.1:Int))∧qA1 (wcs x).toArray 1 128=enc x.2∧∀ v∈(wcs x).toArray.toList,v.oneCell'=true:=by
 have hXl:(wcs x).toArray=(.int .i64 (x.1:Int)::(enc x.2).toList).toArray:=by simp[wcs,enc]
 have hsz:(enc x.2).size=128:=by rw[qD2];exact h
 rw[hXl];refine⟨by simp[hsz],rfl,by simp[qA1,List.take_of_length_le,hsz],fun v hv=>?_⟩;simp at hv;rcases hv with rfl|hv
 ·rfl
 ·exact (qF9 x.2).one v (by simpa using hv)
def zO4(κ:Kd)(A n C:Nat)(v:Value)(calls writes:Int)(l:List UInt8)(i:Nat)(w:World)(e:Ending)(w':World):Prop:=
 ((¬κ.quiet∧e=.returned (.tuple #[.slice none 0 0,qP5])∧w'.heap[A]?=some (qC1 κ.up n C v (nx calls) writes))∨
  ∃ g,e=.returned (.tuple #[.slice (some ⟨g,0,none⟩) 128 128,.nilIface])∧w.heap.size≤g∧w'.heap[g]?=some (.cells (enc (χ l i)) 5)∧w'.heap[A]?=some (qC1 κ n C v (nx calls) writes))∧Kp [A] w w'
theorem jQ6(A n C base:Nat)(v:Value)(ws:List (Nat × List UInt8))(calls writes:Int)(i:Nat)(l:List UInt8)(w:World)(h:w.heap[A]?=some (qC1 κ n C v calls writes))
  (hv:w.ownsRow base 89 129 v ws.length (ws.flatMap wcs)) (hws:∀ x∈ws,x.1<n∧x.2.length=128) (hwl:ws.length≤100000)
  (hi:i<n) (hn:n≤1000) (hC:w.heap[C]?=some (.cells (enc l) 87)) (hs:n*128≤l.length) (hAC:C≠A):
  Calls prog 250 #[.pointer (some ⟨A,0,none⟩),.int .i64 i] w (zO4 κ A n C v calls writes (laidAll l ws) i w):=by
 obtain⟨bs,cp,rfl⟩:∃ bs cp,v=.slice bs ws.length cp:=by
  rcases hv.2 with⟨rfl,hl0⟩|⟨g,cap,cur,rfl,_⟩
  ·rw[hl0];exact⟨_,_,rfl⟩
  ·exact⟨_,_,rfl⟩
 have HV:=zh hv;have HWS:=zh hws;have HS:=zh hs;have hes:n*128≤(enc l).size:=by rw[qD2];exact hs
 have c0:=ξ h 0;have c1:=ξ h 1;simp at c0 c1;have hA:=ζ h;have hCs:=ζ hC;have HA0:=zh h;clear hv hws hs;go_enter func250,ntmps250;go_wp2_with fail;refine (zA2 A n C _ calls writes _ h).mono ?_;rintro e w1 (⟨rfl,rfl⟩|⟨hq,rfl,rfl⟩)
 rotate_left
 ·have HE:Hid (¬κ.quiet∧((w.setCell ⟨A,2,none⟩ (.int .i64 (nx calls))).setCell ⟨A,4,none⟩ (.int .i64 (nx κ.told))).heap[A]?=some (qC1 κ.up n C (.slice bs ws.length cp) (nx calls) writes)):=⟨hq,zD7 h⟩;clear hq h;go_wp2
  go_ret2
  exact⟨.inl ⟨HE.out.1,rfl,HE.out.2⟩,zD6 A _ _ w⟩
 go_wp2_with fail;refine (xC5 A n C (.slice bs ws.length cp) (nx calls) writes i _ (φ h 2 _) (by omega) (by omega)).mono ?_;rintro e w1 ⟨rfl,rfl⟩
 go_wp2_with (refine zN5 (.int .u8 0) (.int .u8 0) 1 1 underlying90 Tryz.info5 (by simp[Value.cells]) (by simp[Value.cells]) .i64 .i64 128 rfl rfl (by decide) (by decide) ?_;intro Z hZ hZ0)
 have hN:((w.setCell ⟨A,2,none⟩ (.int .i64 (nx calls))).alloc (.cells Z 5)).heap[w.heap.size]?=some (.cells Z 5):=by
  simpa using μ (w.setCell ⟨A,2,none⟩ (.int .i64 (nx calls))) (.cells Z 5)
 have hC':=θ (.cells Z 5) ((qA9 hAC 2 (.int .i64 (nx calls))).trans hC);rw[qO5 (n:=128) 3 underlying90 Tryz.size5 rfl hN hC' (by omega) (by omega) (qO6 (qF9 l) _ _).one];obtain⟨W1,hW1,hK1,hA1,hG1⟩:∃ W1,W1=((w.setCell ⟨A,2,none⟩ (.int .i64 (nx calls))).alloc (.cells Z 5)).setRow w.heap.size (qD6 Z 0 (qA1 (enc l) (i*128) 128))∧Kp [A] w W1∧
   W1.heap[A]?=some (qC1 κ n C (.slice bs ws.length cp) (nx calls) writes)∧W1.heap[w.heap.size]?=some (.cells (enc (χ l i)) 5):=
  ⟨_,rfl,(((Kp.refl _ _).sc _).alloc _).setRow (by simp) _,(setRow_other _ _ _ _ (by omega)).trans (θ _ (φ h 2 _)),by
   rw[setRow_heap _ _ _ _ _ _ hN,qH1 (by rw[qO4 (by omega)];omega),qI8];rfl⟩
 rw[←hW1];clear hW1 hN hC' c0 c1 h hes;have c1:=ξ hA1 1;simp at c1;go_wp2
 go_loopw [32] (fun k wr=>∃ (j:Nat),j≤ws.length∧k=.int .i64 j∧Hid (wr.heap[w.heap.size]?=some (.cells (enc (χ (laidAll l (ws.take j)) i)) 5))∧Hid (wr.heap[A]?=some (qC1 κ n C (.slice bs ws.length cp) (nx calls) writes))∧Hid (Kp [A] w wr)) (fun k _=>ws.length-(intOf k).toNat)
 case atStart=>exact⟨0,Nat.zero_le _,rfl,hG1,hA1,hK1⟩
 case round=>
  obtain⟨j,hj,rfl,HG,HA,HK⟩:=hrel;clear hG1 hA1 hK1 c1;by_cases hlt:j<ws.length
  ·have hjb:(j:Int)<(ws.length:Int):=by omega
   obtain⟨hix,hbl⟩:=HWS.out ws[j] (List.getElem_mem hlt);obtain⟨hXs,hX0,hXp,hX1⟩:=xH6 hbl;obtain⟨g,cap,cur,hvg,hg,hcs,hcp⟩:∃ g cap cur,Value.slice bs ws.length cp=.slice (some ⟨g,0,none⟩) ws.length cap∧w.heap[g]?=some (.cells cur 89)∧ws.length*129≤cur.size∧qA1 cur (j*129) 129=(wcs ws[j]).toArray:=by
    rcases HV.out.2 with⟨_,hl0⟩|⟨g,cap,cur,h1,_,h2,h3,_,h4,h5⟩
    ·omega
    ·exact⟨g,cap,cur,h1,h2,by rw[h4];exact Nat.mul_le_mul_right _ h3,xH5 HWS.out h5 j hlt⟩
   simp only[Value.slice.injEq,true_and] at hvg;obtain⟨rfl,rfl⟩:=hvg;have hgA:g≠A:=by
    intro e;subst e;have h2:=HA0.out;rw[hg] at h2;simp[qC1] at h2
   have hgr:=HK.out.heap hg (by simpa using hgA);have HSN:Hid (laidAll l (ws.take (j+1))=qB6 (laidAll l (ws.take j)) ws[j].1 ws[j].2):=zI4 l ws j hlt;have HLN:Hid (n*128≤(laidAll l (ws.take j)).length):=qQ2 n _ l HS.out (fun x hx=>HWS.out x (List.mem_of_mem_take hx));have HBL:Hid (ws[j].1<n∧ws[j].2.length=128):=⟨hix,hbl⟩;obtain⟨X,hX⟩:∃ X,X=(wcs ws[j]).toArray:=⟨_,rfl⟩;obtain⟨k,hk⟩:∃ k,k=ws[j].1:=⟨_,rfl⟩;obtain⟨bl,hbe⟩:∃ bl,bl=ws[j].2:=⟨_,rfl⟩;rw[←hX] at hXs hX0 hXp hX1 hcp;rw[←hk] at hX0 HSN HBL;rw[←hbe] at hXp HSN HBL;have hjm:j*129+129≤ws.length*129:=by omega
   clear hX hk hbe hix hbl;have hgs:=ζ hgr;have hGs:=ζ HG.out
   go_wp2_with (
    with_reducible refine qM4 (t:=89) ?_ 129 ?_ g (j*129) ?_ cur 89 (0,0) ?_ ?_ ?_
    ·kernel_rfl
    ·kernel_rfl
    ·rfl
    ·exact hgr
    ·omega)
   have hN:=μ wr (.cells zeroCells89 89);rw[qI9 hN (by simp[qI5,hXs]) hX1];obtain⟨W1,hW1,hK1,hA1,hG1,hT1,hs1⟩:∃ W1,W1=(wr.alloc (.cells zeroCells89 89)).setRow wr.heap.size (qD6 zeroCells89 0 X.toList.toArray)∧Kp [A] w W1∧
     W1.heap[A]?=some (qC1 κ n C (.slice (some ⟨g,0,none⟩) ws.length cp) (nx calls) writes)∧W1.heap[w.heap.size]?=some (.cells (enc (χ (laidAll l (ws.take j)) i)) 5)∧W1.heap[wr.heap.size]?=some (.cells X 89)∧W1.heap.size=wr.heap.size+1:=
    ⟨_,rfl,(HK.out.alloc _).setRow (Or.inr HK.out.size) _,(setRow_other _ _ _ _ (Nat.ne_of_lt (ζ HA.out))).trans (θ _ HA.out),(setRow_other _ _ _ _ (Nat.ne_of_lt (ζ HG.out))).trans (θ _ HG.out),by
     rw[setRow_heap _ _ _ _ _ _ hN,qH1 (by simp[qI5,hXs])],by simp⟩
   have hA1s:=ζ HA.out;rw[←hW1];clear hW1 hN;have t0:=ξ hT1 0;rw[hX0] at t0;have hT1s:=ζ hT1;by_cases hki:k=i
   ·have hkb:(k:Int)=(i:Int):=by omega
    have hbs:(enc (χ (laidAll l (ws.take j)) i)).size=128:=by rw[qD2];exact zF4 HLN.out hi
    go_wp2_with fail;rw[qO5 (n:=128) 3 underlying90 Tryz.size5 rfl hG1 hT1 (by omega) (by omega) (by rw[hXp];exact (qF9 bl).one)];rw[hXp,qH1 (by rw[hbs,qD2,HBL.out.2])];have HE:Hid ((W1.setRow w.heap.size (enc bl)).heap[w.heap.size]?=some (.cells (enc (χ (laidAll l (ws.take (j+1))) i)) 5)∧(W1.setRow w.heap.size (enc bl)).heap[A]?=some (qC1 κ n C (.slice (some ⟨g,0,none⟩) ws.length cp) (nx calls) writes)∧Kp [A] w (W1.setRow w.heap.size (enc bl))):=by
     refine⟨?_,(setRow_other _ _ _ _ (by omega)).trans hA1,hK1.setRow (Or.inr (Nat.le_refl _)) _⟩;rw[setRow_heap _ _ _ _ _ _ hG1,HSN.out,←hki,qR0 _ _ _ n HBL.out.2 HLN.out HBL.out.1]
    clear hA1 hG1 hT1 hK1;go_wp2;exact⟨⟨j+1,by omega,by go_num,HE.out.1,HE.out.2.1,HE.out.2.2⟩,by simp[intOf];omega⟩
   ·have hkb:¬(k:Int)=(i:Int):=by omega
    have HE:Hid (W1.heap[w.heap.size]?=some (.cells (enc (χ (laidAll l (ws.take (j+1))) i)) 5)∧W1.heap[A]?=some (qC1 κ n C (.slice (some ⟨g,0,none⟩) ws.length cp) (nx calls) writes)∧Kp [A] w W1):=by
     refine⟨?_,hA1,hK1⟩;rw[HSN.out,qP2 _ _ _ _ n HBL.out.2 HLN.out HBL.out.1 (fun e=>hki e.symm)];exact hG1
    clear hA1 hG1 hT1 hK1;go_wp2;exact⟨⟨j+1,by omega,by go_num,HE.out.1,HE.out.2.1,HE.out.2.2⟩,by simp[intOf];omega⟩
  ·have hjb:¬(j:Int)<(ws.length:Int):=by omega
   have hje:ws.take j=ws:=List.take_of_length_le (by omega);have hGe:=HG.out;rw[hje] at hGe;have HGE:=zh hGe;clear hje hGe;go_wp2
   go_ret2
   exact⟨.inr ⟨_,rfl,Nat.le_refl _,HGE.out,HA.out⟩,HK.out⟩
end Go.Proofs.YtdohpenfkdckiabGreatDoor
