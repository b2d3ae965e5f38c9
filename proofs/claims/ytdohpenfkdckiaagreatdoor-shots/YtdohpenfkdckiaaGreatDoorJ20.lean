import Derived.Test.YtdohpenfkdckiaaGreatDoorJ19
import Derived.Test.YtdohpenfkdckiaaGreatDoorJ04
import Derived.Test.YtdohpenfkdckiaaGreatDoorJ06
import Derived.Test.YtdohpenfkdckiaaGreatDoorJ17
set_option linter.all false
set_option maxRecDepth 100000
set_option maxHeartbeats 20000000
namespace Go.Proofs.YtdohpenfkdckiaaGreatDoor
open Go.Proofs.Tryz
open Go.RowKit
open Go.Maps (Keyed)
section
variable {w:World} {kc db St A C N nM:Nat} {s:Sto} {D:DataW Unit} {l:List UInt8} {wr:Int} {nw:Root}
theorem Shop.turn(hS:Shop w kc db St A C N nM s D l wr nw){w':World}{L:List Nat}(hK:Kp L w w')(hdb:db ∉ L)(hdev:Devl s.V A N C l wr w'){s':Sto}{nM':Nat}{D':DataW Unit}(e:s'.V=s.V∧s'.N=s.N∧s'.rb=s.rb∧s'.rs=s.rs∧s'.bl=s.bl∧s'.po=s.po)
  (hSt:w'.heap[St]?=some (ν 0 s')) (hM:RM w' s'.V s'.M nM' D') (m4:Maps.size D'≤4) (n1:nM'≤1000000) (bg0:0≤s'.bg) (kb:∀ k,Maps.has D' k=true→∃ x,k=υ x∧1≤x∧x≤s'.bg)
  (rd:∀ x h,Maps.has D' (υ x)=true→(∀ zd,D'.atKey (υ x) zd=qD5 h)→h.p=none→h.key=⟨#[]⟩∧∃ r,Lie N l h.b h.s r∧RGood r∧r.cont.length≤kc):Shop w' kc db St A C N nM' s' D' l wr nw:=by
 obtain⟨e1,e2,e3,e4,e5,e6⟩:=e;exact { hDb:=hK.heap hS.hDb hdb,hSt:=hSt,po:=by rw[e6];exact hS.po,hM:=hM,m4:=m4,n1:=n1,dev:=by rw[e1];exact hdev,N8:=hS.N8,N4:=hS.N4,len:=hS.len,lie:=by rw[e3,e4];exact hS.lie,good:=hS.good,sz:=hS.sz,kc1:=hS.kc1,bl0:=by rw[e5];exact hS.bl0,bl1:=by rw[e5];exact hS.bl1,sN0:=by rw[e2];exact hS.sN0,bg0:=bg0,kb:=kb,rd:=rd }
theorem Shop.neDb(hS:Shop w kc db St A C N nM s D l wr nw):db≠St∧db≠A∧db≠C∧db≠s.M:=by
 obtain⟨c,h⟩:=hS.hA;exact⟨qC2 hS.hDb hS.hSt (by decide),qC2 hS.hDb h (by decide),qC2 hS.hDb hS.dev.hC (by decide),qE5 hS.hDb hS.hM⟩
theorem Shop.quiet(hS:Shop w kc db St A C N nM s D l wr nw){w':World}{x:Nat}{c:Array Value}(hx:w.heap[x]?=some (.cells c 99))(hK:Kp [St,x,A] w w')(hdev:Devl s.V A N C l wr w')(hSt:w'.heap[St]?=some (ν 0 s)):Shop w' kc db St A C N nM s D l wr nw:=by
 obtain⟨n1,n2,n3,n4⟩:=hS.neDb;obtain⟨cA,hA⟩:=hS.hA;have h1:s.M≠St:=(qE5 hS.hSt hS.hM).symm;have h2:s.M≠x:=(qE5 hx hS.hM).symm;have h3:s.M≠A:=(qE5 hA hS.hM).symm;exact hS.turn hK (by simp[n1,n2];exact qC2 hS.hDb hx (by decide)) hdev ⟨rfl,rfl,rfl,rfl,rfl,rfl⟩ hSt (hS.hM.kp hK (by simp[h1,h2,h3])) hS.m4 hS.n1 hS.bg0 hS.kb hS.rd
theorem Shop.live(hS:Shop w kc db St A C N nM s D l wr nw){x:Nat}{t:Tx}(hx:w.heap[x]?=some (ψ t))(ho:t.over=false)(hon:t.on=some ⟨s.V,0,none⟩)(hst:t.St=St)(hh:t.h=⟨⟨#[]⟩,s.rb,s.rs,none⟩)(hc:t.ch=0):LiveT hS.E w x A N t s nw:=
 { hx:=hx,over:=ho,on:=hon,hSt:=by rw[hst];exact hS.hSt,po:=hS.po,sV:=rfl,hV:=hS.dev.hV,n1:=hS.N1,bl0:=hS.bl0,bl1:=by have:=hS.bl1;have:=hS.sz;have:=hS.kc1;omega,dev:=hS.dev,vS:=by show s.V ∉ [A];simpa using hS.VA,rr:=by rw[hh];exact hS.lie.rr hS.good w,good:=hS.good,sz:=by have:=hS.sz;have:=hS.kc1;omega,ch0:=by omega,ch1:=by omega }
theorem Shop.beginW(hS:Shop w kc db St A C N nM s D l wr nw)(hw:s.wr=0)(hbg:s.bg≤100000000):
  Calls prog 29 #[.pointer (some ⟨db,0,none⟩),.bool true] w fun e w'=>∃ x t,e=.returned (.tuple #[.pointer (some ⟨x,0,none⟩),.nilIface])∧w.heap.size≤x∧t.St=St∧t.nr=s.bg+1∧t.wrt=true∧t.ch=0∧Kp [St] w w'∧∃ hS':Shop w' kc db St A C N nM s.wrote D l wr nw,LiveT hS'.E w' x A N t s.wrote nw:=by
 obtain⟨n1,n2,n3,n4⟩:=hS.neDb;have h1:s.M≠St:=(qE5 hS.hSt hS.hM).symm;refine (xV4 db St nM s D w hS.hDb hS.hSt hS.hM hS.po n1 h1 hS.hM.lt hw hS.bg0 hbg).mono ?_;rintro e w' ⟨x,rfl,hxs,hx,hSt,hM,hK⟩;have hS':Shop w' kc db St A C N nM s.wrote D l wr nw:=hS.turn hK (by simpa using n1) (qL6 hS.dev hK (OffD.one hS.hSt (by decide))) ⟨rfl,rfl,rfl,rfl,rfl,rfl⟩ hSt hM hS.m4 hS.n1 (by show 0≤s.bg+1;have:=hS.bg0;omega) (fun k hk=>by obtain⟨y,e1,e2,e3⟩:=hS.kb k hk;exact⟨y,e1,e2,by show y≤s.bg+1;omega⟩) hS.rd;exact⟨x,_,rfl,hxs,rfl,rfl,rfl,rfl,hK,hS',hS'.live hx rfl rfl rfl rfl rfl⟩
theorem Shop.beginR(hS:Shop w kc db St A C N nM s D l wr nw)(h4:Maps.size D<4)(hnM:nM≤999999)(hbg:s.bg≤100000000):
  Calls prog 29 #[.pointer (some ⟨db,0,none⟩),.bool false] w fun e w'=>∃ x t D',e=.returned (.tuple #[.pointer (some ⟨x,0,none⟩),.nilIface])∧w.heap.size≤x∧t.St=St∧t.nr=s.bg+1∧t.wrt=false∧t.ch=0∧Kp [St,s.M] w w'∧D'=D.put (υ (s.bg+1)) (qD5 ⟨⟨#[]⟩,s.rb,s.rs,none⟩)∧∃ hS':Shop w' kc db St A C N (nM+1) s.read D' l wr nw,LiveT hS'.E w' x A N t s.read nw:=by
 obtain⟨n1,n2,n3,n4⟩:=hS.neDb;have h1:s.M≠St:=(qE5 hS.hSt hS.hM).symm;refine (xY0 db St nM s D w hS.hDb hS.hSt hS.hM hS.po n1 h1 n4 hS.hM.lt h4 (by omega) hS.bg0 hbg).mono ?_;rintro e w' ⟨x,rfl,hxs,hx,hSt,hM,hK⟩;have hoff:OffD w [St,s.M]:=(OffD.one hS.hSt (by decide)).cons (fun k hk c ty fr e=>by rw[List.mem_singleton.1 hk] at e;exact absurd rfl (qE5 e hS.hM));have hno:Maps.has D (υ (s.bg+1))=false:=by
  cases hh:Maps.has D (υ (s.bg+1)) with
  | false=>rfl
  | true=>obtain⟨y,e1,e2,e3⟩:=hS.kb _ hh;cases e1;omega
 have htd:=hS.hM.tidy qK7;have hS':Shop w' kc db St A C N (nM+1) s.read (D.put (υ (s.bg+1)) (qD5 ⟨⟨#[]⟩,s.rb,s.rs,none⟩)) l wr nw:=by
  refine hS.turn hK (by simp[n1,n4]) (qL6 hS.dev hK hoff) ⟨rfl,rfl,rfl,rfl,rfl,rfl⟩ hSt hM ?_ (by omega) (by show 0≤s.bg+1;have:=hS.bg0;omega) (fun k hk=>?_) (fun y h g1 g2 g3=>?_)
  ·rw[Maps.size_put htd,if_neg (by simp[hno])];omega
  ·by_cases e:k=υ (s.bg+1)
   ·exact⟨s.bg+1,e,by have:=hS.bg0;omega,Int.le_refl _⟩
   ·rw[Maps.has_put_other e] at hk;obtain⟨y,e1,e2,e3⟩:=hS.kb k hk;exact⟨y,e1,e2,by show y≤s.bg+1;omega⟩
  ·by_cases e:υ y=υ (s.bg+1)
   ·rw[e] at g2;have g4:=g2 (.lit (.int .i64 0));rw[Maps.atKey_put_same htd.isMap (show WideAt.IsKeyLit (υ _) from trivial)] at g4;have g5:=zG2 g4.symm g3 rfl;rw[g5];exact⟨rfl,nw,hS.lie,hS.good,hS.sz⟩
   ·rw[Maps.has_put_other e] at g1;exact hS.rd y h g1 (fun zd=>by rw[←g2 zd,Maps.atKey_put_other e]) g3
 exact⟨x,_,_,rfl,hxs,rfl,rfl,rfl,rfl,hK,rfl,hS',hS'.live hx rfl rfl rfl rfl rfl⟩
theorem Shop.abort(hS:Shop w kc db St A C N nM s D l wr nw){x:Nat}{t:Tx}{r:Root}(hL:LiveT hS.E w x A N t s r)(hst:t.St=St)(h0:0≤t.nr)(h1:t.nr≤1000000000):
  Calls prog 36 #[.pointer (some ⟨x,0,none⟩)] w fun e w'=>e=.returned .nilIface∧w'.heap[x]?=some (ψ t.ended)∧Shop w' kc db St A C N nM (s.left t.nr) (D.del (υ t.nr)) l wr nw∧Kp [St,x,s.M] w w':=by
 subst hst;obtain⟨n1,n2,n3,n4⟩:=hS.neDb;have hMS:s.M≠t.St:=(qE5 hS.hSt hS.hM).symm;have hxM:x≠s.M:=qE5 hL.hx hS.hM;have hoff:OffD w [t.St,x,s.M]:=(OffD.one hL.hSt (by decide)).cons ((OffD.one hL.hx (by decide)).cons (fun k hk c ty fr e=>by rw[List.mem_singleton.1 hk] at e;exact absurd rfl (qE5 e hS.hM)));refine (xJ1 x nM t s D w hL.hx hL.over hS.hSt hS.po hS.hM h0 h1 hMS hL.xS hxM hS.hM.lt).mono ?_;rintro e w' ⟨rfl,hx,hSt,hM,hK⟩;have htd:=hS.hM.tidy qK7;refine⟨rfl,hx,hS.turn hK (by simp[n1,n4];exact qC2 hS.hDb hL.hx (by decide)) (qL6 hS.dev hK hoff) ⟨rfl,rfl,rfl,rfl,rfl,rfl⟩ hSt hM ?_ hS.n1 hS.bg0 (fun k hk=>?_) (fun y h g1 g2 g3=>?_),hK⟩
 ·have:=Maps.size_del (k:=υ t.nr) htd;have:=hS.m4;omega
 ·by_cases e:k=υ t.nr
  ·rw[e,Maps.has_del_same] at hk;cases hk
  ·rw[Maps.has_del_other e] at hk;exact hS.kb k hk
 ·by_cases e:υ y=υ t.nr
  ·rw[e,Maps.has_del_same] at g1;cases g1
  ·rw[Maps.has_del_other e] at g1;exact hS.rd y h g1 (fun zd=>by rw[←g2 zd,Maps.atKey_del_other e]) g3
theorem Shop.commit(hS:Shop w kc db St A C N nM s D l wr nw){x q:Nat}{t:Tx}{r:Root}(hL:LiveT hS.E w x A N t s r)(hst:t.St=St)(hwr:t.wrt=true)(h0:0≤t.nr)(h1:t.nr≤1000000000)(hp:t.h.p=some q)(hrk:r.cont.length≤kc)(hN9:s.N≤999999999)
  (hfit:qD6 r+r.news+Maps.size D*kc+qD6 nw+2≤N):
  Calls prog 31 #[.pointer (some ⟨x,0,none⟩)] w fun e w'=>e=.returned .nilIface∧∃ s' l' nt,Shop w' kc db St A C N nM s' (D.del (υ t.nr)) l' (nx (nk (nx wr) r.news)) nt∧nt.cont=r.cont∧s'.N=s.N+2∧s'.bg=s.bg∧s'.wr=(s.left t.nr).wr∧s'.V=s.V∧s'.M=s.M∧w'.heap[x]?=some (ψ t.ended)∧Kp [St,x,s.M,A,C] w w'∧∀ y rb rs r0,Maps.has (D.del (υ t.nr)) (υ y)=true→(∀ zd,(D.del (υ t.nr)).atKey (υ y) zd=qD5 ⟨⟨#[]⟩,rb,rs,none⟩)→Lie N l rb rs r0→Lie N l' rb rs r0:=by
 have htd:=hS.hM.tidy qK7;have hsd:=Maps.size_del (k:=υ t.nr) htd;have hle:Maps.size (D.del (υ t.nr))≤Maps.size D:=by omega
 refine zW7 hS x t r hL hst hwr h0 h1 (fun W=>zJ4 s.V q t.h s.rb s.rs hp hL.key W) hrk hN9 (fun k hk=>?_) (by have:=hS.m4;omega) (by have:=Nat.mul_le_mul_right kc hle;omega);by_cases e:k=υ t.nr
 ·rw[e,Maps.has_del_same] at hk;cases hk
 ·rw[Maps.has_del_other e] at hk;exact⟨hk,fun zd=>Maps.atKey_del_other e zd⟩
end
end Go.Proofs.YtdohpenfkdckiaaGreatDoor
namespace Go.Proofs.YtdohpenfkdckiaaGreatDoor
open Go.Proofs.Tryz
open Go.RowKit
theorem xW2(St:Nat)(s:Sto)(h:HL)(w:World)(hSt:w.heap[St]?=some (ν 1 s))
  (heq:∀ W:World,Sem.run prog (Op.equalIn 10000 89 (ρ s.V h) (ρ s.V ⟨⟨#[]⟩,s.rb,s.rs,none⟩)) W=.ok true W):
  Calls prog 70 #[.pointer (some ⟨St,0,none⟩),ρ s.V h] w fun e w'=>e=.returned (.tuple #[])∧Kp [] w w':=by
 have HS:=zh hSt;clear hSt;rw[ρ,show ρ s.V ⟨⟨#[]⟩,s.rb,s.rs,none⟩=.agg #[.pointer (some ⟨s.V,0,none⟩),.string ⟨#[]⟩,.int .i64 s.rb,.int .u64 s.rs,.pointer none] from rfl] at heq;rw[ρ];go_enter func70,ntmps70;go_wp2_with fail;obtain⟨w0,hw0,hT0,hK0,hs0'⟩:=qG5 w (.cells #[.pointer (some ⟨s.V,0,none⟩),.string h.key,.int .i64 h.b,.int .u64 h.s,.pointer h.ptr] 89);rw[←hw0];clear hw0;refine (qV0 St 1 s w0 (hK0.hp HS.out)).mono ?_;rintro e w1 ⟨rfl,hK1⟩;rw[show ρ s.V ⟨⟨#[]⟩,s.rb,s.rs,none⟩=.agg #[.pointer (some ⟨s.V,0,none⟩),.string ⟨#[]⟩,.int .i64 s.rb,.int .u64 s.rs,.pointer none] from rfl];have hT1:=hK1.hp hT0;have hT1s:=ζ hT1;have t:=ξ hT1;have HK1:Hid (Kp [] w w1):=hK0.tr hK1;clear hK0 hK1 hT0 hT1;go_wp2;refine bodyPost_ret (results_none results70 _ _ _) rfl ?_;exact⟨rfl,HK1.out.alloc _⟩
section
variable {w:World} {kc db St A C N nM:Nat} {s:Sto} {D:DataW Unit} {l:List UInt8} {wr:Int} {nw:Root}
theorem LiveT.lie{E':SEnv}{x:Nat}{t:Tx}{r:Root}{hN:N≤1000}{hs:l.length=N*128}{hAC:C≠A}{hVA:s.V≠A}(hL:LiveT (EL s.V A N C l wr hN hs hAC hVA) w x A N t s r)(hp:t.h.p=none):Lie N l t.h.b t.h.s r:=by
 have hr:=hL.rr
 cases r with
 | none=>rw[show t.h=_ from hr];exact⟨rfl,rfl⟩
 | «at» n L=>
  have h2:=hr.2
  cases hx:L.ref with
  | none=>
   rw[hx] at h2;obtain⟨_,_,q,e,_⟩:=h2;rw[hp] at e;cases e
  | some x=>
   rw[hx] at h2;obtain⟨e1,e2,_,e4⟩:=h2;refine⟨x.1,e1,?_,?_⟩
   ·rw[hx,e2]
   ·rw[e2];exact e4
theorem Shop.commits(hS:Shop w kc db St A C N nM s D l wr nw){x:Nat}{t:Tx}{r:Root}(hL:LiveT hS.E w x A N t s r)(hst:t.St=St)(hwr:t.wrt=true)(h0:0≤t.nr)(h1:t.nr≤1000000000)(hrk:r.cont.length≤kc)(hN9:s.N≤999999999)
  (hfit:qD6 r+r.news+Maps.size D*kc+qD6 nw+2≤N):
  Calls prog 31 #[.pointer (some ⟨x,0,none⟩)] w fun e w'=>e=.returned .nilIface∧∃ s' l' wr' nt,Shop w' kc db St A C N nM s' (D.del (υ t.nr)) l' wr' nt∧nt.cont=r.cont∧s'.N≤s.N+2∧s'.bg=s.bg∧s'.wr=(s.left t.nr).wr∧s'.V=s.V∧s'.M=s.M∧w'.heap[x]?=some (ψ t.ended)∧Kp [St,x,s.M,A,C] w w'∧∀ y rb rs r0,Maps.has (D.del (υ t.nr)) (υ y)=true→(∀ zd,(D.del (υ t.nr)).atKey (υ y) zd=qD5 ⟨⟨#[]⟩,rb,rs,none⟩)→Lie N l rb rs r0→Lie N l' rb rs r0:=by
 have htd:=hS.hM.tidy qK7;have hsd:=Maps.size_del (k:=υ t.nr) htd;have hle:Maps.size (D.del (υ t.nr))≤Maps.size D:=by omega
 have hdl:∀ k,Maps.has (D.del (υ t.nr)) k=true→Maps.has D k=true∧∀ zd,(D.del (υ t.nr)).atKey k zd=D.atKey k zd:=fun k hk=>by
  by_cases e:k=υ t.nr
  ·rw[e,Maps.has_del_same] at hk;cases hk
  ·rw[Maps.has_del_other e] at hk;exact⟨hk,fun zd=>Maps.atKey_del_other e zd⟩
 have hgo:(∀ W:World,Sem.run prog (Op.equalIn 10000 89 (ρ s.V t.h) (ρ s.V ⟨⟨#[]⟩,s.rb,s.rs,none⟩)) W=.ok false W)→Calls prog 31 #[.pointer (some ⟨x,0,none⟩)] w fun e w'=>e=.returned .nilIface∧∃ s' l' wr' nt,Shop w' kc db St A C N nM s' (D.del (υ t.nr)) l' wr' nt∧nt.cont=r.cont∧s'.N≤s.N+2∧s'.bg=s.bg∧s'.wr=(s.left t.nr).wr∧s'.V=s.V∧s'.M=s.M∧w'.heap[x]?=some (ψ t.ended)∧Kp [St,x,s.M,A,C] w w'∧∀ y rb rs r0,Maps.has (D.del (υ t.nr)) (υ y)=true→(∀ zd,(D.del (υ t.nr)).atKey (υ y) zd=qD5 ⟨⟨#[]⟩,rb,rs,none⟩)→Lie N l rb rs r0→Lie N l' rb rs r0:=fun heq=>by
  refine (zW7 hS x t r hL hst hwr h0 h1 heq hrk hN9 hdl (by have:=hS.m4;omega) (by have:=Nat.mul_le_mul_right kc hle;omega)).mono ?_;rintro e w' ⟨e0,s',l',nt,c1,c2,c3,c4⟩;exact⟨e0,s',l',_,nt,c1,c2,by omega,c4⟩
 cases hp:t.h.p with
 | some q=>exact hgo (fun W=>zJ4 s.V q t.h s.rb s.rs hp hL.key W)
 | none=>
  by_cases he:t.h.b=s.rb∧t.h.s=s.rs
  ·have heq:∀ W:World,Sem.run prog (Op.equalIn 10000 89 (ρ s.V t.h) (ρ s.V ⟨⟨#[]⟩,s.rb,s.rs,none⟩)) W=.ok true W:=fun W=>by rw[zL8 s.V t.h s.rb s.rs hp hL.key W];simp[he]
   have hlie:Lie N l s.rb s.rs r:=by
    have h:=LiveT.lie (E':=hS.E) hL hp;rw[he.1,he.2] at h;exact h
   subst hst;obtain⟨cA,hA⟩:=hS.hA;have hMS:s.M≠t.St:=(qE5 hS.hSt hS.hM).symm;have hxM:x≠s.M:=qE5 hL.hx hS.hM;have hoff:OffD w [t.St,x,s.M]:=(OffD.one hL.hSt (by decide)).cons ((OffD.one hL.hx (by decide)).cons (fun k hk c ty fr e=>by rw[List.mem_singleton.1 hk] at e;exact absurd rfl (qE5 e hS.hM)));obtain⟨n1,n2,n3,n4⟩:=hS.neDb;refine (zR9 x nM s.V t s D [] (fun W w1=>Kp [] W w1) w hL.hx hL.over hS.hSt hS.po hS.hM h0 h1 hMS hL.xS hxM hS.hM.lt hL.on hwr (by simp) ?_).mono ?_
   ·intro W hK hx' hS' hM';refine (xW2 t.St (s.left t.nr) t.h W hS' heq).mono ?_;rintro e w1 ⟨rfl,hK1⟩;exact⟨rfl,⟨_,hK1.hp hS'⟩,hK1,hK1.mono (by simp)⟩
   ·rintro e w' ⟨rfl,hKw,W,w1,B,s',hK,hx',hS',hM',hR,_,hs1,hs2,hB0,hB1,hKB⟩;have hse:s'=s.left t.nr:=by
     rw[hR.hp hS'] at hs1;exact (zQ0 (Option.some.inj hs1)).symm
    rw[hse] at hs2 hs1;have hxs:=ζ hL.hx;have hMs:=hS.hM.lt;refine⟨rfl,s.left t.nr,l,wr,nw,?_,(Lie.one hS.N1 hS.lie hlie).1,by show s.N≤s.N+2;omega,rfl,rfl,rfl,rfl,hKB.heap (hR.hp hx') (by simp[hL.xS];omega),hKw.mono (by intro i hi _;simp at hi ⊢;omega),fun _ _ _ _ _ _ h=>h⟩;refine hS.turn hKw (by simp[n1,n4];exact qC2 hS.hDb hL.hx (by decide)) (qL6 (qL6 (qL6 hS.dev hK hoff) hR (by intro k hk;cases hk)) hKB (qS6 hs1 hB1)) ⟨rfl,rfl,rfl,rfl,rfl,rfl⟩ hs2 ((hM'.kp hR (by simp)).kp hKB (by simp[hMS];omega)) (by have:=hS.m4;omega) hS.n1 hS.bg0 (fun k hk=>hS.kb k (hdl k hk).1) (fun y h g1 g2 g3=>?_);obtain⟨f1,f2⟩:=hdl _ g1;exact hS.rd y h f1 (fun zd=>(f2 zd).symm.trans (g2 zd)) g3
  ·exact hgo (fun W=>by rw[zL8 s.V t.h s.rb s.rs hp hL.key W];simp[he])
end
def qP1:ByteArray:=⟨#[255,255,255,255,255,255,255,255,255]⟩
def qB6(ps:List KV):List KV:=qF1 ps ⟨#[]⟩ qP1 1048576
theorem BadT.tail{E:SEnv}{w w' w2:World}{t:Tx}{s:Sto}(h:BadT E w w' t s)(hK:Kp [] w' w2):BadT E w w2 t s:=
 ⟨(Env.To.of0 h.dev hK).dev,hK.hp h.hSt,h.kp.tr hK⟩
theorem qX9(E:SEnv)(x A n:Nat)(t:Tx)(s:Sto)(r:Root)(w:World)(hL:LiveT E w x A n t s r):
  Calls prog 32 #[.pointer (some ⟨x,0,none⟩)] w fun e w'=>∃ v,e=.returned (.tuple #[v,.bool true])∧OPA w' w.heap.size v (qB6 r.cont)∧BadT E w w' t s:=by
 have HC:Hid (Calls prog 71 #[.pointer (some ⟨x,0,none⟩),.string ⟨#[]⟩,.string ⟨#[255,255,255,255,255,255,255,255,255]⟩,.int .i64 1048576] w fun e w'=>∃ v,e=.returned (.tuple #[v,.nilIface])∧OPA w' w.heap.size v (qB6 r.cont)∧BadT E w w' t s):=xO3 E x A n t s r ⟨#[]⟩ qP1 1048576 w hL (by decide) (by decide);clear hL;go_enter func32,ntmps32;go_wp2_with fail;refine (show Calls _ _ _ _ _ from HC.out).mono ?_;rintro e w1 ⟨v,rfl,ho,hb⟩;have HE:Hid (OPA w1 w.heap.size v (qB6 r.cont)∧BadT E w w1 t s):=⟨ho,hb⟩;clear ho hb HC;go_wp2_with fail
 go_quiet (fail)
 go_wp2
 go_ret2
 exact⟨v,rfl,HE.out.1.keep ((Kp.refl [] w1).drewN _) (by simp),HE.out.2.tail ((Kp.refl [] w1).drewN _)⟩
theorem Slc.pairT{T:TypeId}{w:World}{v:Value}{ps:List KV}(h:Slc w T 2 v ps.length (qA6 ps))(hn:1≤ps.length):
  ∃ g off cap cur fr,v=.slice (some ⟨g,off,none⟩) ps.length cap∧ps.length≤cap∧w.heap[g]?=some (.cells cur T fr)∧∀ i (h:i<ps.length),cur[off+i*2]?=some (.string ps[i].k)∧cur[off+i*2+1]?=some (.string ps[i].v):=by
 rcases h.val with⟨h0,_⟩|⟨g,off,cap,cur,fr,h1,h2,h3,h4,h5⟩
 ·omega
 ·exact⟨g,off,cap,cur,fr,h1,h3,h4,fun i hi=>⟨h5 _ _ (qY4 hi).1,h5 _ _ (qY4 hi).2⟩⟩
theorem zB1(ba bb:Nat)(va vb:Value)(ps:List KV)(w:World)(ha:OPA w ba va ps)(hb:OPA w bb vb ps)(hn:ps.length≤1000000):
  Calls prog 33 #[va,vb] w fun e w'=>e=.returned (.bool true)∧Kp [] w w':=by
 have sa:=qG7 ha;have sb:=qG7 hb;obtain⟨abs,acp,rfl⟩:=qK0 ha;obtain⟨bbs,bcp,rfl⟩:=qK0 hb;obtain⟨ln,hln⟩:∃ ln,ln=ps.length:=⟨_,rfl⟩;have HA:Hid (Slc w 42 2 (.slice abs ln acp) ps.length (qA6 ps)):=by rw[hln];exact sa
 have HB:Hid (Slc w 42 2 (.slice bbs ln bcp) ps.length (qA6 ps)):=by rw[hln];exact sb
 have HLN:=zh hln;rw[←hln] at hn ⊢;clear ha hb sa sb hln;go_enter func33,ntmps33;go_wp2_with fail
 go_loopw [5] (fun i wr=>∃ (j:Nat),j≤ln∧i=.int .i64 j∧Hid (Kp [] w wr)) (fun i _=>ln-(intOf i).toNat)
 case atStart=>exact⟨0,Nat.zero_le _,rfl,Kp.refl _ _⟩
 case round=>
  obtain⟨j,hj,rfl,HK⟩:=hrel;by_cases hlt:j<ln
  ·have hjb:(j:Int)<(ln:Int):=by omega
   have hjp:j<ps.length:=by have:=HLN.out;omega
   obtain⟨ga,oa,ca,cua,fra,e1,e2,e3,e4⟩:=(HA.out.keep0 HK.out).pairT (by omega);obtain⟨gb,ob,cb,cub,frb,f1,f2,f3,f4⟩:=(HB.out.keep0 HK.out).pairT (by omega);cases e1;cases f1;have a0:=ξ e3 (oa+j*2);rw[(e4 j hjp).1] at a0;have a1:=ξ e3 (oa+j*2+1);rw[(e4 j hjp).2] at a1;have b0:=ξ f3 (ob+j*2);rw[(f4 j hjp).1] at b0;have b1:=ξ f3 (ob+j*2+1);rw[(f4 j hjp).2] at b1;have hga:=ζ e3;have hgb:=ζ f3;clear e3 f3 e4 f4;go_wp2_with fail
   go_quiet (fail)
   go_wp2;exact⟨⟨j+1,by omega,by go_num,HK.out.drewN _⟩,by simp[intOf];omega⟩
  ·have hjb:¬(j:Int)<(ln:Int):=by omega
   go_wp2;go_ret;exact⟨rfl,HK.out⟩
section
variable {w:World} {kc db St A C N nM:Nat} {s:Sto} {D:DataW Unit} {l:List UInt8} {wr:Int} {nw:Root}
theorem zF5(hS:Shop w kc db St A C N nM s D l wr nw)(h4:Maps.size D<4)(hnM:nM≤999999)(hbg:s.bg≤100000000)(hwb:s.wr≤s.bg):
  Calls prog 30 #[.pointer (some ⟨db,0,none⟩)] w fun e w'=>∃ v,e=.returned (.tuple #[v,.bool true])∧OPA w' w.heap.size v (qB6 nw.cont)∧Shop w' kc db St A C N (nM+1) s.read ((D.put (υ (s.bg+1)) (qD5 ⟨⟨#[]⟩,s.rb,s.rs,none⟩)).del (υ (s.bg+1))) l wr nw∧Kp [St,s.M,A] w w':=by
 have HB:Hid (Calls prog 29 #[.pointer (some ⟨db,0,none⟩),.bool false] w fun e w'=>∃ x t D',e=.returned (.tuple #[.pointer (some ⟨x,0,none⟩),.nilIface])∧w.heap.size≤x∧t.St=St∧t.nr=s.bg+1∧t.wrt=false∧t.ch=0∧Kp [St,s.M] w w'∧D'=D.put (υ (s.bg+1)) (qD5 ⟨⟨#[]⟩,s.rb,s.rs,none⟩)∧∃ hS':Shop w' kc db St A C N (nM+1) s.read D' l wr nw,LiveT hS'.E w' x A N t s.read nw):=hS.beginR h4 hnM hbg;have hbg0:=hS.bg0;obtain⟨cA,hA⟩:=hS.hA;have hAs:=ζ hA;clear hS hA;go_enter func30,ntmps30;go_wp2_with fail;refine (show Calls _ _ _ _ _ from HB.out).mono ?_;rintro e w1 ⟨x,t,D',rfl,hx,ht1,ht2,ht3,ht4,hK1,rfl,hS1,hL1⟩;have HALL:Hid (Calls prog 32 #[.pointer (some ⟨x,0,none⟩)] w1 fun e w'=>∃ v,e=.returned (.tuple #[v,.bool true])∧OPA w' w1.heap.size v (qB6 nw.cont)∧BadT hS1.E w1 w' t s.read):=qX9 hS1.E x A N t s.read nw w1 hL1;have HL1:=zh hL1;have HS1:=zh hS1;have HK1:=zh hK1;have hs1:=hK1.size;clear hL1 hK1 HB;go_wp2_with fail;refine (show Calls _ _ _ _ _ from HALL.out).mono ?_;rintro e w2 ⟨v,rfl,ho2,hb2⟩;have hL2:=HL1.out.stay hb2;have hK2:Kp [St,x,A] w1 w2:=hb2.kp.mono (by
  intro i hi _;rw[ht1] at hi;rcases List.mem_cons.1 hi with h|h
  ·simp[h]
  ·have h':i∈[A]:=h;simp at h';simp[h'])
 have hS2:=HS1.out.quiet HL1.out.hx hK2 hb2.dev (by have:=hb2.hSt;rw[ht1] at this;exact this);have HAB:Hid (Calls prog 36 #[.pointer (some ⟨x,0,none⟩)] w2 fun e w'=>e=.returned .nilIface∧w'.heap[x]?=some (ψ t.ended)∧Shop w' kc db St A C N (nM+1) (s.read.left t.nr) ((D.put (υ (s.bg+1)) (qD5 ⟨⟨#[]⟩,s.rb,s.rs,none⟩)).del (υ t.nr)) l wr nw∧Kp [St,x,s.M] w2 w'):=hS2.abort hL2 ht1 (by omega) (by omega);have HO2:=zh ho2;have HK2:Hid (Kp [St,s.M,A] w w2):=(HK1.out.mono (by simp +contextual)).trans hK2 (by intro i hi hlt;simp at hi ⊢;omega);have HN:Hid (∀ k∈[St,x,s.M],∀ c fr,w2.heap[k]?≠some (.cells c 42 fr)):=by
  show ∀ k∈[St,x,s.M],∀ c fr,w2.heap[k]?≠some (.cells c 42 fr);intro k hk c fr e;simp only[List.mem_cons,List.not_mem_nil,or_false] at hk;rcases hk with rfl|rfl|rfl
  ·rw[hS2.hSt] at e;simp[ν] at e
  ·rw[hL2.hx] at e;simp[ψ] at e
  ·exact absurd rfl (qE5 e hS2.hM)
 obtain⟨ob,oc,rfl⟩:=qK0 ho2;obtain⟨sl,hsl⟩:∃ sl,sl=(qB6 nw.cont).length:=⟨_,rfl⟩;rw[←hsl] at HO2 ⊢;clear ho2 hb2 hL2 hK2 hS2 HALL hsl;go_wp2_with fail;refine (show Calls _ _ _ _ _ from HAB.out).mono ?_;rintro e w3 ⟨rfl,_,hS3,hK3⟩;have HE:Hid (OPA w3 w.heap.size (.slice ob sl oc) (qB6 nw.cont)∧Shop w3 kc db St A C N (nM+1) s.read ((D.put (υ (s.bg+1)) (qD5 ⟨⟨#[]⟩,s.rb,s.rs,none⟩)).del (υ (s.bg+1))) l wr nw∧Kp [St,s.M,A] w w3):=by
  refine⟨qH5 (OPA.keep HO2.out hK3 HN.out) (by omega),?_,HK2.out.trans hK3 (by intro i hi hlt;simp at hi ⊢;omega)⟩;have e:s.read.left t.nr=s.read:=by
   have hne:¬t.nr=s.read.wr:=by show ¬t.nr=s.wr;omega
   simp[Sto.left,if_neg hne]
  rw[e,ht2] at hS3;exact hS3
 clear hS3 hK3 HAB;go_wp2_with fail
 go_quiet (fail)
 go_wp2
 go_ret2
 obtain⟨e1,e2,e3⟩:=HE.out;have hd:=(Kp.refl [] w3).drewN nq;exact⟨_,rfl,e1.keep hd (by simp),e2.turn (hd.mono (S':=[]) (by simp)) (by simp) (qL6 e2.dev hd (by intro k hk;cases hk)) ⟨rfl,rfl,rfl,rfl,rfl,rfl⟩ (hd.hp e2.hSt) (e2.hM.kp hd (by simp)) e2.m4 e2.n1 e2.bg0 e2.kb e2.rd,e3.tr hd⟩
end
section
variable {w:World} {kc db St A C N nM:Nat} {s:Sto} {D:DataW Unit} {l:List UInt8} {wr:Int} {nw:Root}
structure Wrt(w:World)(kc db St A C N nM:Nat)(s:Sto)(D:DataW Unit)(l:List UInt8)(wr:Int)(nw:Root)(x:Nat)(t:Tx)(r:Root)(nr:Int):Prop where
 shop:Shop w kc db St A C N nM s D l wr nw
 live:LiveT shop.E w x A N t s r
 st:t.St=St
 nr:t.nr=nr
 wrt:t.wrt=true
theorem Wrt.stay{x:Nat}{t:Tx}{r:Root}{nr:Int}(h:Wrt w kc db St A C N nM s D l wr nw x t r nr){w':World}(hb:BadT h.shop.E w w' t s):Wrt w' kc db St A C N nM s D l wr nw x t r nr∧Kp [St,A] w w':=by
 have hK:Kp [St,A] w w':=hb.kp.mono (by
  intro i hi _;rw[h.st] at hi;rcases List.mem_cons.1 hi with h|h
  ·simp[h]
  ·have h':i∈[A]:=h;simp at h';simp[h'])
 have hS:=h.shop.quiet h.live.hx (hK.mono (by simp +contextual)) hb.dev (by have:=hb.hSt;rw[h.st] at this;exact this);exact⟨⟨hS,h.live.stay hb,h.st,h.nr,h.wrt⟩,hK⟩
theorem Wrt.turn{x:Nat}{t:Tx}{r:Root}{nr:Int}(h:Wrt w kc db St A C N nM s D l wr nw x t r nr){w':World}{t':Tx}{r':Root}(hl:LiveT h.shop.E w' x A N t' s r')(e1:t'.St=t.St)(e2:t'.nr=t.nr)(e3:t'.wrt=t.wrt)(hk:Kp (t.St::x::h.shop.E.S) w w'):Wrt w' kc db St A C N nM s D l wr nw x t' r' nr∧Kp [St,x,A] w w':=by
 have hK:Kp [St,x,A] w w':=hk.mono (by
  intro i hi _;rw[h.st] at hi;rcases List.mem_cons.1 hi with h|hi
  ·simp[h]
  ·rcases List.mem_cons.1 hi with h|h
   ·simp[h]
   ·have h':i∈[A]:=h;simp at h';simp[h'])
 have hS:=h.shop.quiet h.live.hx hK hl.dev (by have:=hl.hSt;rw[e1,h.st] at this;exact this);exact⟨⟨hS,hl,e1.trans h.st,e2.trans h.nr,e3.trans h.wrt⟩,hK⟩
theorem Wrt.chd{x:Nat}{t:Tx}{r:Root}{nr:Int}(h:Wrt w kc db St A C N nM s D l wr nw x t r nr){w':World}{t':Tx}{r':Root}{j:Nat}(hc:Chd h.shop.E w x A N t s r j w' t' r'):Wrt w' kc db St A C N nM s D l wr nw x t' r' nr∧Kp [St,x,A] w w':=
 h.turn hc.live hc.st hc.nr hc.wrt hc.kp
theorem zL1(hS:Shop w kc db St A C N nM s D l wr nw)(hw:s.wr=0)(hbg:s.bg≤100000000)(a:Int)(ha0:-9223372036854775808≤a)(ha1:a≤9223372036854775807)(m:Nat)(hm:m≤1000)
  (hroom:∀ r':Root,RGood r'→r'.cont.length≤nw.cont.length+m→(r'.news:Int)≤(N:Int)-2-s.bl):
  Calls prog 19 #[.pointer (some ⟨db,0,none⟩),.int .i64 a,.int .i64 m] w fun e w'=>∃ x t r v,e=.returned (.tuple #[.pointer (some ⟨x,0,none⟩),v])∧w.heap.size≤x∧OPA w' w.heap.size v (qB6 r.cont)∧r.cont.length≤nw.cont.length+m∧t.ch≤(m:Int)∧(∀ p∈nw.cont,p.k=qE7→p∈r.cont)∧Kp [St,A] w w'∧Wrt w' kc db St A C N nM s.wrote D l wr nw x t r (s.bg+1):=by
 have HB:Hid (Calls prog 29 #[.pointer (some ⟨db,0,none⟩),.bool true] w fun e w'=>∃ x t,e=.returned (.tuple #[.pointer (some ⟨x,0,none⟩),.nilIface])∧w.heap.size≤x∧t.St=St∧t.nr=s.bg+1∧t.wrt=true∧t.ch=0∧Kp [St] w w'∧∃ hS':Shop w' kc db St A C N nM s.wrote D l wr nw,LiveT hS'.E w' x A N t s.wrote nw):=hS.beginW hw hbg;have HROOM:=zh hroom;have hsz:=hS.sz;have hkc:=hS.kc1;clear hS hroom;go_enter func19,ntmps19;go_wp2_with fail;refine (show Calls _ _ _ _ _ from HB.out).mono ?_;rintro e w1 ⟨x,t,rfl,hx,ht1,ht2,ht3,ht4,hK1,hS1,hL1⟩;have HW1:Hid (Wrt w1 kc db St A C N nM s.wrote D l wr nw x t nw (s.bg+1)):=⟨hS1,hL1,ht1,ht2,ht3⟩;have HC:Hid (Calls prog 44 #[.pointer (some ⟨x,0,none⟩),.int .i64 a,.int .i64 m,.int .i64 20] w1 fun e w'=>e=.returned (.bool true)∧∃ t' r',Chd HW1.out.shop.E w1 x A N t s.wrote nw m w' t' r'):=xL8 hS1.E x A N t s.wrote nw a m w1 hL1 ht3 ha0 ha1 hm (by omega) (by omega) HROOM.out;have HK1:=zh hK1;have hs1:=hK1.size;clear hS1 hL1 hK1 HB;go_wp2_with fail;refine (show Calls _ _ _ _ _ from HC.out).mono ?_;rintro e w2 ⟨rfl,t',r',hc⟩;obtain⟨hW2,hK2⟩:=HW1.out.chd hc;have HALL:Hid (Calls prog 32 #[.pointer (some ⟨x,0,none⟩)] w2 fun e w'=>∃ v,e=.returned (.tuple #[v,.bool true])∧OPA w' w2.heap.size v (qB6 r'.cont)∧BadT hW2.shop.E w2 w' t' s.wrote):=qX9 hW2.shop.E x A N t' s.wrote r' w2 hW2.live;have HW2:=zh hW2;have HLE:Hid (r'.cont.length≤nw.cont.length+m∧t'.ch≤(m:Int)∧∀ p∈nw.cont,p.k=qE7→p∈r'.cont):=⟨hc.len,by have:=hc.ch;omega,hc.keep⟩;have HK2:Hid (Kp [St,A] w w2):=(HK1.out.mono (by simp)).trans hK2 (by intro i hi hlt;simp at hi ⊢;omega);have hs2:=hK2.size;clear hc hK2 HC;go_wp2_with fail;refine (show Calls _ _ _ _ _ from HALL.out).mono ?_;rintro e w3 ⟨v,rfl,ho,hb⟩;obtain⟨hW3,hK3⟩:=HW2.out.stay hb;have HE:Hid (OPA w3 w.heap.size v (qB6 r'.cont)∧r'.cont.length≤nw.cont.length+m∧t'.ch≤(m:Int)∧(∀ p∈nw.cont,p.k=qE7→p∈r'.cont)∧Kp [St,A] w w3∧Wrt w3 kc db St A C N nM s.wrote D l wr nw x t' r' (s.bg+1)):=⟨qH5 ho (by omega),HLE.out.1,HLE.out.2.1,HLE.out.2.2,HK2.out.tr hK3,hW3⟩;obtain⟨ob,oc,rfl⟩:=qK0 ho;obtain⟨sl,hsl⟩:∃ sl,sl=(qB6 r'.cont).length:=⟨_,rfl⟩;rw[←hsl] at HE ⊢;clear ho hb hW3 hK3 hW2 HALL hsl;go_wp2
 go_ret2
 exact⟨x,t',r',_,rfl,hx,HE.out⟩
end
theorem zN0{n:Nat}{l:Lnk (Tn n)}{W:List (Lnk (Tn n))}(hW:Row0 n l.key W)(hM:Made n l 0 W)(hd:min n 1<cnt n l.sub):∃ m L,qE6 n W=.at m L∧L.ref=none:=by
 rcases hM with⟨a,rfl,e1,e2,e3⟩|⟨a,b,rfl,e1,e2,e3,e4,e5⟩
 ·have e:qE6 n [a]=qQ7 n a:=rfl;rw[e]
  cases n with
  | zero=>
   have hc:0<(prs a.sub).length:=by
    have h1:0<(prs l.sub).length:=hd;have h2:(prs l.sub).length≤(prs a.sub).length+0:=e3;omega
   refine⟨0,a,?_,e2⟩;show (match prs a.sub with | []=>Root.none | _::_=>.at 0 a)=_
   cases hp:prs a.sub with
   | nil=>rw[hp] at hc;simp at hc
   | cons x r=>rfl
  | succ n=>
   have hc:(η l.sub).length≤(η a.sub).length+0:=e3;have hc2:1<(η l.sub).length:=by have h2:min (n+1) 1<(η l.sub).length:=hd;omega
   refine⟨n+1,a,?_,e2⟩;show (match η a.sub with | []=>Root.none | [m]=>.at n m | _::_::_=>.at (n+1) a)=_
   cases hp:η a.sub with
   | nil=>rw[hp,List.length_nil] at hc;omega
   | cons x r=>
    cases r with
    | nil=>rw[hp,List.length_cons,List.length_nil] at hc;omega
    | cons y r=>rfl
 ·have h2:meas qA1 [a,b]≤126:=by
   have:=(hW.all a (by simp)).2;have hb:=hW.all b (by simp);simp[meas,qA1];omega
  have e:qD0 n ⟨#[]⟩ [a,b]=[⟨⟨#[]⟩,none,[a,b]⟩]:=by
   unfold qD0 qB2;rw[if_pos h2];rfl
  refine⟨n+1,⟨⟨#[]⟩,none,[a,b]⟩,?_,rfl⟩;show (match qD0 n ⟨#[]⟩ [a,b] with | []=>Root.none | r::_=>qQ7 (n+1) r)=_;rw[e];rfl
theorem xT1{r:Root}{p:KV}(h:RGood r)(hp:qC5 p):∃ m L,r.put p=.at m L∧L.ref=none:=by
 cases r with
 | none=>
  have hs:Sorted [p]:=by simp[Sorted]
  have hz:(⟨#[]⟩:ByteArray).size≤8:=by decide
  obtain⟨r1,r2,r3⟩:=qS2 (lo:=⟨#[]⟩) (ps:=[p]) hs (fun q hq=>by rw[List.mem_singleton.1 hq];exact⟨hp,qO3 _⟩) (by obtain⟨h1,h2,h3⟩:=hp;simp[meas,μ];omega) hz;have hM:Made 0 ⟨⟨#[]⟩,none,[p]⟩ 0 (qD8 ⟨#[]⟩ [p]):=by
   rcases r3 with⟨a,e1,e2,e3,e4⟩|⟨a,b,e1,e2,e3,e4,e5,e6⟩
   ·exact .inl ⟨a,e1,e2,e3,by rw[e4];exact Nat.le_refl _⟩
   ·exact .inr ⟨a,b,e1,e2,e3,e4,e5,e6⟩
  exact zN0 (n:=0) (l:=(⟨⟨#[]⟩,none,[p]⟩:Lnk (List KV))) r1 hM (by show 0<1;omega)
 | «at» n l=>
  obtain⟨h1,h2,h3⟩:=h;obtain⟨w1,w2,w3⟩:=qU2 n l p h2 hp (by rw[h1];exact qO3 _) (by rw[h1];decide) (by omega);exact zN0 w1 w3 h3
theorem xJ3{E:Env}{w:World}{h:HL}{m:Nat}{L:Lnk (Tn m)}(hr:RR E w h (.at m L))(hn:L.ref=none):∃ q,h.p=some q:=by
 have h2:=hr.2;rw[hn] at h2;obtain⟨_,_,q,e,_⟩:=h2;exact⟨q,e⟩
def qJ5:ByteArray:=⟨#[111,102,32,97,108,108]⟩
theorem zQ8(p:KV)(l:List KV):p∈ins p l:=by simp[ins]
theorem zK2{ps:List KV}{p:KV}(h:p∈ps)(hp:inR ⟨#[]⟩ qP1 p=true):0<(qB6 ps).length:=by
 have h1:p∈ps.filter (inR ⟨#[]⟩ qP1):=List.mem_filter.2 ⟨h,hp⟩;have h2:0<(ps.filter (inR ⟨#[]⟩ qP1)).length:=List.length_pos_of_mem h1;unfold qB6 qF1;rw[List.length_take];have:(1048576:Int).toNat=1048576:=rfl;omega
theorem xB1(Z:Array Value)(n:Nat)(h:Z.size=n)(h0:∀ v∈Z.toList,v=.int .u8 0):Z=enc (List.replicate n 0):=by
 apply Array.ext';have e:Z.toList=List.replicate n (.int .u8 0):=List.eq_replicate_iff.2 ⟨by simpa using h,h0⟩;rw[e];simp[enc,qE2]
theorem xO0(m:Nat)(h:8≤m):Fresh (List.replicate (m*128) 0):=by
 have e0:min 128 (m*128-0*128)=128:=by omega
 have e1:min 128 (m*128-1*128)=128:=by omega
 exact⟨by rw[qB1,List.drop_replicate,List.take_replicate,e0];rfl,by rw[qB1,List.drop_replicate,List.take_replicate,e1];rfl⟩
theorem xA0{w:World}{kc db St V M A C N:Nat}{Nh:Int}{l:List UInt8}{calls wr:Int}(hA:w.heap[A]?=some (ι N C (.slice none 0 0) calls wr))(hV:w.heap[V]?=some (qB4 A N))(hM:w.heap[M]?=some (.map #[] 0))(hSt:w.heap[St]?=some (ν 0 (qI4 V M Nh)))(hDb:w.heap[db]?=some (.cells #[.pointer (some ⟨St,0,none⟩)] 102))(hC:w.heap[C]?=some (.cells (enc l) 115))(h8:8≤N)(h4:N≤400)(hl:l.length=N*128)(hk:kc≤900)(hN:0≤Nh):
  Shop w kc db St A C N 0 (qI4 V M Nh) (.map []) l wr .none:=
 { hDb:=hDb,hSt:=hSt,po:=rfl,hM:=⟨#[],0,hM,⟨by simp,MapKept.stamped_empty 0,by simp⟩,Nat.le_refl _,rfl⟩,m4:=by simp[Maps.size],n1:=by omega,dev:=⟨hV,⟨_,hA⟩,hC⟩,N8:=h8,N4:=h4,len:=hl,lie:=⟨rfl,rfl⟩,good:=trivial,sz:=by simp[Root.cont],kc1:=hk,bl0:=Int.le_refl _,bl1:=by simp[Root.cont,qI4],sN0:=hN,bg0:=Int.le_refl _,kb:=fun k hk=>by simp[Maps.has] at hk,rd:=fun x h hk=>by simp[Maps.has] at hk }
def emp:DataW Unit:=.map []
theorem jK0(k:Lit):emp.del k=emp:=by simp[emp,DataW.del]
theorem xZ6(n:Int)(v:DataW Unit):(emp.put (υ n) v).del (υ n)=emp:=by
 simp[emp,DataW.put,DataW.del,DataW.insert,υ,Lit.sameKey]
section
variable {w:World} {kc db St A C N nM:Nat} {s:Sto} {D:DataW Unit} {l:List UInt8} {wr:Int} {nw:Root}
theorem Wrt.put{x:Nat}{t:Tx}{r:Root}{nr:Int}(h:Wrt w kc db St A C N nM s D l wr nw x t r nr){w':World}{p:KV}{h':HL}(hF:FineT h.shop.E w w' x t s (r.put p) h')(hp:qC5 p)(hc:t.ch≤10000000)(hr:r.cont.length≤10000):Wrt w' kc db St A C N nM s D l wr nw x { t with h:=h',ch:=t.ch+1 } (r.put p) nr∧Kp [St,x,A] w w'∧(r.put p).cont=ins p r.cont∧∃ q,h'.p=some q:=by
 obtain⟨g1,g2⟩:=qL8 (p:=p) h.live.good hp;have hl:(r.put p).cont.length≤r.cont.length+1:=by rw[g2];exact qL5 _ _
 obtain⟨m,L,e1,e2⟩:=xT1 (p:=p) h.live.good hp;have hq:∃ q,h'.p=some q:=by
  have hrr:=hF.rr;rw[e1] at hrr;exact xJ3 hrr e2
 obtain⟨a1,a2⟩:=h.turn (t':={ t with h:=h',ch:=t.ch+1 }) (r':=r.put p) (h.live.next hF g1 (by omega) (by omega)) rfl rfl rfl hF.kp;exact⟨a1,a2,g2,hq⟩
end
theorem xI9(N kc:Nat)(h100:100≤N)(h400:N≤400)(hk1:100≤kc)(hk9:kc≤900)(a:Int)(ha0:-9223372036854775808≤a)(ha1:a≤9223372036854775807)(w:World):
  Calls prog 18 #[.int .i64 N,.int .i64 a] w fun e w'=>∃ db St A C s l wr nw v,e=.returned (.tuple #[.pointer (some ⟨A,0,none⟩),.pointer (some ⟨db,0,none⟩),v])∧Shop w' kc db St A C N 1 s emp l wr nw∧OPA w' w.heap.size v (qB6 nw.cont)∧s.wr=0∧s.bg=2∧s.N≤10∧nw.cont.length≤43∧(⟨qE7,qJ5⟩:KV)∈nw.cont∧w.heap.size≤A∧w.heap.size≤C∧w.heap.size≤St∧w.heap.size≤db∧w.heap.size≤s.M∧Kp [] w w':=by
 go_enter func18,ntmps18;go_wp2_with fail;refine (jA0 N w (by omega) (N:Int) (by omega) (by omega)).mono ?_;rintro e w1 ⟨rfl,Z,hZ,hZ0,hw1⟩;rw[xB1 Z _ hZ hZ0] at hw1;have hC1:w1.heap[w.heap.size]?=some (.cells (enc (List.replicate (N*128) 0)) 115):=by rw[hw1];exact θ _ (κ _ _)
 have hA1:w1.heap[w.heap.size+1]?=some (ι N w.heap.size (.slice none 0 0) 0 0):=by
  rw[hw1];have e:=κ (w.alloc (.cells (enc (List.replicate (N*128) 0)) 115)) (ι N w.heap.size (.slice none 0 0) 0 0);simpa using e
 have hK1:Kp [] w w1:=by rw[hw1];exact ((Kp.refl _ _).alloc _).alloc _
 clear hw1 hZ hZ0 Z;have HF:Hid (Calls prog 42 #[.pointer (some ⟨w.heap.size+1,0,none⟩)] w1 fun e w'=>e=.returned .nilIface∧w'.heap[w.heap.size+1]?=some (ι N w.heap.size (.slice none 0 0) (0+6) (0+2))∧w'.heap[w.heap.size]?=some (.cells (enc (qM4 (List.replicate (N*128) 0) 0)) 115)∧Kp [w.heap.size+1,w.heap.size] w1 w'):=
  jC4 (w.heap.size+1) N w.heap.size 0 0 (List.replicate (N*128) 0) 0 w1 hA1 (by omega) (by omega) (by omega) (by omega) (by omega) h400 hC1 (by simp) (by omega) (Or.inl ⟨xO0 N (by omega),rfl⟩) (by omega) (by omega) (by omega)
 have HK1:=zh hK1;clear hC1 hA1 hK1;go_wp2_with fail;refine (show Calls _ _ _ _ _ from HF.out).mono ?_;rintro e w2 ⟨rfl,hA2,hC2,hK2⟩;have hfl:(qM4 (List.replicate (N*128) 0) 0).length=N*128:=by rw[xB2 _ _ (by simp;omega)];simp
 have hfm:=xA5 (List.replicate (N*128) 0) 0 (by simp;omega) (by omega) (by omega) (by omega);obtain⟨l,hl⟩:∃ l,l=qM4 (List.replicate (N*128) 0) 0:=⟨_,rfl⟩;rw[←hl] at hC2 hfl hfm;have HK2:Hid (Kp [] w w2):=HK1.out.trans hK2 (by intro i hi hlt;simp at hi;omega);have HO:Hid (Calls prog 43 #[.pointer (some ⟨w.heap.size+1,0,none⟩)] w2 fun e w'=>∃ V M St Db,e=.returned (.tuple #[.pointer (some ⟨Db,0,none⟩),.nilIface])∧w2.heap.size≤V∧w2.heap.size≤M∧w2.heap.size≤St∧w2.heap.size≤Db∧
   w'.heap[w.heap.size+1]?=some (ι N w.heap.size (.slice none 0 0) (0+6+3) (0+2))∧w'.heap[V]?=some (qB4 (w.heap.size+1) N)∧w'.heap[M]?=some (.map #[] 0)∧w'.heap[St]?=some (ν 0 (qI4 V M (0+2)))∧w'.heap[Db]?=some (.cells #[.pointer (some ⟨St,0,none⟩)] 102)∧Kp [w.heap.size+1] w2 w'):=
  jC8 (w.heap.size+1) N w.heap.size (0+6) (0+2) l (0+2) w2 hA2 (by omega) (by omega) (by omega) h400 hC2 hfl (by omega) hfm
 have HC2:Hid (w2.heap[w.heap.size]?=some (.cells (enc l) 115)∧l.length=N*128):=⟨hC2,hfl⟩;clear hA2 hC2 hK2 hfl hfm hl HF;go_wp2_with fail;refine (show Calls _ _ _ _ _ from HO.out).mono ?_;rintro e w3 ⟨V,M,St,db,rfl,hV3,hM3,hS3,hD3,hA3,hVo,hMo,hSo,hDo,hK3⟩;have hs2:=HK2.out.size;have hshop:Shop w3 kc db St (w.heap.size+1) w.heap.size N 0 (qI4 V M (0+2)) emp l (0+2) .none:=xA0 hA3 hVo hMo hSo hDo (hK3.hp HC2.out.1) (by omega) h400 HC2.out.2 hk9 (by omega);have HS3:=zh hshop;have HK3:Hid (Kp [] w w3):=HK2.out.trans hK3 (by intro i hi hlt;simp at hi;omega);clear hA3 hVo hMo hSo hDo hK3 hshop HO HC2;go_wp2_with fail;refine (zI0 a 40 ha0 ha1 (by omega) (by omega) w3).mono ?_;rintro e w3' ⟨⟨k,rfl,hk0,hk40⟩,hw3⟩;rw[hw3];clear hw3 w3';obtain⟨m,hm⟩:∃ m:Nat,(m:Int)=3+k:=⟨(3+k).toNat,by omega⟩;have hwr3:wrap64 (3+k)=(m:Int):=by simp only[wrap64];omega
 have HW:Hid (Calls prog 19 #[.pointer (some ⟨db,0,none⟩),.int .i64 a,.int .i64 m] w3 fun e w'=>∃ x t r v,e=.returned (.tuple #[.pointer (some ⟨x,0,none⟩),v])∧w3.heap.size≤x∧OPA w' w3.heap.size v (qB6 r.cont)∧r.cont.length≤m∧t.ch≤(m:Int)∧Kp [St,w.heap.size+1] w3 w'∧Wrt w' kc db St (w.heap.size+1) w.heap.size N 0 (qI4 V M (0+2)).wrote emp l (0+2) .none x t r (0+1)):=by
  have h:=zL1 HS3.out rfl (by show (0:Int)≤_;omega) a ha0 ha1 m (by omega) (fun r' hg hz=>by
   have h1:=qS9 hg;have hz':r'.cont.length≤0+m:=hz;have h3:((qI4 V M (0+2)).bl:Int)=0:=rfl;rw[h3];omega)
  refine h.mono ?_;rintro e w' ⟨x,t,r,v,c1,c2,c3,c4,c5,_,c6,c7⟩;have c4':r.cont.length≤0+m:=c4;exact⟨x,t,r,v,c1,c2,c3,by omega,c5,c6,c7⟩
 clear hwr3;rw[hm] at HW;have HM:=zh hm;clear hm;go_wp2_with fail;refine (show Calls _ _ _ _ _ from HW.out).mono ?_;rintro e w4 ⟨x,t,r,v0,rfl,hx4,_,hr4,hc4,hK4,hW4⟩;have hm:=HM.out;have hp:qC5 ⟨qE7,qJ5⟩:=⟨by decide,by decide,by decide⟩;have HP:Hid (Calls prog 34 #[.pointer (some ⟨x,0,none⟩),.string ⟨#[102,105,114,115,116]⟩,.string ⟨#[111,102,32,97,108,108]⟩] w4 fun e w'=>e=.returned .nilIface∧∃ h',FineT hW4.shop.E w4 w' x t (qI4 V M (0+2)).wrote (r.put ⟨qE7,qJ5⟩) h'):=by
  refine zX2 hW4.shop.E x _ N t _ r ⟨qE7,qJ5⟩ w4 hW4.live hW4.wrt hp ?_;obtain⟨g1,g2⟩:=qL8 (p:=⟨qE7,qJ5⟩) hW4.live.good hp;have h1:=qS9 g1;have h2:=qL5 ⟨qE7,qJ5⟩ r.cont;rw[g2] at h1;show _≤(N:Int)-2-0;omega
 have HW4:=zh hW4;have hs3:=HK3.out.size;have HK4:Hid (Kp [] w w4):=HK3.out.trans hK4 (by intro i hi hlt;simp at hi;omega);clear hK4 HW HS3;go_wp2_with fail;refine (show Calls _ _ _ _ _ from HP.out).mono ?_;rintro e w5 ⟨rfl,h',hF⟩;obtain⟨hW5,hK5,hcn,q,hq⟩:=hW4.put hF hp (by omega) (by omega);obtain⟨t5,ht5⟩:∃ t5:Tx,t5={ t with h:=h',ch:=t.ch+1 }:=⟨_,rfl⟩;rw[←ht5] at hW5;have hq5:t5.h.p=some q:=by rw[ht5];exact hq
 obtain⟨r5,hr5⟩:∃ r5,r5=r.put ⟨qE7,qJ5⟩:=⟨_,rfl⟩;rw[←hr5] at hW5 hcn;have hl5:r5.cont.length≤m+1:=by rw[hcn];have:=qL5 ⟨qE7,qJ5⟩ r.cont;omega
 have hin5:(⟨qE7,qJ5⟩:KV)∈r5.cont:=by rw[hcn];exact zQ8 _ _
 have hpos:0<(qB6 r5.cont).length:=by rw[hcn];exact zK2 (zQ8 _ _) (by kernel_rfl)
 have HALL:Hid (Calls prog 32 #[.pointer (some ⟨x,0,none⟩)] w5 fun e w'=>∃ v,e=.returned (.tuple #[v,.bool true])∧OPA w' w5.heap.size v (qB6 r5.cont)∧BadT hW5.shop.E w5 w' t5 (qI4 V M (0+2)).wrote):=qX9 hW5.shop.E x _ N t5 _ r5 w5 hW5.live;have hs4:=HK4.out.size;have HK5:Hid (Kp [] w w5):=HK4.out.trans hK5 (by intro i hi hlt;simp at hi;omega);have HW5:=zh hW5;clear hW4 hF hK5 hcn hq ht5 hr5 HP HW4 HK4;go_wp2_with fail;refine (show Calls _ _ _ _ _ from HALL.out).mono ?_;rintro e w6 ⟨v,rfl,ho6,hb6⟩;obtain⟨hW6,hK6⟩:=HW5.out.stay hb6;have hs5:=HK5.out.size;have HK6:Hid (Kp [] w w6):=HK5.out.trans hK6 (by intro i hi hlt;simp at hi;omega);have HC:Hid (Calls prog 31 #[.pointer (some ⟨x,0,none⟩)] w6 fun e w'=>e=.returned .nilIface∧∃ s' l' nt,Shop w' kc db St (w.heap.size+1) w.heap.size N 0 s' (emp.del (υ t5.nr)) l' (nx (nk (nx (0+2)) r5.news)) nt∧nt.cont=r5.cont∧s'.N=(0+2)+2∧s'.bg=0+1∧s'.wr=((qI4 V M (0+2)).wrote.left t5.nr).wr∧s'.V=V∧s'.M=M∧Kp [St,x,M,w.heap.size+1,w.heap.size] w6 w'):=by
  have h1:=qS9 hW6.live.good;have h2:=qT9 hW6.live.good;refine (hW6.shop.commit hW6.live hW6.st hW6.wrt (by rw[hW6.nr];omega) (by rw[hW6.nr];omega) hq5 (by omega) (by show (0+2:Int)≤_;omega) (by show _+_+0*kc+0+2≤N;omega)).mono ?_;rintro e w' ⟨c0,s',l',nt,c1,c2,c3,c4,c5,c6,c7,_,c8,_⟩;exact⟨c0,s',l',nt,c1,c2,c3,c4,c5,c6,c7,c8⟩
 have HO6:Hid (OPA w6 w.heap.size v (qB6 r5.cont)):=qH5 ho6 (by omega);have HN6:Hid (∀ k∈[St,x,M,w.heap.size+1,w.heap.size],∀ c fr,w6.heap[k]?≠some (.cells c 42 fr)):=by
  show ∀ k∈[St,x,M,w.heap.size+1,w.heap.size],∀ c fr,w6.heap[k]?≠some (.cells c 42 fr);intro k hk c fr e;obtain⟨cA,hA⟩:=hW6.shop.hA;simp only[List.mem_cons,List.not_mem_nil,or_false] at hk;rcases hk with rfl|rfl|rfl|rfl|rfl
  ·rw[hW6.shop.hSt] at e;simp[ν] at e
  ·rw[hW6.live.hx] at e;simp[ψ] at e
  ·exact absurd rfl (qE5 e hW6.shop.hM)
  ·rw[hA] at e;simp[ι] at e
  ·rw[hW6.shop.dev.hC] at e;simp at e
 have HNR:=zh hW6.nr;obtain⟨ob,oc,rfl⟩:=qK0 ho6;obtain⟨sl,hsl⟩:∃ sl,sl=(qB6 r5.cont).length:=⟨_,rfl⟩;rw[←hsl] at HO6 hpos ⊢;have HSL:=zh hsl;clear ho6 hb6 hW6 hK6 HALL HW5 HK5 hsl hW5;go_wp2_with fail;refine (show Calls _ _ _ _ _ from HC.out).mono ?_;rintro e w7 ⟨rfl,s',l',nt,hS7,e1,e2,e3,e4,e5,e6,hK7⟩;rw[jK0] at hS7;have hs6:=HK6.out.size;have hw7:s'.wr=0:=by rw[e4];show (if t5.nr=0+1 then 0 else _)=(0:Int);rw[if_pos HNR.out]
 have HO7:Hid (OPA w7 w.heap.size (.slice ob sl oc) (qB6 nt.cont)):=by rw[e1];exact OPA.keep HO6.out hK7 HN6.out
 have HK7:Hid (Kp [] w w7):=HK6.out.trans hK7 (by intro i hi hlt;simp at hi;omega);have HNOW:Hid (Calls prog 30 #[.pointer (some ⟨db,0,none⟩)] w7 fun e w'=>∃ v,e=.returned (.tuple #[v,.bool true])∧OPA w' w7.heap.size v (qB6 nt.cont)∧Shop w' kc db St (w.heap.size+1) w.heap.size N (0+1) s'.read ((emp.put (υ (s'.bg+1)) (qD5 ⟨⟨#[]⟩,s'.rb,s'.rs,none⟩)).del (υ (s'.bg+1))) l' (nx (nk (nx (0+2)) r5.news)) nt∧Kp [St,s'.M,w.heap.size+1] w7 w'):=zF5 hS7 (by show 0<4;omega) (by omega) (by omega) (by omega);have HN7:Hid (∀ k∈[St,s'.M,w.heap.size+1],∀ c fr,w7.heap[k]?≠some (.cells c 42 fr)):=by
  show ∀ k∈[St,s'.M,w.heap.size+1],∀ c fr,w7.heap[k]?≠some (.cells c 42 fr);intro k hk c fr e;obtain⟨cA,hA⟩:=hS7.hA;simp only[List.mem_cons,List.not_mem_nil,or_false] at hk;rcases hk with rfl|rfl|rfl
  ·rw[hS7.hSt] at e;simp[ν] at e
  ·exact absurd rfl (qE5 e hS7.hM)
  ·rw[hA] at e;simp[ι] at e
 have HNT:Hid (nt.cont.length≤43∧(qB6 nt.cont).length=sl∧(⟨qE7,qJ5⟩:KV)∈nt.cont):=⟨by rw[e1];omega,by rw[e1];exact HSL.out.symm,by rw[e1];exact hin5⟩;have HS':Hid (s'.N=0+2+2∧s'.bg=0+1∧s'.wr=0∧s'.M=M):=⟨e2,e3,hw7,e6⟩;clear hS7 e1 e2 e3 e4 e5 e6 hK7 HC HO6 HN6 HK6 hw7 hq5;go_wp2_with fail;refine (show Calls _ _ _ _ _ from HNOW.out).mono ?_;rintro e w8 ⟨v8,rfl,ho8,hS8,hK8⟩;rw[xZ6] at hS8;have hs7:=HK7.out.size;have HO8:Hid (OPA w8 w.heap.size (.slice ob sl oc) (qB6 nt.cont)):=OPA.keep HO7.out hK8 HN7.out;have HK8:Hid (Kp [] w w8):=HK7.out.trans hK8 (by intro i hi hlt;have:=HS'.out.2.2.2;simp at hi;omega);have hal:(qB6 nt.cont).length≤1000000:=by
  have h1:=HNT.out.1;have h2:(qB6 nt.cont).length≤nt.cont.length:=by
   unfold qB6 qF1;rw[List.length_take];have:=List.length_filter_le (inR ⟨#[]⟩ qP1) nt.cont;omega
  omega
 have HSAME:Hid (Calls prog 33 #[.slice ob sl oc,v8] w8 fun e w'=>e=.returned (.bool true)∧Kp [] w8 w'):=zB1 _ _ _ _ (qB6 nt.cont) w8 HO8.out ho8 hal;have HS8:=zh hS8;obtain⟨ob8,oc8,rfl⟩:=qK0 ho8;rw[HNT.out.2.1] at HSAME ⊢;clear ho8 hS8 hK8 HNOW HO7 HN7 HK7;go_wp2_with fail;refine (show Calls _ _ _ _ _ from HSAME.out).mono ?_;rintro e w9 ⟨rfl,hK9⟩;have HE:Hid (Shop w9 kc db St (w.heap.size+1) w.heap.size N 1 s'.read emp l' (nx (nk (nx (0+2)) r5.news)) nt∧OPA w9 w.heap.size (.slice ob sl oc) (qB6 nt.cont)∧Kp [] w w9):=by
  have e2:=HS8.out;exact⟨e2.turn hK9 (by simp) (qL6 e2.dev hK9 (by intro k hk;cases hk)) ⟨rfl,rfl,rfl,rfl,rfl,rfl⟩ (hK9.hp e2.hSt) (e2.hM.kp hK9 (by simp)) e2.m4 e2.n1 e2.bg0 e2.kb e2.rd,OPA.keep HO8.out hK9 (by simp),HK8.out.tr hK9⟩
 have hsl0:¬(sl:Int)=0:=by omega
 clear hK9 HSAME HO8 HK8 HS8;go_wp2
 go_ret3
 obtain⟨f1,f2,f3⟩:=HE.out;obtain⟨g1,g2,g3,g4⟩:=HS'.out;exact⟨db,St,w.heap.size+1,w.heap.size,s'.read,l',_,nt,_,rfl,f1,f2,g3,by show s'.bg+1=2;omega,by show s'.N≤10;omega,HNT.out.1,HNT.out.2.2,by omega,by omega,by omega,by omega,by show w.heap.size≤s'.M;rw[g4];omega,f3⟩
theorem Kp.zero{w w':World}(h:Kp [] w w')(h0:0<w.heap.size)(hg:w.cell? ⟨0,0,none⟩=some qN1):w'.cell? ⟨0,0,none⟩=some qN1:=by
 have e:=h.block 0 h0 (by simp);unfold World.cell? at hg ⊢;simp only at hg ⊢;rw[e];exact hg
section
variable {w:World} {kc db St A C N nM:Nat} {s:Sto} {D:DataW Unit} {l:List UInt8} {wr:Int} {nw:Root}
theorem Shop.nopair(hS:Shop w kc db St A C N nM s D l wr nw):∀ k∈[St,s.M,A,C],∀ c fr,w.heap[k]?≠some (.cells c 42 fr):=by
 intro k hk c fr e;obtain⟨cA,hA⟩:=hS.hA;simp only[List.mem_cons,List.not_mem_nil,or_false] at hk;rcases hk with rfl|rfl|rfl|rfl
 ·rw[hS.hSt] at e;simp[ν] at e
 ·exact absurd rfl (qE5 e hS.hM)
 ·rw[hA] at e;simp[ι] at e
 ·rw[hS.dev.hC] at e;simp at e
theorem Shop.more(hS:Shop w kc db St A C N nM s D l wr nw){w':World}(hK:Kp [] w w'):Shop w' kc db St A C N nM s D l wr nw:=
 hS.turn hK (by simp) (qL6 hS.dev hK (by intro k hk;cases hk)) ⟨rfl,rfl,rfl,rfl,rfl,rfl⟩ (hK.hp hS.hSt) (hS.hM.kp hK (by simp)) hS.m4 hS.n1 hS.bg0 hS.kb hS.rd
end
end Go.Proofs.YtdohpenfkdckiaaGreatDoor
namespace Go.Proofs.YtdohpenfkdckiaaGreatDoor
open Go.Proofs.Tryz
open Go.RowKit
open Go.Maps (Keyed)
theorem xR3(Tc x n V:Nat)(t:Tx)(s:Sto)(D:DataW Unit)(w:World)(hTc:w.heap[Tc]?=some (.cells #[.pointer (some ⟨x,0,none⟩)] 32))(hx:w.heap[x]?=some (ψ t))(hSt:w.heap[t.St]?=some (ν 1 s))(hM:RM w s.V s.M n D)(h0:0≤t.nr)(h1:t.nr≤1000000000)(hMS:s.M≠t.St)(hxS:x≠t.St)(hxM:x≠s.M)(hTM:Tc≠s.M)(hMs:s.M<w.heap.size)(hon:t.on=some ⟨V,0,none⟩)(hwr:t.wrt=false):
  Calls prog 68 #[.pointer (some ⟨Tc,0,none⟩)] w fun e w'=>e=qC1 none∧w'.heap[x]?=some (ψ t.ended)∧w'.heap[t.St]?=some (ν 1 (s.left t.nr))∧RM w' s.V s.M n (D.del (υ t.nr))∧Kp [t.St,x,s.M] w w':=by
 have hxs:=ζ hx;have hTs:=ζ hTc;have hSs:=ζ hSt;have hTx:Tc≠x:=qW4 hTc hx (by decide);have hTS:Tc≠t.St:=qW4 hTc hSt (by decide);have tc0:=ξ hTc 0;simp only[zG,zH,zI] at tc0;have x4:=ξ hx 4;have x5:=ξ hx 5;have x6:=ξ hx 6;have x7:=ξ hx 7;have x8:=ξ hx 8;simp only[ψ,zG,zH,zI] at x4 x5 x6 x7 x8;rw[hon] at x4;have HX:=zh hx;have HT:=zh hTc;have HS:=zh hSt;have HM:=zh hM;have HN:Hid (s.M≠t.St∧x≠t.St∧x≠s.M∧Tc≠s.M∧Tc≠x∧Tc≠t.St):=⟨hMS,hxS,hxM,hTM,hTx,hTS⟩;clear hx hTc hSt hM hMS hxS hxM hTM hTx hTS;go_enter func68,ntmps68;go_wp2_with fail;obtain⟨w0,hw0,hB0,hK0,hs0⟩:∃ w0,w0=w.alloc (.cells #[.pointer (some ⟨V,0,none⟩),.string t.h.key,.int .i64 t.h.b,.int .u64 t.h.s,.pointer t.h.ptr] 89)∧w0.heap[w.heap.size]?=some (.cells #[.pointer (some ⟨V,0,none⟩),.string t.h.key,.int .i64 t.h.b,.int .u64 t.h.s,.pointer t.h.ptr] 89)∧Kp [] w w0∧w0.heap.size=w.heap.size+1:=⟨_,rfl,κ _ _,(Kp.refl _ _).alloc _,by simp⟩;rw[←hw0];clear hw0 tc0 x4 x5 x6 x7 x8;obtain⟨n1,n2,n3,n4,n5,n6⟩:=HN.out;refine (zE8 x n t s D w0 (hK0.hp HX.out) (hK0.hp HS.out) (HM.out.kp hK0 (by simp)) h0 h1 n1 n2 n3).mono ?_;rintro e w1 ⟨rfl,hx1,hS1,hM1,hK1⟩;have hKw:Kp [t.St,x,s.M] w w1:=(hK0.mono (by simp)).trans hK1 (fun _ h _=>h);have hT1:=hKw.heap HT.out (by simp;exact⟨n6,n5,n4⟩);have hT1s:=ζ hT1;have hx1s:=ζ hx1;have tc0:=ξ hT1 0;simp only[zG,zH,zI] at tc0;have x2:=ξ hx1 2;simp only[ψ,Tx.ended,zG,zH,zI] at x2;rw[hwr] at x2;have HEND:Hid (w1.heap[x]?=some (ψ t.ended)∧w1.heap[t.St]?=some (ν 1 (s.left t.nr))∧RM w1 s.V s.M n (D.del (υ t.nr))∧Kp [t.St,x,s.M] w w1):=⟨hx1,hS1,hM1,hKw⟩;clear hKw hS1 hM1 hK1 hT1 hx1;go_wp2
 go_end0
 exact⟨rfl,HEND.out⟩
theorem zZ2(x n V:Nat)(t:Tx)(s:Sto)(D:DataW Unit)(w:World)(hx:w.heap[x]?=some (ψ t))(ho:t.over=false)(hSt:w.heap[t.St]?=some (ν 0 s))(hpo:s.po=false)(hM:RM w s.V s.M n D)(h0:0≤t.nr)(h1:t.nr≤1000000000)(hMS:s.M≠t.St)(hxS:x≠t.St)(hxM:x≠s.M)(hMs:s.M<w.heap.size)(hon:t.on=some ⟨V,0,none⟩)(hwr:t.wrt=false):
  Calls prog 31 #[.pointer (some ⟨x,0,none⟩)] w fun e w'=>e=.returned .nilIface∧w'.heap[x]?=some (ψ t.ended)∧w'.heap[t.St]?=some (ν 0 (s.left t.nr))∧RM w' s.V s.M n (D.del (υ t.nr))∧Kp [t.St,x,s.M] w w':=by
 have hmf:=zM;have hxs:=ζ hx;have hSs:=ζ hSt;go_enter func31,ntmps31;go_wp2_with fail;obtain⟨w0,hw0,hB0,hK0,hs0⟩:∃ w0,w0=w.alloc (.cells #[.pointer (some ⟨x,0,none⟩)] 32)∧w0.heap[w.heap.size]?=some (.cells #[.pointer (some ⟨x,0,none⟩)] 32)∧Kp [] w w0∧w0.heap.size=w.heap.size+1:=⟨_,rfl,κ _ _,(Kp.refl _ _).alloc _,by simp⟩;rw[←hw0];clear hw0;refine (qU9 none (by decide) x t.St 68 t s (s.left t.nr) #[] #[.pointer (some ⟨w.heap.size,0,none⟩)] _ [x,s.M] (fun W w1=>w1.heap[x]?=some (ψ t.ended)∧RM w1 s.V s.M n (D.del (υ t.nr))) w0 (hK0.hp hx) ho rfl (hK0.hp hSt) hpo hxS (zU1 _) (by intro i hi;simp at hi;omega) ?_).mono ?_
 ·intro W hK hS;have hKw:Kp [t.St] w W:=(hK0.mono (by simp)).trans hK (fun _ h _=>h);have hTne:w.heap.size≠t.St:=by omega
  refine (xR3 w.heap.size x n V t s D W (hK.heap hB0 (by simp;exact hTne)) (hKw.heap hx (by simp;exact hxS)) hS (hM.kp hKw (by simp;exact hMS)) h0 h1 hMS hxS hxM (by omega) (by have:=hKw.size;omega) hon hwr).mono ?_;rintro e w1 ⟨rfl,e1,e2,e3,e4⟩;exact⟨rfl,⟨e1,e3⟩,e4,e2⟩
 rintro e w2 ⟨v,rfl,hv,hSt2,hK2,W,w1,Bb,⟨ha,hb⟩,hKW,hB1,hB2,hB3,hKB⟩;have hv':v=.nilIface:=hv;subst hv';have HE:Hid (w2.heap[x]?=some (ψ t.ended)∧w2.heap[t.St]?=some (ν 0 (s.left t.nr))∧RM w2 s.V s.M n (D.del (υ t.nr))∧Kp [t.St,x,s.M] w w2):=⟨hKB.heap ha (by simp;exact⟨hxS,by omega⟩),hSt2,hb.kp hKB (by simp;exact⟨hMS,by omega⟩),(hK0.mono (by simp)).trans hK2 (fun _ h _=>h)⟩;clear hv ha hb hSt2 hK2 hKW hKB hB3 hMS hxS hxM;go_wp2;go_ret;exact⟨rfl,HE.out⟩
structure Rdr(w:World)(kc St N:Nat)(s:Sto)(D:DataW Unit)(l:List UInt8)(x:Nat)(t:Tx)(r:Root):Prop where
 hx:w.heap[x]?=some (ψ t)
 over:t.over=false
 on:t.on=some ⟨s.V,0,none⟩
 st:t.St=St
 h:∃ rb rs,t.h=⟨⟨#[]⟩,rb,rs,none⟩
 wrt:t.wrt=false
 ch:t.ch=0
 nr0:1≤t.nr
 nr1:t.nr≤s.bg
 has:Maps.has D (υ t.nr)=true
 at_:∀ zd,D.atKey (υ t.nr) zd=qD5 t.h
 lie:Lie N l t.h.b t.h.s r
 good:RGood r
 sz:r.cont.length≤kc
section
variable {w:World} {kc db St A C N nM:Nat} {s:Sto} {D:DataW Unit} {l:List UInt8} {wr:Int} {nw:Root}
theorem Rdr.live{x:Nat}{t:Tx}{r:Root}(hR:Rdr w kc St N s D l x t r)(hS:Shop w kc db St A C N nM s D l wr nw):LiveT hS.E w x A N t s r:=
 { hx:=hR.hx,over:=hR.over,on:=hR.on,hSt:=by rw[hR.st];exact hS.hSt,po:=hS.po,sV:=rfl,hV:=hS.dev.hV,n1:=hS.N1,bl0:=hS.bl0,bl1:=by have:=hS.bl1;have:=hS.sz;have:=hS.kc1;omega,dev:=hS.dev,vS:=by show s.V ∉ [A];simpa using hS.VA,rr:=by obtain⟨rb,rs,e⟩:=hR.h;have h:=hR.lie.rr hR.good (V:=s.V) (A:=A) (C:=C) (wr:=wr) (hN:=hS.N1) (hs:=hS.len) (hAC:=hS.AC) (hVA:=hS.VA) w;rw[e] at h ⊢;exact h,good:=hR.good,sz:=by have:=hR.sz;have:=hS.kc1;omega,ch0:=by rw[hR.ch];exact Int.le_refl _,ch1:=by rw[hR.ch];decide }
theorem Rdr.keep{x:Nat}{t:Tx}{r:Root}(hR:Rdr w kc St N s D l x t r){w':World}{S:List Nat}(hK:Kp S w w')(hx:x ∉ S){s':Sto}(hV:s'.V=s.V)(hb:s.bg≤s'.bg){D':DataW Unit}(hh:Maps.has D' (υ t.nr)=true∧∀ zd,D'.atKey (υ t.nr) zd=D.atKey (υ t.nr) zd){l':List UInt8}(hl:Lie N l t.h.b t.h.s r→Lie N l' t.h.b t.h.s r):Rdr w' kc St N s' D' l' x t r:=
 { hR with hx:=hK.heap hR.hx hx,on:=by rw[hV];exact hR.on,nr1:=by have:=hR.nr1;omega,has:=hh.1,at_:=fun zd=>(hh.2 zd).trans (hR.at_ zd),lie:=hl hR.lie }
theorem zQ1{a b:Int}(h:a≠b):υ a≠υ b:=fun e=>by cases e;exact h rfl
theorem Rdr.cycle{x:Nat}{t:Tx}{r:Root}(hR:Rdr w kc St N s D l x t r)(n:Int)(hn:s.bg<n)(v:DataW Unit):Maps.has ((D.put (υ n) v).del (υ n)) (υ t.nr)=true∧∀ zd,((D.put (υ n) v).del (υ n)).atKey (υ t.nr) zd=D.atKey (υ t.nr) zd:=by
 have hne:υ t.nr≠υ n:=zQ1 (by have:=hR.nr1;omega);exact⟨by rw[Maps.has_del_other hne,Maps.has_put_other hne];exact hR.has,fun zd=>by rw[Maps.atKey_del_other hne,Maps.atKey_put_other hne]⟩
theorem Rdr.gone{x:Nat}{t:Tx}{r:Root}(hR:Rdr w kc St N s D l x t r)(n:Int)(hn:t.nr≠n):Maps.has (D.del (υ n)) (υ t.nr)=true∧∀ zd,(D.del (υ n)).atKey (υ t.nr) zd=D.atKey (υ t.nr) zd:=by
 have hne:υ t.nr≠υ n:=zQ1 hn;exact⟨by rw[Maps.has_del_other hne];exact hR.has,fun zd=>Maps.atKey_del_other hne zd⟩
theorem Rdr.ne{x:Nat}{t:Tx}{r:Root}(hR:Rdr w kc St N s D l x t r)(hS:Shop w kc db St A C N nM s D l wr nw):x≠St∧x≠s.M∧x≠A∧x≠C:=by
 obtain⟨c,hA⟩:=hS.hA;exact⟨qC2 hR.hx hS.hSt (by decide),qE5 hR.hx hS.hM,qC2 hR.hx hA (by decide),qC2 hR.hx hS.dev.hC (by decide)⟩
theorem xY5{D:DataW Unit}(htd:Maps.Tidy D)(n:Int)(v:DataW Unit)(hno:Maps.has D (υ n)=false)(ht2:Maps.Tidy (D.put (υ n) v)):Maps.size ((D.put (υ n) v).del (υ n))=Maps.size D:=by
 have h1:=Maps.size_put (k:=υ n) htd v;have h2:=Maps.size_del (k:=υ n) ht2;rw[if_neg (by simp[hno])] at h1;rw[if_pos (Maps.has_put_same htd.isMap (show WideAt.IsKeyLit (υ _) from trivial) v)] at h2;omega
theorem Wrt.other{x:Nat}{t:Tx}{r:Root}{nr:Int}(h:Wrt w kc db St A C N nM s D l wr nw x t r nr){w':World}{nM':Nat}{s':Sto}{D':DataW Unit}(hS:Shop w' kc db St A C N nM' s' D' l wr nw)(hK:Kp [St,s.M,A] w w')(hV:s'.V=s.V):Wrt w' kc db St A C N nM' s' D' l wr nw x t r nr:=by
 obtain⟨c,hA⟩:=h.shop.hA;have h1:x≠St:=by rw[←h.st];exact h.live.xS
 have h2:x≠s.M:=qE5 h.live.hx h.shop.hM;have h3:x≠A:=qC2 h.live.hx hA (by decide);have hapM:Apt w [s.M] qF3:=fun k hk c ty fr e=>by rw[List.mem_singleton.1 hk] at e;exact absurd rfl (qE5 e h.shop.hM)
 have hap:Apt w [St,s.M,A] qF3:=(Apt.one h.shop.hSt (by decide)).cons (hapM.cons (Apt.one hA (by decide)));have hrr:=h.live.rr.keepT hK hap;refine⟨hS,{ hx:=hK.heap h.live.hx (by simp[h1,h2,h3]),over:=h.live.over,on:=?_,hSt:=by rw[h.st];exact hS.hSt,po:=hS.po,sV:=rfl,hV:=hS.dev.hV,n1:=hS.N1,bl0:=hS.bl0,bl1:=by have:=hS.bl1;have:=hS.sz;have:=hS.kc1;omega,dev:=hS.dev,vS:=by show s'.V ∉ [A];simpa using hS.VA,rr:=?_,good:=h.live.good,sz:=h.live.sz,ch0:=h.live.ch0,ch1:=h.live.ch1 },h.st,h.nr,h.wrt⟩
 ·show t.on=some ⟨s'.V,0,none⟩;rw[hV];exact h.live.on
 ·cases r with
  | none=>exact hrr
  | «at» n L=>exact hrr
theorem Shop.busyW(hS:Shop w kc db St A C N nM s D l wr nw)(hw:s.wr≠0):
  Calls prog 29 #[.pointer (some ⟨db,0,none⟩),.bool true] w fun e w'=>∃ v,e=.returned (.tuple #[.pointer none,v])∧qI0 w' v (some 4)∧Shop w' kc db St A C N nM s D l wr nw∧Kp [St] w w':=by
 refine (jM8 db St s w hS.hDb hS.hSt hS.po hS.neDb.1 hw).mono ?_;rintro e w' ⟨v,rfl,hv,hSt,hK⟩;have h1:s.M≠St:=(qE5 hS.hSt hS.hM).symm;exact⟨v,rfl,hv,hS.turn hK (by simpa using hS.neDb.1) (qL6 hS.dev hK (OffD.one hS.hSt (by decide))) ⟨rfl,rfl,rfl,rfl,rfl,rfl⟩ hSt (hS.hM.kp hK (by simpa using h1)) hS.m4 hS.n1 hS.bg0 hS.kb hS.rd,hK⟩
end
end Go.Proofs.YtdohpenfkdckiaaGreatDoor
namespace Go.Proofs.YtdohpenfkdckiaaGreatDoor
open Go.Proofs.Tryz
open Go.RowKit
attribute [local go_sem] Oper.semAt_some
theorem xF4(x:Nat)(t:Tx)(s:Sto)(B Lc Hc l m:Nat)(Jx:World→Prop)(w:World)(hx:w.heap[x]?=some (ψ t))(ho:t.over=true)(hSt:w.heap[t.St]?=some (ν 0 s))(hpo:s.po=false)(hxS:x≠t.St)(hB:w.heap[B]?=some (.cells #[.pointer (some ⟨x,0,none⟩)] 32))
  (hY:∀ W F call,Kp [t.St] w W→W.heap[t.St]?=some (ν 0 s)→W.heap[F]?=some (.cells #[.string call,.iface 45 (.int .i64 5)] 246)→YieldAt Fence.wide (m-1) prog l #[.agg #[.string ⟨#[]⟩,.string ⟨#[]⟩],.iface 243 (.pointer (some ⟨F,0,none⟩))] W fun e W'=>e=.returned (.bool false)∧Jx W'):
  CallsIn Fence.wide m prog 176 #[.func (.yield l) #[] #[],.pointer (some ⟨B,0,none⟩),.pointer (some ⟨Lc,0,none⟩),.pointer (some ⟨Hc,0,none⟩)] w fun e w'=>(∃ v,e=.returned v)∧Jx w':=by
 have hmf:=zM;have HY:=zh hY;have HX:Hid (w.heap[x]?=some (ψ t)∧x≠t.St∧w.heap[t.St]?=some (ν 0 s)):=⟨hx,hxS,hSt⟩;have hB0:=θ (.cells #[.pointer none,.string ⟨#[]⟩,.int .i64 0,.int .u64 0,.pointer none] 89) hB;have b0:=ξ hB0 0;simp only[zG,zH] at b0;have hBs:=ζ hB;have hSs:=ζ hSt;clear hY hB0 hx hxS hSt hB;refine callsIn_of_wp func176 rfl trivial ?_ rfl;simp only[ntmps176,List.size_toArray,List.length_cons,List.length_nil,Nat.reduceAdd,Nat.reduceSub,Array.replicate_succ,Array.replicate_zero,List.push_toArray,List.append_toArray,List.nil_append,List.cons_append]
 gi_wp2_with fail
 refine⟨trivial,fun h=>(by cases h),?_⟩;obtain⟨w0,hw0,hK0⟩:∃ w0,w0=w.alloc (.cells #[.pointer none,.string ⟨#[]⟩,.int .i64 0,.int .u64 0,.pointer none] 89)∧Kp [] w w0:=⟨_,rfl,(Kp.refl _ _).alloc _⟩;rw[←hw0];clear hw0 b0;refine callsIn_wide.2 ((xM3 x t.St 177 t s #[] _ _ w0 (hK0.hp HX.out.1) ho rfl (hK0.hp HX.out.2.2) hpo HX.out.2.1).mono ?_);rintro e w1 ⟨v,rfl,⟨F,call,rfl,hF⟩,hSt1,hK1⟩;have hK1':Kp [t.St] w w1:=(hK0.mono (by simp)).trans hK1 (fun _ h _=>h);have hq:∀ W:World,Sem.run prog (binOp .eql 38 (.iface 243 (.pointer (some ⟨F,0,none⟩))) .nilIface) W=.ok (.bool false) W:=fun W=>by kernel_rfl
 have hKa:Kp [] w1 (w1.alloc (.cells #[.func (.func 178) #[] #[.pointer (some ⟨Lc,0,none⟩)]] 92)):=(Kp.refl _ _).alloc _;obtain⟨w2,hw2⟩:∃ w2,w2=w1.alloc (.cells #[.func (.func 178) #[] #[.pointer (some ⟨Lc,0,none⟩)]] 92):=⟨_,rfl⟩;rw[←hw2] at hKa;obtain⟨fn,tmps,assign,body,hy,hR⟩:=HY.out w2 F call (hK1'.tr hKa) (hKa.hp hSt1) (hKa.hp hF);clear hK0 hK1 hK1' hKa hSt1 hF
 gi_wp2_with fail
 rw[←hw2];clear hw2
 gi_loopw [6] (fun err wr=>err=.iface 243 (.pointer (some ⟨F,0,none⟩))∧wr=w2) (fun _ _=>0)
 case atStart=>exact⟨rfl,rfl⟩
 case round=>
  obtain⟨rfl,rfl⟩:=hrel
  gi_wp2
  refine⟨fun h=>(by cases h),hR.mono ?_⟩;rintro e w3 ⟨rfl,hJ⟩;have HJ:=zh hJ;clear hJ hy hR
  gi_wp2
  go_end0
  exact⟨⟨_,rfl⟩,HJ.out⟩
def jC1(R:World→World→Prop)(W W3:World):Prop:=∃ S3:List Nat,Kp S3 W W3∧(∀ k∈S3,∃ c u fr,W.heap[k]?=some (.cells c u fr)∧u≠169∧u≠246)∧R W W3
def zJ7(B1 B2:Nat)(W W3:World):Prop:=∃ F,(∃ call,W.heap[F]?=some (.cells #[.string call,.iface 45 (.int .i64 5)] 246))∧W3.heap[B1]?=some (.cells #[.slice none 0 0] 29)∧W3.heap[B2]?=some (.cells #[.iface 243 (.pointer (some ⟨F,0,none⟩))] 38)∧Kp [B1,B2] W W3
theorem zI3{nn:Nat}{g:Operand}{ps:Array Tmp}{assign body:Code}{Q:Exit→Act→World→Prop}{a:Act}{w:World}(x:Nat)(t:Tx)(s:Sto)(B Lc Hc:Nat)(Ty:TypeId)(h1:1≤nn)
  (hg:a.eval g=.func (.func 176) #[] #[.pointer (some ⟨B,0,none⟩),.pointer (some ⟨Lc,0,none⟩),.pointer (some ⟨Hc,0,none⟩)]) (hps:ps.size=2)
  (hx:w.heap[x]?=some (ψ t)) (ho:t.over=true) (hSt:w.heap[t.St]?=some (ν 0 s)) (hpo:s.po=false) (hxS:x≠t.St) (hB:w.heap[B]?=some (.cells #[.pointer (some ⟨x,0,none⟩)] 32))
  (a₁:Value→Nat→Act) (R:World→World→Prop)
  (hassign:∀ (l:Nat) (v:Value) (W:World) (K:Act→World→Prop),K (a₁ v W.heap.size) (W.alloc (.cells #[.string ⟨#[]⟩,.string ⟨#[]⟩] 42))→
   assign.wpIn (Fence.wide.inRound l) (nn-1-1) prog (Exit.then K (fun _ _ _=>False)) { tmps:=(ps.zip #[.agg #[.string ⟨#[]⟩,.string ⟨#[]⟩],v]).foldl (fun t (p,v)=>t.setIfInBounds p v) a.tmps,defers:=[] } W)
  (hbody:∀ (l F:Nat) (call:ByteArray) (W:World) (Pb:Nat),Kp [t.St] w W→W.heap[t.St]?=some (ν 0 s)→W.heap[F]?=some (.cells #[.string call,.iface 45 (.int .i64 5)] 246)→
   body.wpIn (Fence.wide.inRound l) (nn-1-1) prog (fun e _ W3=>match e with
    | .ret=>jC1 R W W3
    | _=>False) (a₁ (.iface 243 (.pointer (some ⟨F,0,none⟩))) Pb) W)
  (hstop:∀ (W:World),(∃ (Wa W3:World) (F:Nat) (call:ByteArray) (S3:List Nat),Kp [t.St] w Wa∧Wa.heap[F]?=some (.cells #[.string call,.iface 45 (.int .i64 5)] 246)∧Wa.heap[t.St]?=some (ν 0 s)∧R Wa W3∧Kp S3 Wa W3∧(∀ k∈S3,∃ c u fr,Wa.heap[k]?=some (.cells c u fr)∧u≠169∧u≠246)∧Kp [w.heap.size+1] W3 W∧(∃ rr,W3.heap[w.heap.size+1]?=some (.loop rr)))→W.heap[w.heap.size]?=some (.deferred (some []))→(Code.ret).wpIn Fence.wide nn prog Q { a with defers:={ target:=.collected w.heap.size,args:=#[] }::a.defers } W):
  (Code.rangeFunc g ps assign body).wpIn Fence.wide nn prog Q a w:=by
 refine wpIn_rangeFunc ?_;intro fn hfn;obtain⟨rec,hrec⟩:∃ rec:LoopState→Option Code→Loop,rec=fun st pe=>{ state:=st,pending:=pe,fn,tmps:=a.tmps,params:=ps,assign,body,defers:=w.heap.size }:=⟨_,rfl⟩;obtain⟨W1,hW1⟩:∃ W1,(w.alloc (.deferred (some []))).alloc (.loop (rec .ready none))=W1:=⟨_,rfl⟩;have hL1:W1.heap[w.heap.size+1]?=some (.loop (rec .ready none)):=by
  rw[←hW1];have:=World.alloc_heap_new (w.alloc (.deferred (some []))) (.loop (rec .ready none));rwa [World.size_alloc] at this
 have hD1:W1.heap[w.heap.size]?=some (.deferred (some [])):=by
  rw[←hW1];exact (Below.heap_alloc _ _ _ (by simp)).trans (World.alloc_heap_new w _)
 have hK1:Kp [] w W1:=by rw[←hW1];exact ((Kp.refl _ _).alloc _).alloc _
 have hs1:W1.heap.size=w.heap.size+2:=by rw[←hW1];simp
 have hSts:=ζ hSt;refine⟨w.heap.size+1,[{ target:=.collected w.heap.size,args:=#[] }],W1,{ target:=.fn (.func 176) #[.pointer (some ⟨B,0,none⟩),.pointer (some ⟨Lc,0,none⟩),.pointer (some ⟨Hc,0,none⟩)],args:=#[.func (.yield (w.heap.size+1)) #[] #[]] },W1,176,
  #[.func (.yield (w.heap.size+1)) #[] #[],.pointer (some ⟨B,0,none⟩),.pointer (some ⟨Lc,0,none⟩),.pointer (some ⟨Hc,0,none⟩)],W1,?_,?_,?_,?_,fun h=>(by cases h),?_⟩
 ·rw[←hW1,hrec];exact run_enterLoop_outer _ _ _ _ _
 ·simp only[resolve,hg];simp[go_sem]
 ·intro f' hf';trivial
 ·simp[invoke,go_sem,zM7]
 ·refine (xF4 x t s B Lc Hc (w.heap.size+1) (nn-1) (fun W=>W.heap[w.heap.size+1]?=some (.loop (rec .done (some .ret)))∧W.heap[w.heap.size]?=some (.deferred (some []))∧∃ (Wa W3:World) (F:Nat) (call:ByteArray) (S3:List Nat),Kp [t.St] w Wa∧Wa.heap[F]?=some (.cells #[.string call,.iface 45 (.int .i64 5)] 246)∧Wa.heap[t.St]?=some (ν 0 s)∧R Wa W3∧Kp S3 Wa W3∧(∀ k∈S3,∃ c u fr,Wa.heap[k]?=some (.cells c u fr)∧u≠169∧u≠246)∧Kp [w.heap.size+1] W3 W∧(∃ rr,W3.heap[w.heap.size+1]?=some (.loop rr))) W1 (hK1.hp hx) ho (hK1.hp hSt) hpo hxS (hK1.hp hB) ?_).mono ?_
  ·intro W F call hK hStW hF;have hL:=hK.ho hL1;have hD:=hK.ho hD1;have hlt:=ζ hL;have hy:=run_yield (P:=prog) (args:=#[.agg #[.string ⟨#[]⟩,.string ⟨#[]⟩],.iface 243 (.pointer (some ⟨F,0,none⟩))]) hL (by rw[hrec];simp[hps]);rw[hrec] at hy;refine⟨fn,_,assign,body,hy,roundIn_of_wpIn hfn (hassign _ _ W _ ?_)⟩;clear hy;have hKa:Kp [] W (W.alloc (.cells #[.string ⟨#[]⟩,.string ⟨#[]⟩] 42)):=(Kp.refl _ _).alloc _;have hLa:=hKa.hp hL;refine⟨_,run_beginRound hLa (by rw[hrec]),?_⟩;obtain⟨W2,hW2,hL2,hK2⟩:∃ W2,W2=(W.alloc (.cells #[.string ⟨#[]⟩,.string ⟨#[]⟩] 42)).putObj (w.heap.size+1) (.loop { rec .ready none with state:=.busy })∧W2.heap[w.heap.size+1]?=some (.loop { rec .ready none with state:=.busy })∧Kp [w.heap.size+1] W W2:=
    ⟨_,rfl,World.putObj_heap_same (by simp;omega),((hKa.mono (by simp)).putObj (by simp) _)⟩
   rw[←hW2];clear hW2 hKa hLa;have hF2:=hK2.heap hF (fun hm=>by rw[List.mem_singleton.1 hm,hL] at hF;cases hF);have hSt2:=hK2.heap hStW (fun hm=>by rw[List.mem_singleton.1 hm,hL] at hStW;cases hStW);have hKw2:Kp [t.St] w W2:=((hK1.mono (S':=[t.St]) (by simp)).trans hK (fun _ h _=>h)).trans hK2 (by intro i hi hlt;simp at hi;omega);have hD2:=hK2.hp hD;refine wpIn_mono (hbody _ F call W2 W.heap.size hKw2 hSt2 hF2) ?_;rintro e a3 W3 hp
   cases e with
   | ret=>
    obtain⟨S3,hK3,hS3,hR3⟩:=hp;have hno:∀ k o,W2.heap[k]?=some o→(∀ c u fr,o≠.cells c u fr)→k ∉ S3:=fun k o ho' hn hm=>by
     obtain⟨c,u,fr,e,_⟩:=hS3 k hm;rw[ho'] at e;cases e;exact hn _ _ _ rfl
    have hL3:=hK3.heap hL2 (hno _ _ hL2 (by intros;simp));have hr:=run_endRound (P:=prog) (some .ret) hL3;rw[hrec] at hr;refine⟨_,_,hr,rfl,?_⟩;have hfin:(fun W:World=>W.heap[w.heap.size+1]?=some (.loop (rec .done (some .ret)))∧W.heap[w.heap.size]?=some (.deferred (some []))∧∃ (Wa W3:World) (F:Nat) (call:ByteArray) (S3:List Nat),Kp [t.St] w Wa∧Wa.heap[F]?=some (.cells #[.string call,.iface 45 (.int .i64 5)] 246)∧Wa.heap[t.St]?=some (ν 0 s)∧R Wa W3∧Kp S3 Wa W3∧(∀ k∈S3,∃ c u fr,Wa.heap[k]?=some (.cells c u fr)∧u≠169∧u≠246)∧Kp [w.heap.size+1] W3 W∧(∃ rr,W3.heap[w.heap.size+1]?=some (.loop rr))) (W3.putObj (w.heap.size+1) (.loop (rec .done (some .ret)))):=
     ⟨World.putObj_heap_same (ζ hL3),(World.putObj_heap_other (by omega)).trans (hK3.heap hD2 (hno _ _ hD2 (by intros;simp))),W2,W3,F,call,S3,hKw2,hF2,hSt2,hR3,hK3,hS3,(Kp.refl _ _).putObj (by simp) _,_,hL3⟩
    rw[hrec] at hfin ⊢;exact hfin
   | normal=>exact hp.elim
   | exit i=>exact hp.elim
   | goto l=>exact hp.elim
   | panic ch=>exact hp.elim
   | outgrown=>exact hp.elim
  ·rintro e W2 ⟨⟨v,rfl⟩,hL,hD,Wa,W3,F,call,S3,p1,p2,p3,p4,p5,p6,p7,rr,p8⟩;have hr:=run_endLoop (P:=prog) hL (by rw[hrec];simp);rw[hrec] at hr;refine⟨some .ret,_,hr,?_⟩;have:=hstop (W2.putObj (w.heap.size+1) (.loop { rec .done (some .ret) with state:=.exhausted })) ⟨Wa,W3,F,call,S3,p1,p2,p3,p4,p5,p6,p7.putObj (by simp) _,rr,p8⟩ ((World.putObj_heap_other (by omega)).trans hD);rw[hrec] at this;exact this
theorem xS0(x:Nat)(t:Tx)(s:Sto)(lo hi:ByteArray)(most:Int)(w:World)(hx:w.heap[x]?=some (ψ t))(ho:t.over=true)(hSt:w.heap[t.St]?=some (ν 0 s))(hpo:s.po=false)(hxS:x≠t.St):
  Calls prog 71 #[.pointer (some ⟨x,0,none⟩),.string lo,.string hi,.int .i64 most] w fun e w'=>∃ v,e=.returned (.tuple #[.slice none 0 0,v])∧qI0 w' v (some 5)∧w'.heap[t.St]?=some (ν 0 s)∧Kp [t.St] w w':=by
 have HX:Hid (w.heap[x]?=some (ψ t)∧x≠t.St∧w.heap[t.St]?=some (ν 0 s)):=⟨hx,hxS,hSt⟩;have hxs:=ζ hx;have hSs:=ζ hSt;clear hx hxS hSt;refine (callsIn_wide (n:=9)).1 ?_;refine callsIn_of_wp_marks func71 rfl trivial ?_ rfl;simp only[ntmps71,List.size_toArray,List.length_cons,List.length_nil,Nat.reduceAdd,Nat.reduceSub,Array.replicate_succ,Array.replicate_zero,List.push_toArray,List.append_toArray,List.nil_append,List.cons_append];obtain⟨mm,hmm⟩:∃ mm:Int,mm=if most<1 then 0 else most:=⟨_,rfl⟩
 obtain⟨w0,hw0,hR0,hE0,hK0,hs0⟩:∃ w0,w0=(((w.alloc (.cells #[.int .i64 mm] 3)).alloc (.cells #[.slice none 0 0] 29)).alloc (.cells #[.nilIface] 38)).alloc (.cells #[.slice none 0 0] 29)∧w0.heap[w.heap.size+1]?=some (.cells #[.slice none 0 0] 29)∧w0.heap[w.heap.size+1+1]?=some (.cells #[.nilIface] 38)∧Kp [] w w0∧w0.heap.size=w.heap.size+4:=by
  refine⟨_,rfl,θ _ (θ _ ?_),θ _ ?_,((((Kp.refl _ _).alloc _).alloc _).alloc _).alloc _,by simp⟩
  ·have e:=κ (w.alloc (.cells #[.int .i64 mm] 3)) (.cells #[.slice none 0 0] 29);simpa using e
  ·have e:=κ ((w.alloc (.cells #[.int .i64 mm] 3)).alloc (.cells #[.slice none 0 0] 29)) (.cells #[.nilIface] 38);simpa using e
 have HW0:=zh hw0;have HS0:=zh hs0;clear hw0 hs0;by_cases hb:most<1
 ·have HM1:Hid (mm=0):=by show _=_;rw[hmm,if_pos hb]
  clear hmm
  gi_wp2_with fail
  refine⟨trivial,?_⟩;have e0:(((w.alloc (.cells #[.int .i64 0] 3)).alloc (.cells #[.slice none 0 0] 29)).alloc (.cells #[.nilIface] 38)).alloc (.cells #[.slice none 0 0] 29)=w0:=by rw[HW0.out,HM1.out]
  rw[e0];clear e0;refine callsIn_wide.2 ((qW9 x lo hi w0).mono ?_);rintro e w1 ⟨rfl,hB1,hLc1,hHc1,hK1⟩;have hR1:=hK1.hp hR0;have hE1:=hK1.hp hE0;have HK1:Hid (Kp [] w w1):=hK0.tr hK1;have hs1:=hK1.size;clear hR0 hE0 hK0 hK1 hLc1 hHc1
  gi_wp2_with fail
  refine zI3 x t s w0.heap.size (w0.heap.size+1) (w0.heap.size+2) 0 (by decide) rfl rfl (HK1.out.hp HX.out.1) ho (HK1.out.hp HX.out.2.2) hpo HX.out.2.1 hB1 (fun v Pb=>{ tmps:=#[.pointer (some ⟨x,0,none⟩),.string lo,.string hi,.int .i64 most,undef,undef,undef,.pointer (some ⟨w.heap.size,0,none⟩),.pointer (some ⟨w.heap.size+1,0,none⟩),.pointer (some ⟨w.heap.size+1+1,0,none⟩),.pointer (some ⟨w.heap.size+1+1+1,0,none⟩),.pointer (some ⟨Pb,0,none⟩),v,.int .i64 most,.bool true,.pointer (some ⟨x,0,none⟩),.string lo,.string hi,.func (.func 176) #[] #[.pointer (some ⟨w0.heap.size,0,none⟩),.pointer (some ⟨w0.heap.size+1,0,none⟩),.pointer (some ⟨w0.heap.size+2,0,none⟩)],.agg #[.string ⟨#[]⟩,.string ⟨#[]⟩],v,undef,undef,undef,undef,undef,undef,undef,undef,undef,undef,undef,undef],defers:=[] })
   (zJ7 (w.heap.size+1) (w.heap.size+1+1)) ?assign ?body ?stop
  case assign=>
   intro l v W K hK
   gi_wp2
   exact hK
  case body=>
   intro l F call W Pb hkp hSt hF;have hRW:=hkp.ho hR1;have hEW:=hkp.ho hE1;have hRs:=ζ hRW;have hEs:=ζ hEW;have r0:=ξ hRW 0;simp only[zG,zH,zI] at r0;have fr0:=qA0 hRW 0;have e0:=ξ hEW 0;simp only[zG,zH,zI] at e0;have fe0:=qA0 hEW 0;have hq:∀ W:World,Sem.run prog (binOp .neq 38 (.iface 243 (.pointer (some ⟨F,0,none⟩))) .nilIface) W=.ok (.bool true) W:=fun W=>by kernel_rfl
   have HRE:Hid (W.heap[w.heap.size+1]?=some (.cells #[.slice none 0 0] 29)∧W.heap[w.heap.size+1+1]?=some (.cells #[.nilIface] 38)∧W.heap[F]?=some (.cells #[.string call,.iface 45 (.int .i64 5)] 246)):=⟨hRW,hEW,hF⟩;clear hR1 hE1 hRW hEW hF hSt hB1
   gi_wp2
   refine⟨[w.heap.size+1,w.heap.size+1+1],((Kp.refl _ _).sc _).sc _,?_,F,⟨call,HRE.out.2.2⟩,(qA7 (by omega) _ _).trans (φ HRE.out.1 0 _),φ ((qA7 (by omega) _ _).trans HRE.out.2.1) 0 _,((Kp.refl _ _).sc _).sc _⟩;intro k hk;simp only[List.mem_cons,List.not_mem_nil,or_false] at hk;rcases hk with rfl|rfl
   ·exact⟨_,_,_,HRE.out.1,by decide,by decide⟩
   ·exact⟨_,_,_,HRE.out.2.1,by decide,by decide⟩
  case stop=>
   rintro W ⟨Wa,W3,F0,call0,S3,p1,p2,p3,⟨F,⟨call,q1⟩,q2,q3,q4⟩,p5,p6,p7,rr,p8⟩ hD;have hs0:=HS0.out;have hsW:=Nat.le_trans p1.size (Nat.le_trans p5.size p7.size);have hneL:∀ {k:Nat} {c:Array Value} {u:TypeId} {fr:Nat × Nat},W3.heap[k]?=some (.cells c u fr)→k ∉ [w1.heap.size+1]:=fun hk hm=>by rw[List.mem_singleton.1 hm,p8] at hk;cases hk
   have hn3:∀ {k:Nat} {c:Array Value} {u:TypeId} {fr:Nat × Nat},Wa.heap[k]?=some (.cells c u fr)→(u=169∨u=246)→k ∉ S3:=fun hk hu hm=>by
    obtain⟨c',u',fr',e1,e2,e3⟩:=p6 _ hm;rw[hk] at e1;cases e1;rcases hu with h|h
    ·exact e2 h
    ·exact e3 h
   have hRW:=p7.heap q2 (hneL q2);have hEW:=p7.heap q3 (hneL q3);have hF3:=p5.heap q1 (hn3 q1 (.inr rfl));have hFW:=p7.heap hF3 (hneL hF3);have hS3:=p5.heap p3 (hn3 p3 (.inl rfl));have hSW:=p7.heap hS3 (hneL hS3);have r0:=ξ hRW 0;have e0:=ξ hEW 0;simp only[zG,zH] at r0 e0;have hKW:Kp [t.St] w W:=(((HK1.out.mono (S':=[t.St]) (by simp)).trans p1 (fun _ h _=>h)).trans q4 (by intro i hi hlt;simp at hi;omega)).trans p7 (by intro i hi hlt;simp at hi;omega);have HF:Hid (W.heap[F]?=some (.cells #[.string call,.iface 45 (.int .i64 5)] 246)∧W.heap[t.St]?=some (ν 0 s)∧Kp [t.St] w W∧W.heap[w.heap.size+1]?=some (.cells #[.slice none 0 0] 29)∧W.heap[w.heap.size+1+1]?=some (.cells #[.iface 243 (.pointer (some ⟨F,0,none⟩))] 38)∧W.heap[w1.heap.size]?=some (.deferred (some []))):=⟨hFW,hSW,hKW,hRW,hEW,hD⟩;clear hR1 hE1 hB1 p1 p2 p3 p5 p6 p7 p8 q1 q2 q3 q4 hneL hn3 hRW hEW hF3 hFW hS3 hSW hKW r0 e0
   gi_wp2
   refine⟨by simp,.inl ⟨_,_,rfl,run_takeDeferred HF.out.2.2.2.2.2,?_⟩⟩;obtain⟨hFW,hSW,hKW,hRW,hEW,hD⟩:=HF.out;obtain⟨w5,hw5,hK5⟩:∃ w5,w5=W.putObj w1.heap.size (.deferred none)∧Kp [w1.heap.size] W w5:=⟨_,rfl,(Kp.refl _ _).putObj (by simp) _⟩;rw[←hw5];clear hw5;have hne5:∀ {k:Nat} {c:Array Value} {u:TypeId} {fr:Nat × Nat},W.heap[k]?=some (.cells c u fr)→k ∉ [w1.heap.size]:=fun hk hm=>by rw[List.mem_singleton.1 hm,hD] at hk;cases hk
   have r0:=ξ (hK5.heap hRW (hne5 hRW)) 0;have e0:=ξ (hK5.heap hEW (hne5 hEW)) 0;simp only[zG,zH] at r0 e0;refine⟨.tuple #[.slice none 0 0,.iface 243 (.pointer (some ⟨F,0,none⟩))],?_,_,rfl,⟨F,call,rfl,hK5.heap hFW (hne5 hFW)⟩,hK5.heap hSW (hne5 hSW),hKW.trans hK5 (by intro i hi hlt;simp at hi;omega)⟩;simp[results,results71,go_sem,r0,e0]
 ·have HM1:Hid (mm=most):=by show _=_;rw[hmm,if_neg hb]
  clear hmm
  gi_wp2_with fail
  refine⟨trivial,?_⟩;have e0:(((w.alloc (.cells #[.int .i64 most] 3)).alloc (.cells #[.slice none 0 0] 29)).alloc (.cells #[.nilIface] 38)).alloc (.cells #[.slice none 0 0] 29)=w0:=by rw[HW0.out,HM1.out]
  rw[e0];clear e0;refine callsIn_wide.2 ((qW9 x lo hi w0).mono ?_);rintro e w1 ⟨rfl,hB1,hLc1,hHc1,hK1⟩;have hR1:=hK1.hp hR0;have hE1:=hK1.hp hE0;have HK1:Hid (Kp [] w w1):=hK0.tr hK1;have hs1:=hK1.size;clear hR0 hE0 hK0 hK1 hLc1 hHc1
  gi_wp2_with fail
  refine zI3 x t s w0.heap.size (w0.heap.size+1) (w0.heap.size+2) 0 (by decide) rfl rfl (HK1.out.hp HX.out.1) ho (HK1.out.hp HX.out.2.2) hpo HX.out.2.1 hB1 (fun v Pb=>{ tmps:=#[.pointer (some ⟨x,0,none⟩),.string lo,.string hi,.int .i64 most,undef,undef,undef,.pointer (some ⟨w.heap.size,0,none⟩),.pointer (some ⟨w.heap.size+1,0,none⟩),.pointer (some ⟨w.heap.size+1+1,0,none⟩),.pointer (some ⟨w.heap.size+1+1+1,0,none⟩),.pointer (some ⟨Pb,0,none⟩),v,.int .i64 most,.bool false,.pointer (some ⟨x,0,none⟩),.string lo,.string hi,.func (.func 176) #[] #[.pointer (some ⟨w0.heap.size,0,none⟩),.pointer (some ⟨w0.heap.size+1,0,none⟩),.pointer (some ⟨w0.heap.size+2,0,none⟩)],.agg #[.string ⟨#[]⟩,.string ⟨#[]⟩],v,undef,undef,undef,undef,undef,undef,undef,undef,undef,undef,undef,undef],defers:=[] })
   (zJ7 (w.heap.size+1) (w.heap.size+1+1)) ?assign ?body ?stop
  case assign=>
   intro l v W K hK
   gi_wp2
   exact hK
  case body=>
   intro l F call W Pb hkp hSt hF;have hRW:=hkp.ho hR1;have hEW:=hkp.ho hE1;have hRs:=ζ hRW;have hEs:=ζ hEW;have r0:=ξ hRW 0;simp only[zG,zH,zI] at r0;have fr0:=qA0 hRW 0;have e0:=ξ hEW 0;simp only[zG,zH,zI] at e0;have fe0:=qA0 hEW 0;have hq:∀ W:World,Sem.run prog (binOp .neq 38 (.iface 243 (.pointer (some ⟨F,0,none⟩))) .nilIface) W=.ok (.bool true) W:=fun W=>by kernel_rfl
   have HRE:Hid (W.heap[w.heap.size+1]?=some (.cells #[.slice none 0 0] 29)∧W.heap[w.heap.size+1+1]?=some (.cells #[.nilIface] 38)∧W.heap[F]?=some (.cells #[.string call,.iface 45 (.int .i64 5)] 246)):=⟨hRW,hEW,hF⟩;clear hR1 hE1 hRW hEW hF hSt hB1
   gi_wp2
   refine⟨[w.heap.size+1,w.heap.size+1+1],((Kp.refl _ _).sc _).sc _,?_,F,⟨call,HRE.out.2.2⟩,(qA7 (by omega) _ _).trans (φ HRE.out.1 0 _),φ ((qA7 (by omega) _ _).trans HRE.out.2.1) 0 _,((Kp.refl _ _).sc _).sc _⟩;intro k hk;simp only[List.mem_cons,List.not_mem_nil,or_false] at hk;rcases hk with rfl|rfl
   ·exact⟨_,_,_,HRE.out.1,by decide,by decide⟩
   ·exact⟨_,_,_,HRE.out.2.1,by decide,by decide⟩
  case stop=>
   rintro W ⟨Wa,W3,F0,call0,S3,p1,p2,p3,⟨F,⟨call,q1⟩,q2,q3,q4⟩,p5,p6,p7,rr,p8⟩ hD;have hs0:=HS0.out;have hsW:=Nat.le_trans p1.size (Nat.le_trans p5.size p7.size);have hneL:∀ {k:Nat} {c:Array Value} {u:TypeId} {fr:Nat × Nat},W3.heap[k]?=some (.cells c u fr)→k ∉ [w1.heap.size+1]:=fun hk hm=>by rw[List.mem_singleton.1 hm,p8] at hk;cases hk
   have hn3:∀ {k:Nat} {c:Array Value} {u:TypeId} {fr:Nat × Nat},Wa.heap[k]?=some (.cells c u fr)→(u=169∨u=246)→k ∉ S3:=fun hk hu hm=>by
    obtain⟨c',u',fr',e1,e2,e3⟩:=p6 _ hm;rw[hk] at e1;cases e1;rcases hu with h|h
    ·exact e2 h
    ·exact e3 h
   have hRW:=p7.heap q2 (hneL q2);have hEW:=p7.heap q3 (hneL q3);have hF3:=p5.heap q1 (hn3 q1 (.inr rfl));have hFW:=p7.heap hF3 (hneL hF3);have hS3:=p5.heap p3 (hn3 p3 (.inl rfl));have hSW:=p7.heap hS3 (hneL hS3);have r0:=ξ hRW 0;have e0:=ξ hEW 0;simp only[zG,zH] at r0 e0;have hKW:Kp [t.St] w W:=(((HK1.out.mono (S':=[t.St]) (by simp)).trans p1 (fun _ h _=>h)).trans q4 (by intro i hi hlt;simp at hi;omega)).trans p7 (by intro i hi hlt;simp at hi;omega);have HF:Hid (W.heap[F]?=some (.cells #[.string call,.iface 45 (.int .i64 5)] 246)∧W.heap[t.St]?=some (ν 0 s)∧Kp [t.St] w W∧W.heap[w.heap.size+1]?=some (.cells #[.slice none 0 0] 29)∧W.heap[w.heap.size+1+1]?=some (.cells #[.iface 243 (.pointer (some ⟨F,0,none⟩))] 38)∧W.heap[w1.heap.size]?=some (.deferred (some []))):=⟨hFW,hSW,hKW,hRW,hEW,hD⟩;clear hR1 hE1 hB1 p1 p2 p3 p5 p6 p7 p8 q1 q2 q3 q4 hneL hn3 hRW hEW hF3 hFW hS3 hSW hKW r0 e0
   gi_wp2
   refine⟨by simp,.inl ⟨_,_,rfl,run_takeDeferred HF.out.2.2.2.2.2,?_⟩⟩;obtain⟨hFW,hSW,hKW,hRW,hEW,hD⟩:=HF.out;obtain⟨w5,hw5,hK5⟩:∃ w5,w5=W.putObj w1.heap.size (.deferred none)∧Kp [w1.heap.size] W w5:=⟨_,rfl,(Kp.refl _ _).putObj (by simp) _⟩;rw[←hw5];clear hw5;have hne5:∀ {k:Nat} {c:Array Value} {u:TypeId} {fr:Nat × Nat},W.heap[k]?=some (.cells c u fr)→k ∉ [w1.heap.size]:=fun hk hm=>by rw[List.mem_singleton.1 hm,hD] at hk;cases hk
   have r0:=ξ (hK5.heap hRW (hne5 hRW)) 0;have e0:=ξ (hK5.heap hEW (hne5 hEW)) 0;simp only[zG,zH] at r0 e0;refine⟨.tuple #[.slice none 0 0,.iface 243 (.pointer (some ⟨F,0,none⟩))],?_,_,rfl,⟨F,call,rfl,hK5.heap hFW (hne5 hFW)⟩,hK5.heap hSW (hne5 hSW),hKW.trans hK5 (by intro i hi hlt;simp at hi;omega)⟩;simp[results,results71,go_sem,r0,e0]
end Go.Proofs.YtdohpenfkdckiaaGreatDoor
namespace Go.Proofs.YtdohpenfkdckiaaGreatDoor
open Go.Proofs.Tryz
open Go.RowKit
open Go.Maps (Keyed)
section
variable {w:World} {kc db St A C N nM:Nat} {s:Sto} {D:DataW Unit} {l:List UInt8} {wr:Int} {nw:Root}
theorem Shop.keepO(hS:Shop w kc db St A C N nM s D l wr nw){w':World}{S:List Nat}{base:Nat}{v:Value}{ps:List KV}(ho:OPA w base v ps)(hK:Kp S w w')(h:∀ k∈S,k∈[St,s.M,A,C]∨∃ t,w.heap[k]?=some (ψ t)):OPA w' base v ps:=
 ho.keep hK (fun k hk c fr e=>by
  rcases h k hk with h|⟨t,h⟩
  ·exact hS.nopair k h c fr e
  ·rw[h] at e;simp[ψ] at e)
theorem zQ9(ps:List KV):(qB6 ps).length≤ps.length:=by
 unfold qB6 qF1;rw[List.length_take];have:=List.length_filter_le (inR ⟨#[]⟩ qP1) ps;omega
end
structure Sht(w0 w:World)(db St A C M xr:Nat)(tr:Tx)(r0:Root)(lv:Value)(j nM:Nat)(s:Sto)(D:DataW Unit)(l:List UInt8)(wr:Int)(nw:Root):Prop where
 shop:Shop w 100 db St A C 300 nM s D l wr nw
 rdr:Rdr w 100 St 300 s D l xr tr r0
 wr0:s.wr=0
 bg:s.bg≤3+3*(j:Int)
 sN:s.N≤10+2*(j:Int)
 nm:nM≤2+2*j
 len:nw.cont.length≤43+12*j
 inn:(⟨qE7,qJ5⟩:KV)∈nw.cont
 one:Maps.size D=1
 opa:OPA w w0.heap.size lv (qB6 r0.cont)
 kp:Kp [] w0 w
 sM:s.M=M
 low:w0.heap.size≤St∧w0.heap.size≤A∧w0.heap.size≤C∧w0.heap.size≤M∧w0.heap.size≤xr∧w0.heap.size≤db
section
variable {w0 w:World} {db St A C M xr:Nat} {tr:Tx} {r0:Root} {lv:Value} {j nM:Nat} {s:Sto} {D:DataW Unit} {l:List UInt8} {wr:Int} {nw:Root}
structure Shu(w0 w:World)(db St A C M xr:Nat)(tr:Tx)(r0:Root)(lv:Value)(j nM:Nat)(s:Sto)(D:DataW Unit)(l:List UInt8)(wr:Int)(nw:Root)(x:Nat)(t:Tx)(r:Root)(m:Value):Prop where
 wrt:Wrt w 100 db St A C 300 nM s D l wr nw x t r s.wr
 rdr:Rdr w 100 St 300 s D l xr tr r0
 wr1:1≤s.wr
 wrb:s.wr≤s.bg
 nrw:tr.nr<s.wr
 bg:s.bg≤5+3*(j:Int)
 sN:s.N≤10+2*(j:Int)
 nm:nM≤3+2*j
 len:nw.cont.length≤43+12*j
 inn:(⟨qE7,qJ5⟩:KV)∈nw.cont
 rin:(⟨qE7,qJ5⟩:KV)∈r.cont
 rlen:r.cont.length≤43+12*(j+1)
 one:Maps.size D=1
 opa:OPA w w0.heap.size lv (qB6 r0.cont)
 opm:OPA w w0.heap.size m (qB6 r.cont)
 kp:Kp [] w0 w
 sM:s.M=M
 low:w0.heap.size≤St∧w0.heap.size≤A∧w0.heap.size≤C∧w0.heap.size≤M∧w0.heap.size≤xr∧w0.heap.size≤db
 xlow:w0.heap.size≤x
theorem Sht.writing(h:Sht w0 w db St A C M xr tr r0 lv j nM s D l wr nw)(hj:j<3)(a:Int)(ha0:-9223372036854775808≤a)(ha1:a≤9223372036854775807)(m:Nat)(hm:m≤12):
  Calls prog 19 #[.pointer (some ⟨db,0,none⟩),.int .i64 a,.int .i64 m] w fun e w'=>∃ x t r v,e=.returned (.tuple #[.pointer (some ⟨x,0,none⟩),v])∧Shu w0 w' db St A C M xr tr r0 lv j nM s.wrote D l wr nw x t r v:=by
 have hbg0:=h.shop.bg0;have hb:=h.bg;refine (zL1 h.shop h.wr0 (by omega) a ha0 ha1 m (by omega) (fun r' hg hz=>?_)).mono ?_
 ·have h1:=qS9 hg;have h2:=h.shop.bl1;have h3:=h.len;omega
 ·rintro e w' ⟨x,t,r,v,rfl,hx,ho,hr,hc,hkp,hK,hW⟩;obtain⟨n1,n2,n3,n4⟩:=h.rdr.ne h.shop;have hs:=h.kp.size;obtain⟨l1,l2,l3,l4,l5,l6⟩:=h.low;have hn1:=h.rdr.nr1;refine⟨x,t,r,v,rfl,?_⟩;exact { wrt:=hW,rdr:=h.rdr.keep (s':=s.wrote) hK (by simp[n1,n3]) rfl (by show s.bg≤s.bg+1;omega) ⟨h.rdr.has,fun _=>rfl⟩ (fun h=>h),wr1:=by show 1≤s.bg+1;omega,wrb:=Int.le_refl _,nrw:=by show tr.nr<s.bg+1;omega,bg:=by show s.bg+1≤_;omega,sN:=h.sN,nm:=by have:=h.nm;omega,len:=h.len,inn:=h.inn,rin:=hkp _ h.inn rfl,rlen:=by have:=h.len;omega,one:=h.one,opa:=h.shop.keepO h.opa hK (fun k hk=>.inl (by simp at hk ⊢;rcases hk with h | h<;>simp[h])),opm:=qH5 ho (by omega),kp:=h.kp.trans hK (by intro i hi hlt;simp at hi;omega),sM:=h.sM,low:=h.low,xlow:=by omega }
theorem Shu.busy{x:Nat}{t:Tx}{r:Root}{m:Value}(h:Shu w0 w db St A C M xr tr r0 lv j nM s D l wr nw x t r m):
  Calls prog 29 #[.pointer (some ⟨db,0,none⟩),.bool true] w fun e w'=>∃ v,e=.returned (.tuple #[.pointer none,v])∧qI0 w' v (some 4)∧Shu w0 w' db St A C M xr tr r0 lv j nM s D l wr nw x t r m:=by
 refine (h.wrt.shop.busyW (by have:=h.wr1;omega)).mono ?_;rintro e w' ⟨v,rfl,hv,hS,hK⟩;obtain⟨n1,n2,n3,n4⟩:=h.rdr.ne h.wrt.shop;have hs:=h.kp.size;obtain⟨l1,l2,l3,l4,l5,l6⟩:=h.low;exact⟨v,rfl,hv,{ h with wrt:=h.wrt.other hS (hK.mono (by simp)) rfl,rdr:=h.rdr.keep hK (by simp[n1]) rfl (Int.le_refl _) ⟨h.rdr.has,fun _=>rfl⟩ (fun h=>h),opa:=h.wrt.shop.keepO h.opa hK (fun k hk=>.inl (by simp at hk ⊢;simp[hk])),opm:=h.wrt.shop.keepO h.opm hK (fun k hk=>.inl (by simp at hk ⊢;simp[hk])),kp:=h.kp.trans hK (by intro i hi hlt;simp at hi;omega) }⟩
theorem Shu.more{x:Nat}{t:Tx}{r:Root}{m:Value}(h:Shu w0 w db St A C M xr tr r0 lv j nM s D l wr nw x t r m){w':World}(hK:Kp [] w w'):Shu w0 w' db St A C M xr tr r0 lv j nM s D l wr nw x t r m:=
 { h with wrt:=h.wrt.other (h.wrt.shop.more hK) (hK.mono (by simp)) rfl,rdr:=h.rdr.keep hK (by simp) rfl (Int.le_refl _) ⟨h.rdr.has,fun _=>rfl⟩ (fun h=>h),opa:=h.opa.keep hK (by simp),opm:=h.opm.keep hK (by simp),kp:=h.kp.tr hK }
theorem zV5{w':World}{nM':Nat}{s':Sto}{l':List UInt8}{wr':Int}{nt:Root}(hS:Shop w 100 db St A C 300 nM s D l wr nw)(v:DataW Unit):Maps.size ((D.put (υ (s.bg+1)) v).del (υ (s.bg+1)))=Maps.size D:=by
 have htd:=hS.hM.tidy qK7;have hno:Maps.has D (υ (s.bg+1))=false:=by
  cases hh:Maps.has D (υ (s.bg+1)) with
  | false=>rfl
  | true=>obtain⟨y,e1,e2,e3⟩:=hS.kb _ hh;cases e1;omega
 have h1:=Maps.size_put (k:=υ (s.bg+1)) htd v;rw[if_neg (by simp[hno])] at h1;obtain⟨es,rfl,hp⟩:=htd;have ht2:Maps.Tidy ((DataW.map es).put (υ (s.bg+1)) v):=Maps.tidy_fold v [υ (s.bg+1)] (.map es) ⟨es,rfl,hp⟩ (fun x hx=>by rw[List.mem_singleton.1 hx];trivial);exact xY5 ⟨es,rfl,hp⟩ _ v hno ht2
theorem Shu.now{x:Nat}{t:Tx}{r:Root}{m:Value}(h:Shu w0 w db St A C M xr tr r0 lv j nM s D l wr nw x t r m)(hj:j<3)(hb:s.bg≤4+3*(j:Int))(hn:nM≤2+2*j):
  Calls prog 30 #[.pointer (some ⟨db,0,none⟩)] w fun e w'=>∃ v D',e=.returned (.tuple #[v,.bool true])∧OPA w' w0.heap.size v (qB6 nw.cont)∧Shu w0 w' db St A C M xr tr r0 lv j (nM+1) s.read D' l wr nw x t r m:=by
 refine (zF5 h.wrt.shop (by have:=h.one;omega) (by omega) (by omega) h.wrb).mono ?_;rintro e w' ⟨v,rfl,ho,hS,hK⟩;obtain⟨n1,n2,n3,n4⟩:=h.rdr.ne h.wrt.shop;have hs:=h.kp.size;obtain⟨l1,l2,l3,l4,l5,l6⟩:=h.low;have hM:=h.sM;have hk:∀ k∈[St,s.M,A],k∈[St,s.M,A,C]∨∃ t,w.heap[k]?=some (ψ t):=fun k hk=>.inl (by simp at hk ⊢;rcases hk with h | h | h<;>simp[h]);refine⟨v,(D.put (υ (s.bg+1)) (qD5 ⟨⟨#[]⟩,s.rb,s.rs,none⟩)).del (υ (s.bg+1)),rfl,qH5 ho (by omega),?_⟩;exact { h with wrt:=h.wrt.other hS hK rfl,rdr:=h.rdr.keep (s':=s.read) hK (by simp[n1,n2,n3]) rfl (by show s.bg≤s.bg+1;omega) (h.rdr.cycle _ (by omega) _) (fun h=>h),wrb:=by show s.wr≤s.bg+1;have:=h.wrb;omega,bg:=by show s.bg+1≤_;omega,nm:=by omega,one:=by rw[zV5 (w':=w') (nM':=nM) (s':=s) (l':=l) (wr':=wr) (nt:=nw) h.wrt.shop];exact h.one,opa:=h.wrt.shop.keepO h.opa hK hk,opm:=h.wrt.shop.keepO h.opm hK hk,kp:=h.kp.trans hK (by intro i hi hlt;simp at hi;omega) }
theorem Shu.commit{x:Nat}{t:Tx}{r:Root}{m:Value}(h:Shu w0 w db St A C M xr tr r0 lv j nM s D l wr nw x t r m)(hj:j<3):
  Calls prog 31 #[.pointer (some ⟨x,0,none⟩)] w fun e w'=>e=.returned .nilIface∧∃ s' D' l' wr' nt,Shop w' 100 db St A C 300 nM s' D' l' wr' nt∧nt.cont=r.cont∧Rdr w' 100 St 300 s' D' l' xr tr r0∧s'.wr=0∧s'.bg=s.bg∧s'.N≤10+2*((j+1:Nat):Int)∧s'.M=M∧Maps.size D'=1∧OPA w' w0.heap.size lv (qB6 r0.cont)∧OPA w' w0.heap.size m (qB6 r.cont)∧Kp [] w0 w':=by
 have hnr:=h.wrt.nr;have hw1:=h.wr1;have hwb:=h.wrb;have hb:=h.bg;have g1:=qT9 h.wrt.live.good;have g2:=qS9 h.wrt.live.good;have g3:=qT9 h.wrt.shop.good;have g4:=h.len;have g5:=h.rlen;have hsN:=h.sN;refine (h.wrt.shop.commits h.wrt.live h.wrt.st h.wrt.wrt (by omega) (by omega) (by omega) (by omega) (by rw[h.one];omega)).mono ?_;rintro e w' ⟨rfl,s',l',wr',nt,c1,c2,c3,c4,c5,c6,c7,c8,hK,c9⟩;obtain⟨n1,n2,n3,n4⟩:=h.rdr.ne h.wrt.shop;have hs:=h.kp.size;obtain⟨l1,l2,l3,l4,l5,l6⟩:=h.low;have hM:=h.sM;have hxl:=h.xlow;have hxr:xr≠x:=fun e=>by
  have h1:=h.rdr.hx;rw[e,h.wrt.live.hx] at h1;have h2:=h.wrt.wrt;have h3:=h.rdr.wrt;simp[ψ] at h1;rw[h1.2.2.1,h3] at h2;cases h2
 have hnn:tr.nr≠t.nr:=by have:=h.nrw;omega
 have hgo:=h.rdr.gone t.nr hnn;obtain⟨rb,rs,he⟩:=h.rdr.h;have hk:∀ k∈[St,x,s.M,A,C],k∈[St,s.M,A,C]∨∃ t,w.heap[k]?=some (ψ t):=fun k hk=>by
  simp only[List.mem_cons,List.not_mem_nil,or_false] at hk;rcases hk with h'|h'|h'|h'|h'
  ·simp[h']
  ·exact .inr ⟨t,by rw[h'];exact h.wrt.live.hx⟩
  ·simp[h']
  ·simp[h']
  ·simp[h']
 have htd:=h.wrt.shop.hM.tidy qK7;have hsd:=Maps.size_del (k:=υ t.nr) htd;have hone:=h.one;have hsz:Maps.size (D.del (υ t.nr))=1:=by
  have hp:0<Maps.size (D.del (υ t.nr)):=by
   have htd2:=c1.hM.tidy qK7;obtain⟨es,e1,_⟩:=htd2;have hh:=hgo.1;rw[e1] at hh ⊢
   cases es with
   | nil=>simp[Maps.has] at hh
   | cons _ _=>simp[Maps.size]
  omega
 refine⟨rfl,s',_,l',wr',nt,c1,c2,h.rdr.keep (s':=s') hK (by simp[n1,n2,n3,n4,hxr]) c6 (by omega) hgo (fun hl=>?_),?_,c4,by omega,by omega,hsz,h.wrt.shop.keepO h.opa hK hk,h.wrt.shop.keepO h.opm hK hk,h.kp.trans hK (by intro i hi hlt;simp at hi;omega)⟩
 ·rw[he] at hl ⊢;refine c9 tr.nr rb rs r0 hgo.1 (fun zd=>?_) hl;rw[hgo.2 zd,h.rdr.at_ zd,he]
 ·rw[c5];show (if t.nr=s.wr then 0 else _)=(0:Int);rw[if_pos hnr]
end
section
variable {w0 w:World} {db St A C M xr:Nat} {tr:Tx} {r0:Root} {lv:Value} {j nM:Nat} {s:Sto} {D:DataW Unit} {l:List UInt8} {wr:Int} {nw:Root}
theorem Shu.done{x:Nat}{t:Tx}{r:Root}{m:Value}(h:Shu w0 w db St A C M xr tr r0 lv j nM s D l wr nw x t r m)(hj:j<3):
  Calls prog 31 #[.pointer (some ⟨x,0,none⟩)] w fun e w'=>e=.returned .nilIface∧∃ s' D' l' wr' nt,Sht w0 w' db St A C M xr tr r0 lv (j+1) nM s' D' l' wr' nt∧s'.bg=s.bg∧nt.cont=r.cont∧OPA w' w0.heap.size m (qB6 r.cont):=by
 refine (h.commit hj).mono ?_;rintro e w' ⟨rfl,s',D',l',wr',nt,c1,c2,c3,c4,c5,c6,c7,c8,c9,c10,c11⟩;have hb:=h.bg;have hn:=h.nm;have hr:=h.rlen;exact⟨rfl,s',D',l',wr',nt,{ shop:=c1,rdr:=c3,wr0:=c4,bg:=by rw[c5];omega,sN:=c6,nm:=by omega,len:=by rw[c2];exact hr,inn:=by rw[c2];exact h.rin,one:=c8,opa:=c9,kp:=c11,sM:=c7,low:=h.low },c5,c2,c10⟩
theorem Sht.now(h:Sht w0 w db St A C M xr tr r0 lv j nM s D l wr nw)(hj:j≤3)(hb:s.bg+1≤3+3*(j:Int))(hn:nM+1≤2+2*j):
  Calls prog 30 #[.pointer (some ⟨db,0,none⟩)] w fun e w'=>∃ v D',e=.returned (.tuple #[v,.bool true])∧OPA w' w.heap.size v (qB6 nw.cont)∧Kp [St,s.M,A] w w'∧Sht w0 w' db St A C M xr tr r0 lv j (nM+1) s.read D' l wr nw:=by
 have hb0:=h.shop.bg0;have hw:=h.wr0;refine (zF5 h.shop (by have:=h.one;omega) (by omega) (by omega) (by omega)).mono ?_;rintro e w' ⟨v,rfl,ho,hS,hK⟩;obtain⟨n1,n2,n3,n4⟩:=h.rdr.ne h.shop;have hs:=h.kp.size;obtain⟨l1,l2,l3,l4,l5,l6⟩:=h.low;have hM:=h.sM;have hk:∀ k∈[St,s.M,A],k∈[St,s.M,A,C]∨∃ t,w.heap[k]?=some (ψ t):=fun k hk=>.inl (by simp at hk ⊢;rcases hk with h | h | h<;>simp[h]);refine⟨v,(D.put (υ (s.bg+1)) (qD5 ⟨⟨#[]⟩,s.rb,s.rs,none⟩)).del (υ (s.bg+1)),rfl,ho,hK,?_⟩;exact { h with shop:=hS,rdr:=h.rdr.keep (s':=s.read) hK (by simp[n1,n2,n3]) rfl (by show s.bg≤s.bg+1;omega) (h.rdr.cycle _ (by omega) _) (fun h=>h),bg:=by show s.bg+1≤_;omega,nm:=by omega,one:=by rw[zV5 (w':=w') (nM':=nM) (s':=s) (l':=l) (wr':=wr) (nt:=nw) h.shop];exact h.one,opa:=h.shop.keepO h.opa hK hk,kp:=h.kp.trans hK (by intro i hi hlt;simp at hi;omega) }
theorem Sht.all(h:Sht w0 w db St A C M xr tr r0 lv j nM s D l wr nw):
  Calls prog 32 #[.pointer (some ⟨xr,0,none⟩)] w fun e w'=>∃ v,e=.returned (.tuple #[v,.bool true])∧OPA w' w.heap.size v (qB6 r0.cont)∧Kp [St,A] w w'∧Sht w0 w' db St A C M xr tr r0 lv j nM s D l wr nw:=by
 have hL:=h.rdr.live h.shop;refine (qX9 h.shop.E xr A 300 tr s r0 w hL).mono ?_;rintro e w' ⟨v,rfl,ho,hb⟩;obtain⟨n1,n2,n3,n4⟩:=h.rdr.ne h.shop;have hs:=h.kp.size;obtain⟨l1,l2,l3,l4,l5,l6⟩:=h.low;have hst:=h.rdr.st;have hK:Kp [St,A] w w':=hb.kp.mono (by
  intro i hi _;rw[hst] at hi;rcases List.mem_cons.1 hi with h|h
  ·simp[h]
  ·have h':i∈[A]:=h;simp at h';simp[h'])
 have hS:=h.shop.quiet h.rdr.hx (hK.mono (by simp +contextual)) hb.dev (by have:=hb.hSt;rw[hst] at this;exact this);have hk:∀ k∈[St,A],k∈[St,s.M,A,C]∨∃ t,w.heap[k]?=some (ψ t):=fun k hk=>.inl (by simp at hk ⊢;rcases hk with h | h<;>simp[h]);exact⟨v,rfl,ho,hK,{ h with shop:=hS,rdr:=h.rdr.keep hK (by simp[n1,n3]) rfl (Int.le_refl _) ⟨h.rdr.has,fun _=>rfl⟩ (fun h=>h),opa:=h.shop.keepO h.opa hK hk,kp:=h.kp.trans hK (by intro i hi hlt;simp at hi;omega) }⟩
theorem Sht.more(h:Sht w0 w db St A C M xr tr r0 lv j nM s D l wr nw){w':World}(hK:Kp [] w w'):Sht w0 w' db St A C M xr tr r0 lv j nM s D l wr nw:=
 { h with shop:=h.shop.more hK,rdr:=h.rdr.keep hK (by simp) rfl (Int.le_refl _) ⟨h.rdr.has,fun _=>rfl⟩ (fun h=>h),opa:=h.opa.keep hK (by simp),kp:=h.kp.tr hK }
end
theorem xQ0(x:Nat)(t:Tx)(s:Sto)(w:World)(hx:w.heap[x]?=some (ψ t))(ho:t.over=true)(hSt:w.heap[t.St]?=some (ν 0 s))(hpo:s.po=false)(hxS:x≠t.St):
  Calls prog 32 #[.pointer (some ⟨x,0,none⟩)] w fun e w'=>e=.returned (.tuple #[.slice none 0 0,.bool false])∧Kp [t.St] w w':=by
 have HC:Hid (Calls prog 71 #[.pointer (some ⟨x,0,none⟩),.string ⟨#[]⟩,.string ⟨#[255,255,255,255,255,255,255,255,255]⟩,.int .i64 1048576] w fun e w'=>∃ v,e=.returned (.tuple #[.slice none 0 0,v])∧qI0 w' v (some 5)∧w'.heap[t.St]?=some (ν 0 s)∧Kp [t.St] w w'):=xS0 x t s ⟨#[]⟩ qP1 1048576 w hx ho hSt hpo hxS;clear hx ho hSt hpo hxS;go_enter func32,ntmps32;go_wp2_with fail;refine (show Calls _ _ _ _ _ from HC.out).mono ?_;rintro e w1 ⟨v,rfl,⟨F,cl,rfl,_⟩,_,hK⟩;have HK:=zh hK;clear hK HC;go_wp2_with fail
 go_quiet (fail)
 go_wp2
 go_ret2
 exact⟨rfl,HK.out.drewN _⟩
section
variable {w0 w:World} {db St A C M xr:Nat} {tr:Tx} {r0:Root} {lv:Value} {j nM:Nat} {s:Sto} {D:DataW Unit} {l:List UInt8} {wr:Int} {nw:Root}
theorem Sht.put(h:Sht w0 w db St A C M xr tr r0 lv j nM s D l wr nw)(p:KV):
  Calls prog 34 #[.pointer (some ⟨xr,0,none⟩),.string p.k,.string p.v] w fun e w'=>∃ v,e=.returned v∧qI0 w' v (some 6)∧Sht w0 w' db St A C M xr tr r0 lv j nM s D l wr nw:=by
 have hL:=h.rdr.live h.shop;refine (jA1 h.shop.E xr A 300 tr s r0 p 6 w hL (by unfold qZ3;rw[if_pos h.rdr.wrt])).mono ?_;rintro e w' ⟨v,rfl,hv,hb⟩;obtain⟨n1,n2,n3,n4⟩:=h.rdr.ne h.shop;have hs:=h.kp.size;obtain⟨l1,l2,l3,l4,l5,l6⟩:=h.low;have hst:=h.rdr.st;have hK:Kp [St,A] w w':=hb.kp.mono (by
  intro i hi _;rw[hst] at hi;rcases List.mem_cons.1 hi with h|h
  ·simp[h]
  ·have h':i∈[A]:=h;simp at h';simp[h'])
 have hS:=h.shop.quiet h.rdr.hx (hK.mono (by simp +contextual)) hb.dev (by have:=hb.hSt;rw[hst] at this;exact this);have hk:∀ k∈[St,A],k∈[St,s.M,A,C]∨∃ t,w.heap[k]?=some (ψ t):=fun k hk=>.inl (by simp at hk ⊢;rcases hk with h | h<;>simp[h]);exact⟨v,rfl,hv,{ h with shop:=hS,rdr:=h.rdr.keep hK (by simp[n1,n3]) rfl (Int.le_refl _) ⟨h.rdr.has,fun _=>rfl⟩ (fun h=>h),opa:=h.shop.keepO h.opa hK hk,kp:=h.kp.trans hK (by intro i hi hlt;simp at hi;omega) }⟩
theorem Sht.end_(h:Sht w0 w db St A C M xr tr r0 lv j nM s D l wr nw)(hj:j≤3):
  Calls prog 31 #[.pointer (some ⟨xr,0,none⟩)] w fun e w'=>e=.returned .nilIface∧Kp [] w0 w'∧Calls prog 32 #[.pointer (some ⟨xr,0,none⟩)] w' fun e w''=>e=.returned (.tuple #[.slice none 0 0,.bool false])∧Kp [] w0 w'':=by
 obtain⟨n1,n2,n3,n4⟩:=h.rdr.ne h.shop;have hst:=h.rdr.st;have hb:=h.bg;have h1:=h.rdr.nr0;have h2:=h.rdr.nr1;obtain⟨l1,l2,l3,l4,l5,l6⟩:=h.low;have hM:=h.sM;have hs:=h.kp.size;have hMS:s.M≠tr.St:=by rw[hst];exact (qE5 h.shop.hSt h.shop.hM).symm
 refine (zZ2 xr nM s.V tr s D w h.rdr.hx h.rdr.over (by rw[hst];exact h.shop.hSt) h.shop.po h.shop.hM (by omega) (by omega) hMS (by rw[hst];exact n1) n2 h.shop.hM.lt h.rdr.on h.rdr.wrt).mono ?_;rintro e w' ⟨rfl,c1,c2,c3,hK⟩;rw[hst] at hK;have hkp:Kp [] w0 w':=h.kp.trans hK (by intro i hi hlt;simp at hi;omega);refine⟨rfl,hkp,(xQ0 xr tr.ended (s.left tr.nr) w' c1 rfl c2 h.shop.po (by show xr≠tr.St;rw[hst];exact n1)).mono ?_⟩;rintro e w'' ⟨rfl,hK2⟩;have hK3:Kp [St] w' w'':=by have h':Kp [tr.St] w' w'':=hK2;rw[hst] at h';exact h'
 have:=hkp.size;exact⟨rfl,hkp.trans hK3 (by intro i hi hlt;simp at hi;omega)⟩
end
end Go.Proofs.YtdohpenfkdckiaaGreatDoor
namespace Go.Proofs.YtdohpenfkdckiaaGreatDoor
open Go.Proofs.Tryz
open Go.RowKit
theorem zZ4{V A N C:Nat}{l:List UInt8}{wr:Int}{hN:N≤1000}{hs:l.length=N*128}{hAC:C≠A}{hVA:V≠A}{w:World}{h:HL}{r:Root}{rb rs:Int}(hr:RR (EL V A N C l wr hN hs hAC hVA).toEnv w h r)(hl:Lie N l rb rs r)(hg:RGood r):h=⟨⟨#[]⟩,rb,rs,none⟩:=by
 cases r with
 | none=>obtain⟨rfl,rfl⟩:=hl;exact hr
 | «at» n L=>
  obtain⟨b,rfl,e2,e3⟩:=hl;obtain⟨h1,h2⟩:=hr;rw[e2] at h2;obtain⟨f1,f2,f3,_⟩:=h2;cases h;simp only at h1 f1 f2 f3;rw[h1,f1,f2,f3,hg.1]
theorem xB9(a b c:Int)(ha0:-9223372036854775808≤a)(ha1:a≤9223372036854775807)(hb0:-9223372036854775808≤b)(hb1:b≤9223372036854775807)(hc0:-9223372036854775808≤c)(hc1:c≤9223372036854775807)(w:World)(h0:0<w.heap.size)(hg:w.cell? ⟨0,0,none⟩=some qN1):
  Calls prog 12 #[.int .i64 a,.int .i64 b,.int .i64 c] w fun e w'=>e=.returned (.bool true)∧Kp [] w w':=by
 have HG:Hid (0<w.heap.size∧w.cell? ⟨0,0,none⟩=some qN1):=⟨h0,hg⟩;clear h0 hg;have HB:Hid (Calls prog 18 #[.int .i64 300,.int .i64 a] w fun e w'=>∃ db St A C s l wr nw v,e=.returned (.tuple #[.pointer (some ⟨A,0,none⟩),.pointer (some ⟨db,0,none⟩),v])∧Shop w' 100 db St A C 300 1 s emp l wr nw∧OPA w' w.heap.size v (qB6 nw.cont)∧s.wr=0∧s.bg=2∧s.N≤10∧nw.cont.length≤43∧(⟨qE7,qJ5⟩:KV)∈nw.cont∧w.heap.size≤A∧w.heap.size≤C∧w.heap.size≤St∧w.heap.size≤db∧w.heap.size≤s.M∧Kp [] w w'):=xI9 300 100 (by omega) (by omega) (by omega) (by omega) a ha0 ha1 w;go_enter func12,ntmps12;go_wp2_with fail;refine (show Calls _ _ _ _ _ from HB.out).mono ?_;rintro e w1 ⟨db,St,A,C,s,l,wr,nw,v,rfl,hS1,ho1,hwr,hbg,hsN,hnw,hin,gA,gC,gSt,gdb,gM,hK1⟩;have HBR:Hid (Calls prog 29 #[.pointer (some ⟨db,0,none⟩),.bool false] w1 fun e w'=>∃ x t D',e=.returned (.tuple #[.pointer (some ⟨x,0,none⟩),.nilIface])∧w1.heap.size≤x∧t.St=St∧t.nr=s.bg+1∧t.wrt=false∧t.ch=0∧Kp [St,s.M] w1 w'∧D'=emp.put (υ (s.bg+1)) (qD5 ⟨⟨#[]⟩,s.rb,s.rs,none⟩)∧∃ hS':Shop w' 100 db St A C 300 (1+1) s.read D' l wr nw,LiveT hS'.E w' x A 300 t s.read nw):=hS1.beginR (by show 0<4;omega) (by omega) (by omega);have HS1:=zh hS1;obtain⟨ob,oc,rfl⟩:=qK0 ho1;obtain⟨sl,hsl⟩:∃ sl,sl=(qB6 nw.cont).length:=⟨_,rfl⟩;rw[←hsl] at ho1 ⊢;have HO1:=zh ho1;have HK1:=zh hK1;have HIN:=zh hin;clear hS1 ho1 hK1 HB hsl hin;go_wp2_with fail;refine (show Calls _ _ _ _ _ from HBR.out).mono ?_;rintro e w2 ⟨xr,tr,D,rfl,hx,t1,t2,t3,t4,hK2,hD,hS2,hL2⟩;have hs1:=HK1.out.size;have HSH:Hid (Sht w w2 db St A C s.M xr tr nw (.slice ob sl oc) 0 2 s.read D l wr nw):=by
  have hte:=zZ4 hL2.rr hS2.lie hS2.good;have hSM:∀ k∈[St,s.M],k∈[St,s.M,A,C]∨∃ t,w1.heap[k]?=some (ψ t):=fun k hk=>.inl (by simp at hk ⊢;rcases hk with h | h<;>simp[h]);have hem:Maps.Tidy emp:=⟨[],rfl,List.Pairwise.nil⟩;refine { shop:=hS2,rdr:={ hx:=hL2.hx,over:=hL2.over,on:=hL2.on,st:=t1,h:=⟨_,_,hte⟩,wrt:=t3,ch:=t4,nr0:=by rw[t2];omega,nr1:=by rw[t2];exact Int.le_refl _,has:=?_,at_:=?_,lie:=by rw[hte];exact hS2.lie,good:=hS2.good,sz:=hS2.sz },wr0:=hwr,bg:=by show s.bg+1≤_;omega,sN:=by show s.N≤_;omega,nm:=by omega,len:=by omega,inn:=HIN.out,one:=?_,opa:=HS1.out.keepO HO1.out hK2 hSM,kp:=HK1.out.trans hK2 (by intro i hi hlt;simp at hi;omega),sM:=rfl,low:=⟨gSt,gA,gC,gM,by omega,gdb⟩ }
  ·rw[hD,t2];exact Maps.has_put_same hem.isMap (show WideAt.IsKeyLit (υ _) from trivial) _
  ·intro zd;rw[hD,t2,Maps.atKey_put_same hem.isMap (show WideAt.IsKeyLit (υ _) from trivial),hte];rfl
  ·rw[hD,Maps.size_put hem,if_neg (by simp[emp,Maps.has])];rfl
 clear hL2;clear hS2 hD hK2 HBR HS1 HO1 HK1 t1 t2 t3 t4;obtain⟨M,hM⟩:∃ M,M=s.M:=⟨_,rfl⟩;rw[←hM] at HSH;clear hM gM hwr hbg hsN hnw HIN;have HS0:Hid (∃ nM s D l wr nw',Sht w w2 db St A C M xr tr nw (.slice ob sl oc) 0 nM s D l wr nw'):=⟨_,_,_,_,_,_,HSH.out⟩;clear HSH;go_wp2_with fail
 go_loopw [12] (fun i wq=>∃ (j:Nat),j≤3∧i=.int .i64 j∧Hid (∃ nM s D l wr nw',Sht w wq db St A C M xr tr nw (.slice ob sl oc) j nM s D l wr nw')) (fun i _=>3-(intOf i).toNat)
 case atStart=>exact⟨0,by omega,rfl,HS0⟩
 case round=>
  obtain⟨j,hj,rfl,HJ⟩:=hrel;by_cases hlt:j<3
  ·have hjb:(j:Int)<3:=by omega
   go_wp2_with fail;refine (zI0 c 12 hc0 hc1 (by omega) (by omega) _).mono ?_;rintro e w3 ⟨⟨k,rfl,hk0,hk12⟩,rfl⟩;obtain⟨bv,hbv⟩:∃ bv:Int,bv=wrap64 (b+(j:Int)):=⟨_,rfl⟩;have hv0:-9223372036854775808≤bv:=by rw[hbv];simp only[wrap64];omega
   have hv1:bv≤9223372036854775807:=by rw[hbv];simp only[wrap64];omega
   obtain⟨mk,hmk⟩:∃ mk:Nat,(mk:Int)=1+k:=⟨(1+k).toNat,by omega⟩;obtain⟨nM,s3,D3,l3,wr3,nw3,hSh⟩:=HJ.out;have hn3:=hSh.nm;have hb3:=hSh.bg;have HW:Hid (Calls prog 19 #[.pointer (some ⟨db,0,none⟩),.int .i64 (wrap64 (b+(j:Int))),.int .i64 (1+k)] w3 fun e w'=>∃ x t r v,e=.returned (.tuple #[.pointer (some ⟨x,0,none⟩),v])∧Shu w w' db St A C M xr tr nw (.slice ob sl oc) j nM s3.wrote D3 l3 wr3 nw3 x t r v):=by
    rw[←hbv,←hmk];exact hSh.writing hlt bv hv0 hv1 mk (by omega)
   have HNZ:Hid (0<(qB6 nw3.cont).length):=zK2 hSh.inn (by kernel_rfl);clear hSh hmk hbv HJ hv0 hv1;go_wp2_with fail;refine (show Calls _ _ _ _ _ from HW.out).mono ?_;rintro e w4 ⟨x,t,r,m1,rfl,hU4⟩;obtain⟨mb,mc,rfl⟩:=qK0 hU4.opm;obtain⟨ml,hml⟩:∃ ml,ml=(qB6 r.cont).length:=⟨_,rfl⟩;rw[←hml] at hU4 ⊢;have HML:=zh hml;have HU4:=zh hU4;clear hU4 HW hml;go_wp2_with fail;refine (show Calls _ _ _ _ _ from HU4.out.busy).mono ?_;rintro e w5 ⟨v5,rfl,⟨F,cl,rfl,hF⟩,hU5⟩;have HTO:Hid (Calls prog 24 #[.iface 243 (.pointer (some ⟨F,0,none⟩))] w5 fun e w'=>e=.returned (.int .i64 4)∧Kp [] w5 w'):=zW0 F cl 4 w5 (hU5.kp.zero HG.out.1 HG.out.2) hF;have HU5:=zh hU5;clear hU5 hF HU4;go_wp2_with fail;refine (show Calls _ _ _ _ _ from HTO.out).mono ?_;rintro e w6 ⟨rfl,hK6⟩;have HNOW:Hid (Calls prog 30 #[.pointer (some ⟨db,0,none⟩)] w6 fun e w'=>∃ v D',e=.returned (.tuple #[v,.bool true])∧OPA w' w.heap.size v (qB6 nw3.cont)∧Shu w w' db St A C M xr tr nw (.slice ob sl oc) j (nM+1) s3.wrote.read D' l3 wr3 nw3 x t r (.slice mb ml mc)):=(HU5.out.more hK6).now hlt (by show s3.bg+1≤_;omega) hn3;clear hK6 HTO HU5;go_wp2_with fail;refine (show Calls _ _ _ _ _ from HNOW.out).mono ?_;rintro e w7 ⟨v7,D7,rfl,ho7,hU7⟩;obtain⟨b7,c7,rfl⟩:=qK0 ho7;obtain⟨n7,hn7⟩:∃ n7,n7=(qB6 nw3.cont).length:=⟨_,rfl⟩;have hnz:=HNZ.out;rw[←hn7] at hnz ⊢;have HU7:=zh hU7;clear hU7 ho7 HNOW hn7 HNZ;go_wp2_with fail;refine (show Calls _ _ _ _ _ from HU7.out.done hlt).mono ?_;rintro e w8 ⟨rfl,s8,D8,l8,wr8,nt,hT8,hbg8,hnt,hom8⟩;have hbg8':s8.bg=s3.bg+1+1:=hbg8;have HNOW:Hid (Calls prog 30 #[.pointer (some ⟨db,0,none⟩)] w8 fun e w'=>∃ v D',e=.returned (.tuple #[v,.bool true])∧OPA w' w8.heap.size v (qB6 nt.cont)∧Kp [St,s8.M,A] w8 w'∧Sht w w' db St A C M xr tr nw (.slice ob sl oc) (j+1) (nM+1+1) s8.read D' l8 wr8 nt):=hT8.now (by omega) (by omega) (by omega);have HT8:=zh hT8;have HOM8:Hid (OPA w8 w.heap.size (.slice mb ml mc) (qB6 nt.cont)):=by rw[hnt];exact hom8
   have HNT:=zh hnt;clear hT8 hom8 hnt hbg8 hbg8' HU7;go_wp2_with fail;refine (show Calls _ _ _ _ _ from HNOW.out).mono ?_;rintro e w9 ⟨v9,D9,rfl,ho9,hK9,hT9⟩;have hom9:=HT8.out.shop.keepO HOM8.out hK9 (fun k hk=>.inl (by simp at hk ⊢;rcases hk with h | h | h<;>simp[h]));obtain⟨b9,c9,rfl⟩:=qK0 ho9;have hl9:(qB6 nt.cont).length=ml:=by rw[HNT.out];exact HML.out.symm
   have HALL:=zh hT9.all;have HT9:=zh hT9;have HO9:Hid (OPA w9 w.heap.size (.slice mb ml mc) (qB6 nt.cont)∧OPA w9 w8.heap.size (.slice b9 ml c9) (qB6 nt.cont)):=⟨hom9,by rw[hl9] at ho9;exact ho9⟩;rw[hl9];clear ho9 hK9 hT9 hom9 HNOW HT8 HOM8 hl9;go_wp2_with fail;refine (show Calls _ _ _ _ _ from HALL.out).mono ?_;rintro e w10 ⟨v10,rfl,ho10,hK10,hT10⟩;have hk10:∀ k∈[St,A],k∈[St,s8.read.M,A,C]∨∃ t,w9.heap[k]?=some (ψ t):=fun k hk=>.inl (by simp at hk ⊢;rcases hk with h | h<;>simp[h]);have hom10:=HT9.out.shop.keepO HO9.out.1 hK10 hk10;have hoa10:=HT9.out.shop.keepO HO9.out.2 hK10 hk10;have h79:nw.cont.length≤1000:=by have:=hT10.rdr.sz;omega
   have HS1:Hid (Calls prog 33 #[v10,.slice ob sl oc] w10 fun e w'=>e=.returned (.bool true)∧Kp [] w10 w'):=zB1 _ _ _ _ (qB6 nw.cont) w10 ho10 hT10.opa (by have:=zQ9 nw.cont;omega);have HS2:Hid (∀ w',Kp [] w10 w'→Calls prog 33 #[.slice b9 ml c9,.slice mb ml mc] w' fun e w''=>e=.returned (.bool true)∧Kp [] w' w''):=fun w' hK=>zB1 _ _ _ _ (qB6 nt.cont) w' (hoa10.keep hK (by simp)) (hom10.keep hK (by simp)) (by have:=zQ9 nt.cont;have:=hT10.len;omega);have HT10:=zh hT10;obtain⟨b10,c10,rfl⟩:=qK0 ho10;obtain⟨n10,hn10⟩:∃ n10,n10=(qB6 nw.cont).length:=⟨_,rfl⟩;rw[←hn10] at HS1 ⊢;clear ho10 hK10 hT10 hom10 hoa10 HALL HT9 HO9 hn10 h79;go_wp2_with fail;refine (show Calls _ _ _ _ _ from HS1.out).mono ?_;rintro e w11 ⟨rfl,hK11⟩;have HS3:=Hid.mk' (HS2.out w11 hK11);have HT11:=Hid.mk' (HT10.out.more hK11);clear hK11 HS1 HS2 HT10;go_wp2_with fail;refine (show Calls _ _ _ _ _ from HS3.out).mono ?_;rintro e w12 ⟨rfl,hK12⟩;have HT12:=Hid.mk' (HT11.out.more hK12);have hnz0:¬(n7:Int)=0:=by omega
   clear hK12 HS3 HT11;go_wp2;exact⟨⟨j+1,by omega,by go_num,⟨_,_,_,_,_,_,HT12.out⟩⟩,by simp[intOf];omega⟩
  ·have hj3:j=3:=by omega
   subst hj3;obtain⟨nM,s3,D3,l3,wr3,nw3,hSh⟩:=HJ.out;have HP:Hid (Calls prog 34 #[.pointer (some ⟨xr,0,none⟩),.string ⟨#[107]⟩,.string ⟨#[118]⟩] wr fun e w'=>∃ v,e=.returned v∧qI0 w' v (some 6)∧Sht w w' db St A C M xr tr nw (.slice ob sl oc) 3 nM s3 D3 l3 wr3 nw3):=hSh.put ⟨⟨#[107]⟩,⟨#[118]⟩⟩;clear hSh HJ;go_wp2_with fail;refine (show Calls _ _ _ _ _ from HP.out).mono ?_;rintro e w3 ⟨v3,rfl,⟨F,cl,rfl,hF⟩,hS3⟩;have HTO:Hid (Calls prog 24 #[.iface 243 (.pointer (some ⟨F,0,none⟩))] w3 fun e w'=>e=.returned (.int .i64 6)∧Kp [] w3 w'):=zW0 F cl 6 w3 (hS3.kp.zero HG.out.1 HG.out.2) hF;have HS3:=zh hS3;clear hS3 hF HP;go_wp2_with fail;refine (show Calls _ _ _ _ _ from HTO.out).mono ?_;rintro e w4 ⟨rfl,hK4⟩;have HC:=Hid.mk' ((HS3.out.more hK4).end_ (by omega));clear hK4 HTO HS3;go_wp2_with fail;refine (show Calls _ _ _ _ _ from HC.out).mono ?_;rintro e w5 ⟨rfl,_,hA⟩;have HA:=Hid.mk' hA;clear hA HC;go_wp2_with fail;refine (show Calls _ _ _ _ _ from HA.out).mono ?_;rintro e w6 ⟨rfl,hK6⟩;have HK6:=zh hK6;clear hK6 HA;go_wp2;go_ret;exact⟨rfl,HK6.out⟩
end Go.Proofs.YtdohpenfkdckiaaGreatDoor
