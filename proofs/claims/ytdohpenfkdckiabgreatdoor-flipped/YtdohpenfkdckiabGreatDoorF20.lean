import Derived.Test.YtdohpenfkdckiabGreatDoorF19
set_option linter.all false
set_option maxRecDepth 100000
set_option maxHeartbeats 20000000
namespace Go.Proofs.YtdohpenfkdckiabGreatDoor
open Go.Proofs.Tryz
open Go.RowKit
open Go.Maps (Keyed)
section
variable {w:World} {kc db St A C N nM:Nat} {s:Sto} {D:DataW Unit} {l:List UInt8} {wr:Int} {nw:Root}
theorem Shop0.turn(hS:Shop0 w kc db St A C N nM s D l wr nw){w':World}{L:List Nat}(hK:Kp L w w')(hdb:db ∉ L)(hdev:Devl s.V A N C l wr w'){s':Sto}{nM':Nat}{D':DataW Unit}(e:s'.V=s.V∧s'.N=s.N∧s'.rb=s.rb∧s'.rs=s.rs∧s'.bl=s.bl∧s'.po=s.po)
  (hSt:w'.heap[St]?=some (τ 0 s')) (hM:RM w' s'.V s'.M nM' D') (m4:Maps.size D'≤4) (n1:nM'≤1000000) (bg0:0≤s'.bg) (kb:∀ k,Maps.has D' k=true→∃ x,k=qA3 x∧1≤x∧x≤s'.bg)
  (rd:∀ x h,Maps.has D' (qA3 x)=true→(∀ zd,D'.atKey (qA3 x) zd=qE7 h)→h.p=none→h.key=⟨#[]⟩∧∃ r,Lie N l h.b h.s r∧RGood r∧r.cont.length≤kc):Shop0 w' kc db St A C N nM' s' D' l wr nw:=by
 obtain⟨e1,e2,e3,e4,e5,e6⟩:=e;exact { hDb:=hK.heap hS.hDb hdb,hSt:=hSt,po:=by rw[e6];exact hS.po,hM:=hM,m4:=m4,n1:=n1,dev:=by rw[e1];exact hdev,N8:=hS.N8,N4:=hS.N4,len:=hS.len,lie:=by rw[e3,e4];exact hS.lie,good:=hS.good,sz:=hS.sz,bl0:=by rw[e5];exact hS.bl0,bl1:=by rw[e5];exact hS.bl1,sN0:=by rw[e2];exact hS.sN0,bg0:=bg0,kb:=kb,rd:=rd }
theorem Shop0.neDb(hS:Shop0 w kc db St A C N nM s D l wr nw):db≠St∧db≠A∧db≠C∧db≠s.M:=by
 obtain⟨c,h⟩:=hS.hA;exact⟨qB7 hS.hDb hS.hSt (by decide),qB7 hS.hDb h (by decide),qB7 hS.hDb hS.dev.hC (by decide),qE3 hS.hDb hS.hM⟩
theorem Shop0.quiet(hS:Shop0 w kc db St A C N nM s D l wr nw){w':World}{x:Nat}{c:Array Value}(hx:w.heap[x]?=some (.cells c 85))(hK:Kp [St,x,A] w w')(hdev:Devl s.V A N C l wr w')(hSt:w'.heap[St]?=some (τ 0 s)):Shop0 w' kc db St A C N nM s D l wr nw:=by
 obtain⟨n1,n2,n3,n4⟩:=hS.neDb;obtain⟨cA,hA⟩:=hS.hA;have h1:s.M≠St:=(qE3 hS.hSt hS.hM).symm;have h2:s.M≠x:=(qE3 hx hS.hM).symm;have h3:s.M≠A:=(qE3 hA hS.hM).symm;exact hS.turn hK (by simp[n1,n2];exact qB7 hS.hDb hx (by decide)) hdev ⟨rfl,rfl,rfl,rfl,rfl,rfl⟩ hSt (hS.hM.kp hK (by simp[h1,h2,h3])) hS.m4 hS.n1 hS.bg0 hS.kb hS.rd
theorem Shop0.live(hS:Shop0 w kc db St A C N nM s D l wr nw){x:Nat}{t:Tx}(hx:w.heap[x]?=some (qA9 t))(ho:t.over=false)(hon:t.on=some ⟨s.V,0,none⟩)(hst:t.St=St)(hh:t.h=⟨⟨#[]⟩,s.rb,s.rs,none⟩)(hc:t.ch=0)(hk2:kc≤50000∧s.bl≤1000): LiveT hS.E w x A N t s nw:=
 { hx:=hx,over:=ho,on:=hon,hSt:=by rw[hst];exact hS.hSt,po:=hS.po,sV:=rfl,hV:=hS.dev.hV,n1:=hS.N1,bl0:=hS.bl0,bl1:=by have:=hS.bl1;have:=hS.sz;have:=hk2;omega,dev:=hS.dev,vS:=by show s.V ∉ [A];simpa using hS.VA,rr:=by rw[hh];exact hS.lie.rr hS.good w,good:=hS.good,sz:=by have:=hS.sz;have:=hk2;omega,ch0:=by omega,ch1:=by omega }
theorem Shop0.beginR(hS:Shop0 w kc db St A C N nM s D l wr nw)(h4:Maps.size D<4)(hnM:nM≤999999)(hbg:s.bg≤100000000)(hk2:kc≤50000∧s.bl≤1000):
  Calls prog 22 #[.pointer (some ⟨db,0,none⟩),.bool false] w fun e w'=>∃ x t D',e=.returned (.tuple #[.pointer (some ⟨x,0,none⟩),.nilIface])∧w.heap.size≤x∧t.St=St∧t.nr=s.bg+1∧t.wrt=false∧t.ch=0∧Kp [St,s.M] w w'∧D'=D.put (qA3 (s.bg+1)) (qE7 ⟨⟨#[]⟩,s.rb,s.rs,none⟩)∧∃ hS':Shop0 w' kc db St A C N (nM+1) s.read D' l wr nw,LiveT hS'.E w' x A N t s.read nw:=by
 obtain⟨n1,n2,n3,n4⟩:=hS.neDb;have h1:s.M≠St:=(qE3 hS.hSt hS.hM).symm;refine (zO0 db St nM s D w hS.hDb hS.hSt hS.hM hS.po n1 h1 n4 hS.hM.lt h4 (by omega) hS.bg0 hbg).mono ?_;rintro e w' ⟨x,rfl,hxs,hx,hSt,hM,hK⟩;have hoff:OffD w [St,s.M]:=(OffD.one hS.hSt (by decide)).cons (fun k hk c ty fr e=>by rw[List.mem_singleton.1 hk] at e;exact absurd rfl (qE3 e hS.hM));have hno:Maps.has D (qA3 (s.bg+1))=false:=by
  cases hh:Maps.has D (qA3 (s.bg+1)) with
  | false=>rfl
  | true=>obtain⟨y,e1,e2,e3⟩:=hS.kb _ hh;cases e1;omega
 have htd:=hS.hM.tidy qM4;have hS':Shop0 w' kc db St A C N (nM+1) s.read (D.put (qA3 (s.bg+1)) (qE7 ⟨⟨#[]⟩,s.rb,s.rs,none⟩)) l wr nw:=by
  refine hS.turn hK (by simp[n1,n4]) (qD9 hS.dev hK hoff) ⟨rfl,rfl,rfl,rfl,rfl,rfl⟩ hSt hM ?_ (by omega) (by show 0≤s.bg+1;have:=hS.bg0;omega) (fun k hk=>?_) (fun y h g1 g2 g3=>?_)
  ·rw[Maps.size_put htd,if_neg (by simp[hno])];omega
  ·by_cases e:k=qA3 (s.bg+1)
   ·exact⟨s.bg+1,e,by have:=hS.bg0;omega,Int.le_refl _⟩
   ·rw[Maps.has_put_other e] at hk;obtain⟨y,e1,e2,e3⟩:=hS.kb k hk;exact⟨y,e1,e2,by show y≤s.bg+1;omega⟩
  ·by_cases e:qA3 y=qA3 (s.bg+1)
   ·rw[e] at g2;have g4:=g2 (.lit (.int .i64 0));rw[Maps.atKey_put_same htd.isMap (show WideAt.IsKeyLit (qA3 _) from trivial)] at g4;have g5:=zD9 g4.symm g3 rfl;rw[g5];exact⟨rfl,nw,hS.lie,hS.good,hS.sz⟩
   ·rw[Maps.has_put_other e] at g1;exact hS.rd y h g1 (fun zd=>by rw[←g2 zd,Maps.atKey_put_other e]) g3
 exact⟨x,_,_,rfl,hxs,rfl,rfl,rfl,rfl,hK,rfl,hS',hS'.live hx rfl rfl rfl rfl rfl hk2⟩
theorem Shop0.abort(hS:Shop0 w kc db St A C N nM s D l wr nw){x:Nat}{t:Tx}{r:Root}(hL:LiveT hS.E w x A N t s r)(hst:t.St=St)(h0:0≤t.nr)(h1:t.nr≤1000000000):
  Calls prog 29 #[.pointer (some ⟨x,0,none⟩)] w fun e w'=>e=.returned .nilIface∧w'.heap[x]?=some (qA9 t.ended)∧Shop0 w' kc db St A C N nM (s.left t.nr) (D.del (qA3 t.nr)) l wr nw∧Kp [St,x,s.M] w w':=by
 subst hst;obtain⟨n1,n2,n3,n4⟩:=hS.neDb;have hMS:s.M≠t.St:=(qE3 hS.hSt hS.hM).symm;have hxM:x≠s.M:=qE3 hL.hx hS.hM;have hoff:OffD w [t.St,x,s.M]:=(OffD.one hL.hSt (by decide)).cons ((OffD.one hL.hx (by decide)).cons (fun k hk c ty fr e=>by rw[List.mem_singleton.1 hk] at e;exact absurd rfl (qE3 e hS.hM)));refine (zM6 x nM t s D w hL.hx hL.over hS.hSt hS.po hS.hM h0 h1 hMS hL.xS hxM hS.hM.lt).mono ?_;rintro e w' ⟨rfl,hx,hSt,hM,hK⟩;have htd:=hS.hM.tidy qM4;refine⟨rfl,hx,hS.turn hK (by simp[n1,n4];exact qB7 hS.hDb hL.hx (by decide)) (qD9 hS.dev hK hoff) ⟨rfl,rfl,rfl,rfl,rfl,rfl⟩ hSt hM ?_ hS.n1 hS.bg0 (fun k hk=>?_) (fun y h g1 g2 g3=>?_),hK⟩
 ·have:=Maps.size_del (k:=qA3 t.nr) htd;have:=hS.m4;omega
 ·by_cases e:k=qA3 t.nr
  ·rw[e,Maps.has_del_same] at hk;cases hk
  ·rw[Maps.has_del_other e] at hk;exact hS.kb k hk
 ·by_cases e:qA3 y=qA3 t.nr
  ·rw[e,Maps.has_del_same] at g1;cases g1
  ·rw[Maps.has_del_other e] at g1;exact hS.rd y h g1 (fun zd=>by rw[←g2 zd,Maps.atKey_del_other e]) g3
theorem Shop.turn(hS:Shop w kc db St A C N nM s D l wr nw){w':World}{L:List Nat}(hK:Kp L w w')(hdb:db ∉ L)(hdev:Devl s.V A N C l wr w'){s':Sto}{nM':Nat}{D':DataW Unit}(e:s'.V=s.V∧s'.N=s.N∧s'.rb=s.rb∧s'.rs=s.rs∧s'.bl=s.bl∧s'.po=s.po)
  (hSt:w'.heap[St]?=some (τ 0 s')) (hM:RM w' s'.V s'.M nM' D') (m4:Maps.size D'≤4) (n1:nM'≤1000000) (bg0:0≤s'.bg) (kb:∀ k,Maps.has D' k=true→∃ x,k=qA3 x∧1≤x∧x≤s'.bg)
  (rd:∀ x h,Maps.has D' (qA3 x)=true→(∀ zd,D'.atKey (qA3 x) zd=qE7 h)→h.p=none→h.key=⟨#[]⟩∧∃ r,Lie N l h.b h.s r∧RGood r∧r.cont.length≤kc):Shop w' kc db St A C N nM' s' D' l wr nw:=by
 obtain⟨e1,e2,e3,e4,e5,e6⟩:=e;exact { hDb:=hK.heap hS.hDb hdb,hSt:=hSt,po:=by rw[e6];exact hS.po,hM:=hM,m4:=m4,n1:=n1,dev:=by rw[e1];exact hdev,N8:=hS.N8,N4:=hS.N4,len:=hS.len,lie:=by rw[e3,e4];exact hS.lie,good:=hS.good,heads:=by rw[e2,e3,e4];exact hS.heads,kc1:=hS.kc1,sz:=hS.sz,bl0:=by rw[e5];exact hS.bl0,bl1:=by rw[e5];exact hS.bl1,sN0:=by rw[e2];exact hS.sN0,bg0:=bg0,kb:=kb,rd:=rd }
theorem Shop.neDb(hS:Shop w kc db St A C N nM s D l wr nw):db≠St∧db≠A∧db≠C∧db≠s.M:=by
 obtain⟨c,h⟩:=hS.hA;exact⟨qB7 hS.hDb hS.hSt (by decide),qB7 hS.hDb h (by decide),qB7 hS.hDb hS.dev.hC (by decide),qE3 hS.hDb hS.hM⟩
theorem Shop.quiet(hS:Shop w kc db St A C N nM s D l wr nw){w':World}{x:Nat}{c:Array Value}(hx:w.heap[x]?=some (.cells c 85))(hK:Kp [St,x,A] w w')(hdev:Devl s.V A N C l wr w')(hSt:w'.heap[St]?=some (τ 0 s)):Shop w' kc db St A C N nM s D l wr nw:=by
 obtain⟨n1,n2,n3,n4⟩:=hS.neDb;obtain⟨cA,hA⟩:=hS.hA;have h1:s.M≠St:=(qE3 hS.hSt hS.hM).symm;have h2:s.M≠x:=(qE3 hx hS.hM).symm;have h3:s.M≠A:=(qE3 hA hS.hM).symm;exact hS.turn hK (by simp[n1,n2];exact qB7 hS.hDb hx (by decide)) hdev ⟨rfl,rfl,rfl,rfl,rfl,rfl⟩ hSt (hS.hM.kp hK (by simp[h1,h2,h3])) hS.m4 hS.n1 hS.bg0 hS.kb hS.rd
theorem Shop.live(hS:Shop w kc db St A C N nM s D l wr nw){x:Nat}{t:Tx}(hx:w.heap[x]?=some (qA9 t))(ho:t.over=false)(hon:t.on=some ⟨s.V,0,none⟩)(hst:t.St=St)(hh:t.h=⟨⟨#[]⟩,s.rb,s.rs,none⟩)(hc:t.ch=0):LiveT hS.E w x A N t s nw:=
 { hx:=hx,over:=ho,on:=hon,hSt:=by rw[hst];exact hS.hSt,po:=hS.po,sV:=rfl,hV:=hS.dev.hV,n1:=hS.N1,bl0:=hS.bl0,bl1:=by have:=hS.bl1;have:=hS.sz;have:=hS.kc1;omega,dev:=hS.dev,vS:=by show s.V ∉ [A];simpa using hS.VA,rr:=by rw[hh];exact hS.lie.rr hS.good w,good:=hS.good,sz:=by have:=hS.sz;have:=hS.kc1;omega,ch0:=by omega,ch1:=by omega }
theorem Shop.beginW(hS:Shop w kc db St A C N nM s D l wr nw)(hw:s.wr=0)(hbg:s.bg≤100000000):
  Calls prog 22 #[.pointer (some ⟨db,0,none⟩),.bool true] w fun e w'=>∃ x t,e=.returned (.tuple #[.pointer (some ⟨x,0,none⟩),.nilIface])∧w.heap.size≤x∧t.St=St∧t.nr=s.bg+1∧t.wrt=true∧t.ch=0∧Kp [St] w w'∧∃ hS':Shop w' kc db St A C N nM s.wrote D l wr nw,LiveT hS'.E w' x A N t s.wrote nw:=by
 obtain⟨n1,n2,n3,n4⟩:=hS.neDb;have h1:s.M≠St:=(qE3 hS.hSt hS.hM).symm;refine (xI6 db St nM s D w hS.hDb hS.hSt hS.hM hS.po n1 h1 hS.hM.lt hw hS.bg0 hbg).mono ?_;rintro e w' ⟨x,rfl,hxs,hx,hSt,hM,hK⟩;have hS':Shop w' kc db St A C N nM s.wrote D l wr nw:=hS.turn hK (by simpa using n1) (qD9 hS.dev hK (OffD.one hS.hSt (by decide))) ⟨rfl,rfl,rfl,rfl,rfl,rfl⟩ hSt hM hS.m4 hS.n1 (by show 0≤s.bg+1;have:=hS.bg0;omega) (fun k hk=>by obtain⟨y,e1,e2,e3⟩:=hS.kb k hk;exact⟨y,e1,e2,by show y≤s.bg+1;omega⟩) hS.rd;exact⟨x,_,rfl,hxs,rfl,rfl,rfl,rfl,hK,hS',hS'.live hx rfl rfl rfl rfl rfl⟩
theorem Shop.beginR(hS:Shop w kc db St A C N nM s D l wr nw)(h4:Maps.size D<4)(hnM:nM≤999999)(hbg:s.bg≤100000000):
  Calls prog 22 #[.pointer (some ⟨db,0,none⟩),.bool false] w fun e w'=>∃ x t D',e=.returned (.tuple #[.pointer (some ⟨x,0,none⟩),.nilIface])∧w.heap.size≤x∧t.St=St∧t.nr=s.bg+1∧t.wrt=false∧t.ch=0∧Kp [St,s.M] w w'∧D'=D.put (qA3 (s.bg+1)) (qE7 ⟨⟨#[]⟩,s.rb,s.rs,none⟩)∧∃ hS':Shop w' kc db St A C N (nM+1) s.read D' l wr nw,LiveT hS'.E w' x A N t s.read nw:=by
 obtain⟨n1,n2,n3,n4⟩:=hS.neDb;have h1:s.M≠St:=(qE3 hS.hSt hS.hM).symm;refine (zO0 db St nM s D w hS.hDb hS.hSt hS.hM hS.po n1 h1 n4 hS.hM.lt h4 (by omega) hS.bg0 hbg).mono ?_;rintro e w' ⟨x,rfl,hxs,hx,hSt,hM,hK⟩;have hoff:OffD w [St,s.M]:=(OffD.one hS.hSt (by decide)).cons (fun k hk c ty fr e=>by rw[List.mem_singleton.1 hk] at e;exact absurd rfl (qE3 e hS.hM));have hno:Maps.has D (qA3 (s.bg+1))=false:=by
  cases hh:Maps.has D (qA3 (s.bg+1)) with
  | false=>rfl
  | true=>obtain⟨y,e1,e2,e3⟩:=hS.kb _ hh;cases e1;omega
 have htd:=hS.hM.tidy qM4;have hS':Shop w' kc db St A C N (nM+1) s.read (D.put (qA3 (s.bg+1)) (qE7 ⟨⟨#[]⟩,s.rb,s.rs,none⟩)) l wr nw:=by
  refine hS.turn hK (by simp[n1,n4]) (qD9 hS.dev hK hoff) ⟨rfl,rfl,rfl,rfl,rfl,rfl⟩ hSt hM ?_ (by omega) (by show 0≤s.bg+1;have:=hS.bg0;omega) (fun k hk=>?_) (fun y h g1 g2 g3=>?_)
  ·rw[Maps.size_put htd,if_neg (by simp[hno])];omega
  ·by_cases e:k=qA3 (s.bg+1)
   ·exact⟨s.bg+1,e,by have:=hS.bg0;omega,Int.le_refl _⟩
   ·rw[Maps.has_put_other e] at hk;obtain⟨y,e1,e2,e3⟩:=hS.kb k hk;exact⟨y,e1,e2,by show y≤s.bg+1;omega⟩
  ·by_cases e:qA3 y=qA3 (s.bg+1)
   ·rw[e] at g2;have g4:=g2 (.lit (.int .i64 0));rw[Maps.atKey_put_same htd.isMap (show WideAt.IsKeyLit (qA3 _) from trivial)] at g4;have g5:=zD9 g4.symm g3 rfl;rw[g5];exact⟨rfl,nw,hS.lie,hS.good,hS.sz⟩
   ·rw[Maps.has_put_other e] at g1;exact hS.rd y h g1 (fun zd=>by rw[←g2 zd,Maps.atKey_put_other e]) g3
 exact⟨x,_,_,rfl,hxs,rfl,rfl,rfl,rfl,hK,rfl,hS',hS'.live hx rfl rfl rfl rfl rfl⟩
theorem Shop.abort(hS:Shop w kc db St A C N nM s D l wr nw){x:Nat}{t:Tx}{r:Root}(hL:LiveT hS.E w x A N t s r)(hst:t.St=St)(h0:0≤t.nr)(h1:t.nr≤1000000000):
  Calls prog 29 #[.pointer (some ⟨x,0,none⟩)] w fun e w'=>e=.returned .nilIface∧w'.heap[x]?=some (qA9 t.ended)∧Shop w' kc db St A C N nM (s.left t.nr) (D.del (qA3 t.nr)) l wr nw∧Kp [St,x,s.M] w w':=by
 subst hst;obtain⟨n1,n2,n3,n4⟩:=hS.neDb;have hMS:s.M≠t.St:=(qE3 hS.hSt hS.hM).symm;have hxM:x≠s.M:=qE3 hL.hx hS.hM;have hoff:OffD w [t.St,x,s.M]:=(OffD.one hL.hSt (by decide)).cons ((OffD.one hL.hx (by decide)).cons (fun k hk c ty fr e=>by rw[List.mem_singleton.1 hk] at e;exact absurd rfl (qE3 e hS.hM)));refine (zM6 x nM t s D w hL.hx hL.over hS.hSt hS.po hS.hM h0 h1 hMS hL.xS hxM hS.hM.lt).mono ?_;rintro e w' ⟨rfl,hx,hSt,hM,hK⟩;have htd:=hS.hM.tidy qM4;refine⟨rfl,hx,hS.turn hK (by simp[n1,n4];exact qB7 hS.hDb hL.hx (by decide)) (qD9 hS.dev hK hoff) ⟨rfl,rfl,rfl,rfl,rfl,rfl⟩ hSt hM ?_ hS.n1 hS.bg0 (fun k hk=>?_) (fun y h g1 g2 g3=>?_),hK⟩
 ·have:=Maps.size_del (k:=qA3 t.nr) htd;have:=hS.m4;omega
 ·by_cases e:k=qA3 t.nr
  ·rw[e,Maps.has_del_same] at hk;cases hk
  ·rw[Maps.has_del_other e] at hk;exact hS.kb k hk
 ·by_cases e:qA3 y=qA3 t.nr
  ·rw[e,Maps.has_del_same] at g1;cases g1
  ·rw[Maps.has_del_other e] at g1;exact hS.rd y h g1 (fun zd=>by rw[←g2 zd,Maps.atKey_del_other e]) g3
theorem Shop.commit(hS:Shop w kc db St A C N nM s D l wr nw){x q:Nat}{t:Tx}{r:Root}(hL:LiveT hS.E w x A N t s r)(hst:t.St=St)(hwr:t.wrt=true)(h0:0≤t.nr)(h1:t.nr≤1000000000)(hp:t.h.p=some q)(hrk:r.cont.length≤kc)(hN9:s.N≤999999999)
  (hfit:qC3 r+r.news+Maps.size D*kc+qC3 nw+2≤N):
  Calls prog 14 #[.pointer (some ⟨x,0,none⟩)] w fun e w'=>e=.returned .nilIface∧∃ s' l' nt,Shop w' kc db St A C N nM s' (D.del (qA3 t.nr)) l' (nx (nk (nx wr) r.news)) nt∧nt.cont=r.cont∧s'.N=s.N+2∧s'.bg=s.bg∧s'.wr=(s.left t.nr).wr∧s'.V=s.V∧s'.M=s.M∧w'.heap[x]?=some (qA9 t.ended)∧Kp [St,x,s.M,A,C] w w'∧Thn N (D.del (qA3 t.nr)) l l' nw r:=by
 have htd:=hS.hM.tidy qM4;have hsd:=Maps.size_del (k:=qA3 t.nr) htd;have hle:Maps.size (D.del (qA3 t.nr))≤Maps.size D:=by omega
 refine xB4 hS x t r hL hst hwr h0 h1 (fun W=>xC8 s.V q t.h s.rb s.rs hp hL.key W) hrk hN9 (fun k hk=>?_) (by have:=hS.m4;omega) (by have:=Nat.mul_le_mul_right kc hle;omega);by_cases e:k=qA3 t.nr
 ·rw[e,Maps.has_del_same] at hk;cases hk
 ·rw[Maps.has_del_other e] at hk;exact⟨hk,fun zd=>Maps.atKey_del_other e zd⟩
end
end Go.Proofs.YtdohpenfkdckiabGreatDoor
namespace Go.Proofs.YtdohpenfkdckiabGreatDoor
open Go.Proofs.Tryz
open Go.RowKit
def qR8:ByteArray:=⟨#[255,255,255,255,255,255,255,255,255]⟩
def qB5(ps:List KV):List KV:=qF9 ps ⟨#[]⟩ qR8 1048576
theorem BadT.tail{E:SEnv}{w w' w2:World}{t:Tx}{s:Sto}(h:BadT E w w' t s)(hK:Kp [] w' w2):BadT E w w2 t s:=
 ⟨(Env.To.of0 h.dev hK).dev,hK.hp h.hSt,h.kp.tr hK⟩
theorem zB0(E:SEnv)(x A n:Nat)(t:Tx)(s:Sto)(r:Root)(w:World)(hL:LiveT E w x A n t s r):
  Calls prog 36 #[.pointer (some ⟨x,0,none⟩)] w fun e w'=>∃ v,e=.returned (.tuple #[v,.bool true])∧OPA w' w.heap.size v (qB5 r.cont)∧BadT E w w' t s:=by
 have HC:Hid (Calls prog 61 #[.pointer (some ⟨x,0,none⟩),.string ⟨#[]⟩,.string ⟨#[255,255,255,255,255,255,255,255,255]⟩,.int .i64 1048576] w fun e w'=>∃ v,e=.returned (.tuple #[v,.nilIface])∧OPA w' w.heap.size v (qB5 r.cont)∧BadT E w w' t s):=jO7 E x A n t s r ⟨#[]⟩ qR8 1048576 w hL (by decide) (by decide);clear hL;go_enter func36,ntmps36;go_wp2_with fail;refine (show Calls _ _ _ _ _ from HC.out).mono ?_;rintro e w1 ⟨v,rfl,ho,hb⟩;have HE:Hid (OPA w1 w.heap.size v (qB5 r.cont)∧BadT E w w1 t s):=⟨ho,hb⟩;clear ho hb HC;go_wp2_with fail
 go_quiet (fail)
 go_wp2
 go_ret2
 exact⟨v,rfl,HE.out.1.keep ((Kp.refl [] w1).drewN _) (by simp),HE.out.2.tail ((Kp.refl [] w1).drewN _)⟩
theorem Slc.pairT{T:TypeId}{w:World}{v:Value}{ps:List KV}(h:Slc w T 2 v ps.length (qA8 ps))(hn:1≤ps.length):
  ∃ g off cap cur fr,v=.slice (some ⟨g,off,none⟩) ps.length cap∧ps.length≤cap∧w.heap[g]?=some (.cells cur T fr)∧∀ i (h:i<ps.length),cur[off+i*2]?=some (.string ps[i].k)∧cur[off+i*2+1]?=some (.string ps[i].v):=by
 rcases h.val with⟨h0,_⟩|⟨g,off,cap,cur,fr,h1,h2,h3,h4,h5⟩
 ·omega
 ·exact⟨g,off,cap,cur,fr,h1,h3,h4,fun i hi=>⟨h5 _ _ (zC6 hi).1,h5 _ _ (zC6 hi).2⟩⟩
theorem jB0(ba bb:Nat)(va vb:Value)(ps:List KV)(w:World)(ha:OPA w ba va ps)(hb:OPA w bb vb ps)(hn:ps.length≤1000000):
  Calls prog 18 #[va,vb] w fun e w'=>e=.returned (.bool true)∧Kp [] w w':=by
 have sa:=qG3 ha;have sb:=qG3 hb;obtain⟨abs,acp,rfl⟩:=qL0 ha;obtain⟨bbs,bcp,rfl⟩:=qL0 hb;obtain⟨ln,hln⟩:∃ ln,ln=ps.length:=⟨_,rfl⟩;have HA:Hid (Slc w 64 2 (.slice abs ln acp) ps.length (qA8 ps)):=by rw[hln];exact sa
 have HB:Hid (Slc w 64 2 (.slice bbs ln bcp) ps.length (qA8 ps)):=by rw[hln];exact sb
 have HLN:=zh hln;rw[←hln] at hn ⊢;clear ha hb sa sb hln;go_enter func18,ntmps18;go_wp2_with fail
 go_loopw [5] (fun i wr=>∃ (j:Nat),j≤ln∧i=.int .i64 j∧Hid (Kp [] w wr)) (fun i _=>ln-(intOf i).toNat)
 case atStart=>exact⟨0,Nat.zero_le _,rfl,Kp.refl _ _⟩
 case round=>
  obtain⟨j,hj,rfl,HK⟩:=hrel;by_cases hlt:j<ln
  ·have hjb:(j:Int)<(ln:Int):=by omega
   have hjp:j<ps.length:=by have:=HLN.out;omega
   obtain⟨ga,oa,ca,cua,fra,e1,e2,e3,e4⟩:=(HA.out.keep0 HK.out).pairT (by omega);obtain⟨gb,ob,cb,cub,frb,f1,f2,f3,f4⟩:=(HB.out.keep0 HK.out).pairT (by omega);cases e1;cases f1;have a0:=ξ e3 (oa+j*2);rw[(e4 j hjp).1] at a0;have a1:=ξ e3 (oa+j*2+1);rw[(e4 j hjp).2] at a1;have b0:=ξ f3 (ob+j*2);rw[(f4 j hjp).1] at b0;have b1:=ξ f3 (ob+j*2+1);rw[(f4 j hjp).2] at b1;have hga:=ζ e3;have hgb:=ζ f3;clear e3 f3 e4 f4;go_wp2_with fail
   go_quiet (fail)
   go_wp2;exact⟨⟨j+1,by omega,by go_num,HK.out.drewN _⟩,by simp[intOf];omega⟩
  ·have hjb:¬(j:Int)<(ln:Int):=by omega
   go_wp2;go_ret;exact⟨rfl,HK.out⟩
section
variable {w:World} {kc db St A C N nM:Nat} {s:Sto} {D:DataW Unit} {l:List UInt8} {wr:Int} {nw:Root}
theorem jA8(hS:Shop0 w kc db St A C N nM s D l wr nw)(h4:Maps.size D<4)(hnM:nM≤999999)(hbg:s.bg≤100000000)(hwb:s.wr≤s.bg)(hk2:kc≤50000∧s.bl≤1000):
  Calls prog 17 #[.pointer (some ⟨db,0,none⟩)] w fun e w'=>∃ v,e=.returned (.tuple #[v,.bool true])∧OPA w' w.heap.size v (qB5 nw.cont)∧Shop0 w' kc db St A C N (nM+1) s.read ((D.put (qA3 (s.bg+1)) (qE7 ⟨⟨#[]⟩,s.rb,s.rs,none⟩)).del (qA3 (s.bg+1))) l wr nw∧Kp [St,s.M,A] w w':=by
 have HB:Hid (Calls prog 22 #[.pointer (some ⟨db,0,none⟩),.bool false] w fun e w'=>∃ x t D',e=.returned (.tuple #[.pointer (some ⟨x,0,none⟩),.nilIface])∧w.heap.size≤x∧t.St=St∧t.nr=s.bg+1∧t.wrt=false∧t.ch=0∧Kp [St,s.M] w w'∧D'=D.put (qA3 (s.bg+1)) (qE7 ⟨⟨#[]⟩,s.rb,s.rs,none⟩)∧∃ hS':Shop0 w' kc db St A C N (nM+1) s.read D' l wr nw,LiveT hS'.E w' x A N t s.read nw):=hS.beginR h4 hnM hbg hk2;have hbg0:=hS.bg0;obtain⟨cA,hA⟩:=hS.hA;have hAs:=ζ hA;clear hS hA;go_enter func17,ntmps17;go_wp2_with fail;refine (show Calls _ _ _ _ _ from HB.out).mono ?_;rintro e w1 ⟨x,t,D',rfl,hx,ht1,ht2,ht3,ht4,hK1,rfl,hS1,hL1⟩;have HALL:Hid (Calls prog 36 #[.pointer (some ⟨x,0,none⟩)] w1 fun e w'=>∃ v,e=.returned (.tuple #[v,.bool true])∧OPA w' w1.heap.size v (qB5 nw.cont)∧BadT hS1.E w1 w' t s.read):=zB0 hS1.E x A N t s.read nw w1 hL1;have HL1:=zh hL1;have HS1:=zh hS1;have HK1:=zh hK1;have hs1:=hK1.size;clear hL1 hK1 HB;go_wp2_with fail;refine (show Calls _ _ _ _ _ from HALL.out).mono ?_;rintro e w2 ⟨v,rfl,ho2,hb2⟩;have hL2:=HL1.out.stay hb2;have hK2:Kp [St,x,A] w1 w2:=hb2.kp.mono (by
  intro i hi _;rw[ht1] at hi;rcases List.mem_cons.1 hi with h|h
  ·simp[h]
  ·have h':i∈[A]:=h;simp at h';simp[h'])
 have hS2:=HS1.out.quiet HL1.out.hx hK2 hb2.dev (by have:=hb2.hSt;rw[ht1] at this;exact this);have HAB:Hid (Calls prog 29 #[.pointer (some ⟨x,0,none⟩)] w2 fun e w'=>e=.returned .nilIface∧w'.heap[x]?=some (qA9 t.ended)∧Shop0 w' kc db St A C N (nM+1) (s.read.left t.nr) ((D.put (qA3 (s.bg+1)) (qE7 ⟨⟨#[]⟩,s.rb,s.rs,none⟩)).del (qA3 t.nr)) l wr nw∧Kp [St,x,s.M] w2 w'):=hS2.abort hL2 ht1 (by omega) (by omega);have HO2:=zh ho2;have HK2:Hid (Kp [St,s.M,A] w w2):=(HK1.out.mono (by simp +contextual)).trans hK2 (by intro i hi hlt;simp at hi ⊢;omega);have HN:Hid (∀ k∈[St,x,s.M],∀ c fr,w2.heap[k]?≠some (.cells c 64 fr)):=by
  show ∀ k∈[St,x,s.M],∀ c fr,w2.heap[k]?≠some (.cells c 64 fr);intro k hk c fr e;simp only[List.mem_cons,List.not_mem_nil,or_false] at hk;rcases hk with rfl|rfl|rfl
  ·rw[hS2.hSt] at e;simp[τ] at e
  ·rw[hL2.hx] at e;simp[qA9] at e
  ·exact absurd rfl (qE3 e hS2.hM)
 obtain⟨ob,oc,rfl⟩:=qL0 ho2;obtain⟨sl,hsl⟩:∃ sl,sl=(qB5 nw.cont).length:=⟨_,rfl⟩;rw[←hsl] at HO2 ⊢;clear ho2 hb2 hL2 hK2 hS2 HALL hsl;go_wp2_with fail;refine (show Calls _ _ _ _ _ from HAB.out).mono ?_;rintro e w3 ⟨rfl,_,hS3,hK3⟩;have HE:Hid (OPA w3 w.heap.size (.slice ob sl oc) (qB5 nw.cont)∧Shop0 w3 kc db St A C N (nM+1) s.read ((D.put (qA3 (s.bg+1)) (qE7 ⟨⟨#[]⟩,s.rb,s.rs,none⟩)).del (qA3 (s.bg+1))) l wr nw∧Kp [St,s.M,A] w w3):=by
  refine⟨qI7 (OPA.keep HO2.out hK3 HN.out) (by omega),?_,HK2.out.trans hK3 (by intro i hi hlt;simp at hi ⊢;omega)⟩;have e:s.read.left t.nr=s.read:=by
   have hne:¬t.nr=s.read.wr:=by show ¬t.nr=s.wr;omega
   simp[Sto.left,if_neg hne]
  rw[e,ht2] at hS3;exact hS3
 clear hS3 hK3 HAB;go_wp2_with fail
 go_quiet (fail)
 go_wp2
 go_ret2
 obtain⟨e1,e2,e3⟩:=HE.out;have hd:=(Kp.refl [] w3).drewN nq;exact⟨_,rfl,e1.keep hd (by simp),e2.turn (hd.mono (S':=[]) (by simp)) (by simp) (qD9 e2.dev hd (by intro k hk;cases hk)) ⟨rfl,rfl,rfl,rfl,rfl,rfl⟩ (hd.hp e2.hSt) (e2.hM.kp hd (by simp)) e2.m4 e2.n1 e2.bg0 e2.kb e2.rd,e3.tr hd⟩
theorem jA9(hS:Shop w kc db St A C N nM s D l wr nw)(h4:Maps.size D<4)(hnM:nM≤999999)(hbg:s.bg≤100000000)(hwb:s.wr≤s.bg):
  Calls prog 17 #[.pointer (some ⟨db,0,none⟩)] w fun e w'=>∃ v,e=.returned (.tuple #[v,.bool true])∧OPA w' w.heap.size v (qB5 nw.cont)∧Shop w' kc db St A C N (nM+1) s.read ((D.put (qA3 (s.bg+1)) (qE7 ⟨⟨#[]⟩,s.rb,s.rs,none⟩)).del (qA3 (s.bg+1))) l wr nw∧Kp [St,s.M,A] w w':=by
 have HB:Hid (Calls prog 22 #[.pointer (some ⟨db,0,none⟩),.bool false] w fun e w'=>∃ x t D',e=.returned (.tuple #[.pointer (some ⟨x,0,none⟩),.nilIface])∧w.heap.size≤x∧t.St=St∧t.nr=s.bg+1∧t.wrt=false∧t.ch=0∧Kp [St,s.M] w w'∧D'=D.put (qA3 (s.bg+1)) (qE7 ⟨⟨#[]⟩,s.rb,s.rs,none⟩)∧∃ hS':Shop w' kc db St A C N (nM+1) s.read D' l wr nw,LiveT hS'.E w' x A N t s.read nw):=hS.beginR h4 hnM hbg;have hbg0:=hS.bg0;obtain⟨cA,hA⟩:=hS.hA;have hAs:=ζ hA;clear hS hA;go_enter func17,ntmps17;go_wp2_with fail;refine (show Calls _ _ _ _ _ from HB.out).mono ?_;rintro e w1 ⟨x,t,D',rfl,hx,ht1,ht2,ht3,ht4,hK1,rfl,hS1,hL1⟩;have HALL:Hid (Calls prog 36 #[.pointer (some ⟨x,0,none⟩)] w1 fun e w'=>∃ v,e=.returned (.tuple #[v,.bool true])∧OPA w' w1.heap.size v (qB5 nw.cont)∧BadT hS1.E w1 w' t s.read):=zB0 hS1.E x A N t s.read nw w1 hL1;have HL1:=zh hL1;have HS1:=zh hS1;have HK1:=zh hK1;have hs1:=hK1.size;clear hL1 hK1 HB;go_wp2_with fail;refine (show Calls _ _ _ _ _ from HALL.out).mono ?_;rintro e w2 ⟨v,rfl,ho2,hb2⟩;have hL2:=HL1.out.stay hb2;have hK2:Kp [St,x,A] w1 w2:=hb2.kp.mono (by
  intro i hi _;rw[ht1] at hi;rcases List.mem_cons.1 hi with h|h
  ·simp[h]
  ·have h':i∈[A]:=h;simp at h';simp[h'])
 have hS2:=HS1.out.quiet HL1.out.hx hK2 hb2.dev (by have:=hb2.hSt;rw[ht1] at this;exact this);have HAB:Hid (Calls prog 29 #[.pointer (some ⟨x,0,none⟩)] w2 fun e w'=>e=.returned .nilIface∧w'.heap[x]?=some (qA9 t.ended)∧Shop w' kc db St A C N (nM+1) (s.read.left t.nr) ((D.put (qA3 (s.bg+1)) (qE7 ⟨⟨#[]⟩,s.rb,s.rs,none⟩)).del (qA3 t.nr)) l wr nw∧Kp [St,x,s.M] w2 w'):=hS2.abort hL2 ht1 (by omega) (by omega);have HO2:=zh ho2;have HK2:Hid (Kp [St,s.M,A] w w2):=(HK1.out.mono (by simp +contextual)).trans hK2 (by intro i hi hlt;simp at hi ⊢;omega);have HN:Hid (∀ k∈[St,x,s.M],∀ c fr,w2.heap[k]?≠some (.cells c 64 fr)):=by
  show ∀ k∈[St,x,s.M],∀ c fr,w2.heap[k]?≠some (.cells c 64 fr);intro k hk c fr e;simp only[List.mem_cons,List.not_mem_nil,or_false] at hk;rcases hk with rfl|rfl|rfl
  ·rw[hS2.hSt] at e;simp[τ] at e
  ·rw[hL2.hx] at e;simp[qA9] at e
  ·exact absurd rfl (qE3 e hS2.hM)
 obtain⟨ob,oc,rfl⟩:=qL0 ho2;obtain⟨sl,hsl⟩:∃ sl,sl=(qB5 nw.cont).length:=⟨_,rfl⟩;rw[←hsl] at HO2 ⊢;clear ho2 hb2 hL2 hK2 hS2 HALL hsl;go_wp2_with fail;refine (show Calls _ _ _ _ _ from HAB.out).mono ?_;rintro e w3 ⟨rfl,_,hS3,hK3⟩;have HE:Hid (OPA w3 w.heap.size (.slice ob sl oc) (qB5 nw.cont)∧Shop w3 kc db St A C N (nM+1) s.read ((D.put (qA3 (s.bg+1)) (qE7 ⟨⟨#[]⟩,s.rb,s.rs,none⟩)).del (qA3 (s.bg+1))) l wr nw∧Kp [St,s.M,A] w w3):=by
  refine⟨qI7 (OPA.keep HO2.out hK3 HN.out) (by omega),?_,HK2.out.trans hK3 (by intro i hi hlt;simp at hi ⊢;omega)⟩;have e:s.read.left t.nr=s.read:=by
   have hne:¬t.nr=s.read.wr:=by show ¬t.nr=s.wr;omega
   simp[Sto.left,if_neg hne]
  rw[e,ht2] at hS3;exact hS3
 clear hS3 hK3 HAB;go_wp2_with fail
 go_quiet (fail)
 go_wp2
 go_ret2
 obtain⟨e1,e2,e3⟩:=HE.out;have hd:=(Kp.refl [] w3).drewN nq;exact⟨_,rfl,e1.keep hd (by simp),e2.turn (hd.mono (S':=[]) (by simp)) (by simp) (qD9 e2.dev hd (by intro k hk;cases hk)) ⟨rfl,rfl,rfl,rfl,rfl,rfl⟩ (hd.hp e2.hSt) (e2.hM.kp hd (by simp)) e2.m4 e2.n1 e2.bg0 e2.kb e2.rd,e3.tr hd⟩
end
section
variable {w:World} {kc db St A C N nM:Nat} {s:Sto} {D:DataW Unit} {l:List UInt8} {wr:Int} {nw:Root}
structure Wrt(w:World)(kc db St A C N nM:Nat)(s:Sto)(D:DataW Unit)(l:List UInt8)(wr:Int)(nw:Root)(x:Nat)(t:Tx)(r:Root)(nr:Int):Prop where
 shop:Shop w kc db St A C N nM s D l wr nw
 live:LiveT shop.E w x A N t s r
 st:t.St=St
 nr:t.nr=nr
 wrt:t.wrt=true
theorem Wrt.stay{x:Nat}{t:Tx}{r:Root}{nr:Int}(h:Wrt w kc db St A C N nM s D l wr nw x t r nr){w':World}(hb:BadT h.shop.E w w' t s):Wrt w' kc db St A C N nM s D l wr nw x t r nr∧Kp [St,A] w w':=by
 have hK:Kp [St,A] w w':=hb.kp.mono (by
  intro i hi _;rw[h.st] at hi;rcases List.mem_cons.1 hi with h|h
  ·simp[h]
  ·have h':i∈[A]:=h;simp at h';simp[h'])
 have hS:=h.shop.quiet h.live.hx (hK.mono (by simp +contextual)) hb.dev (by have:=hb.hSt;rw[h.st] at this;exact this);exact⟨⟨hS,h.live.stay hb,h.st,h.nr,h.wrt⟩,hK⟩
theorem Wrt.turn{x:Nat}{t:Tx}{r:Root}{nr:Int}(h:Wrt w kc db St A C N nM s D l wr nw x t r nr){w':World}{t':Tx}{r':Root}(hl:LiveT h.shop.E w' x A N t' s r')(e1:t'.St=t.St)(e2:t'.nr=t.nr)(e3:t'.wrt=t.wrt)(hk:Kp (t.St::x::h.shop.E.S) w w'):Wrt w' kc db St A C N nM s D l wr nw x t' r' nr∧Kp [St,x,A] w w':=by
 have hK:Kp [St,x,A] w w':=hk.mono (by
  intro i hi _;rw[h.st] at hi;rcases List.mem_cons.1 hi with h|hi
  ·simp[h]
  ·rcases List.mem_cons.1 hi with h|h
   ·simp[h]
   ·have h':i∈[A]:=h;simp at h';simp[h'])
 have hS:=h.shop.quiet h.live.hx hK hl.dev (by have:=hl.hSt;rw[e1,h.st] at this;exact this);exact⟨⟨hS,hl,e1.trans h.st,e2.trans h.nr,e3.trans h.wrt⟩,hK⟩
theorem Wrt.chd{x:Nat}{t:Tx}{r:Root}{nr:Int}(h:Wrt w kc db St A C N nM s D l wr nw x t r nr){w':World}{t':Tx}{r':Root}{j:Nat}(hc:Chd h.shop.E w x A N t s r j w' t' r'):Wrt w' kc db St A C N nM s D l wr nw x t' r' nr∧Kp [St,x,A] w w':=
 h.turn hc.live hc.st hc.nr hc.wrt hc.kp
theorem zU7(hS:Shop w kc db St A C N nM s D l wr nw)(hw:s.wr=0)(hbg:s.bg≤100000000)(a:Int)(ha0:-9223372036854775808≤a)(ha1:a≤9223372036854775807)(m:Nat)(hm:m≤1000)
  (hroom:∀ r':Root,RGood r'→r'.cont.length≤nw.cont.length+m→(r'.news:Int)≤(N:Int)-2-s.bl):
  Calls prog 11 #[.pointer (some ⟨db,0,none⟩),.int .i64 a,.int .i64 m] w fun e w'=>∃ x t r v,e=.returned (.tuple #[.pointer (some ⟨x,0,none⟩),v])∧w.heap.size≤x∧OPA w' w.heap.size v (qB5 r.cont)∧r.cont.length≤nw.cont.length+m∧t.ch≤(m:Int)∧(∀ p∈nw.cont,p.k=qG4→p∈r.cont)∧Kp [St,A] w w'∧Wrt w' kc db St A C N nM s.wrote D l wr nw x t r (s.bg+1):=by
 have HB:Hid (Calls prog 22 #[.pointer (some ⟨db,0,none⟩),.bool true] w fun e w'=>∃ x t,e=.returned (.tuple #[.pointer (some ⟨x,0,none⟩),.nilIface])∧w.heap.size≤x∧t.St=St∧t.nr=s.bg+1∧t.wrt=true∧t.ch=0∧Kp [St] w w'∧∃ hS':Shop w' kc db St A C N nM s.wrote D l wr nw,LiveT hS'.E w' x A N t s.wrote nw):=hS.beginW hw hbg;have HROOM:=zh hroom;have hsz:=hS.sz;have hkc:=hS.kc1;clear hS hroom;go_enter func11,ntmps11;go_wp2_with fail;refine (show Calls _ _ _ _ _ from HB.out).mono ?_;rintro e w1 ⟨x,t,rfl,hx,ht1,ht2,ht3,ht4,hK1,hS1,hL1⟩;have HW1:Hid (Wrt w1 kc db St A C N nM s.wrote D l wr nw x t nw (s.bg+1)):=⟨hS1,hL1,ht1,ht2,ht3⟩;have HC:Hid (Calls prog 37 #[.pointer (some ⟨x,0,none⟩),.int .i64 a,.int .i64 m,.int .i64 20] w1 fun e w'=>e=.returned (.bool true)∧∃ t' r',Chd HW1.out.shop.E w1 x A N t s.wrote nw m w' t' r'):=xX8 hS1.E x A N t s.wrote nw a m w1 hL1 ht3 ha0 ha1 hm (by omega) (by omega) HROOM.out;have HK1:=zh hK1;have hs1:=hK1.size;clear hS1 hL1 hK1 HB;go_wp2_with fail;refine (show Calls _ _ _ _ _ from HC.out).mono ?_;rintro e w2 ⟨rfl,t',r',hc⟩;obtain⟨hW2,hK2⟩:=HW1.out.chd hc;have HALL:Hid (Calls prog 36 #[.pointer (some ⟨x,0,none⟩)] w2 fun e w'=>∃ v,e=.returned (.tuple #[v,.bool true])∧OPA w' w2.heap.size v (qB5 r'.cont)∧BadT hW2.shop.E w2 w' t' s.wrote):=zB0 hW2.shop.E x A N t' s.wrote r' w2 hW2.live;have HW2:=zh hW2;have HLE:Hid (r'.cont.length≤nw.cont.length+m∧t'.ch≤(m:Int)∧∀ p∈nw.cont,p.k=qG4→p∈r'.cont):=⟨hc.len,by have:=hc.ch;omega,hc.keep⟩;have HK2:Hid (Kp [St,A] w w2):=(HK1.out.mono (by simp)).trans hK2 (by intro i hi hlt;simp at hi ⊢;omega);have hs2:=hK2.size;clear hc hK2 HC;go_wp2_with fail;refine (show Calls _ _ _ _ _ from HALL.out).mono ?_;rintro e w3 ⟨v,rfl,ho,hb⟩;obtain⟨hW3,hK3⟩:=HW2.out.stay hb;have HE:Hid (OPA w3 w.heap.size v (qB5 r'.cont)∧r'.cont.length≤nw.cont.length+m∧t'.ch≤(m:Int)∧(∀ p∈nw.cont,p.k=qG4→p∈r'.cont)∧Kp [St,A] w w3∧Wrt w3 kc db St A C N nM s.wrote D l wr nw x t' r' (s.bg+1)):=⟨qI7 ho (by omega),HLE.out.1,HLE.out.2.1,HLE.out.2.2,HK2.out.tr hK3,hW3⟩;obtain⟨ob,oc,rfl⟩:=qL0 ho;obtain⟨sl,hsl⟩:∃ sl,sl=(qB5 r'.cont).length:=⟨_,rfl⟩;rw[←hsl] at HE ⊢;clear ho hb hW3 hK3 hW2 HALL hsl;go_wp2
 go_ret2
 exact⟨x,t',r',_,rfl,hx,HE.out⟩
end
theorem xD3{n:Nat}{l:Lnk (Tn n)}{W:List (Lnk (Tn n))}(hW:Row0 n l.key W)(hM:Made n l 0 W)(hd:min n 1<cnt n l.sub):∃ m L,qF5 n W=.at m L∧L.ref=none:=by
 rcases hM with⟨a,rfl,e1,e2,e3⟩|⟨a,b,rfl,e1,e2,e3,e4,e5⟩
 ·have e:qF5 n [a]=qS8 n a:=rfl;rw[e]
  cases n with
  | zero=>
   have hc:0<(prs a.sub).length:=by
    have h1:0<(prs l.sub).length:=hd;have h2:(prs l.sub).length≤(prs a.sub).length+0:=e3;omega
   refine⟨0,a,?_,e2⟩;show (match prs a.sub with | []=>Root.none | _::_=>.at 0 a)=_
   cases hp:prs a.sub with
   | nil=>rw[hp] at hc;simp at hc
   | cons x r=>rfl
  | succ n=>
   have hc:(η l.sub).length≤(η a.sub).length+0:=e3;have hc2:1<(η l.sub).length:=by have h2:min (n+1) 1<(η l.sub).length:=hd;omega
   refine⟨n+1,a,?_,e2⟩;show (match η a.sub with | []=>Root.none | [m]=>.at n m | _::_::_=>.at (n+1) a)=_
   cases hp:η a.sub with
   | nil=>rw[hp,List.length_nil] at hc;omega
   | cons x r=>
    cases r with
    | nil=>rw[hp,List.length_cons,List.length_nil] at hc;omega
    | cons y r=>rfl
 ·have h2:meas qA2 [a,b]≤126:=by
   have:=(hW.all a (by simp)).2;have hb:=hW.all b (by simp);simp[meas,qA2];omega
  have e:qD6 n ⟨#[]⟩ [a,b]=[⟨⟨#[]⟩,none,[a,b]⟩]:=by
   unfold qD6 qB4;rw[if_pos h2];rfl
  refine⟨n+1,⟨⟨#[]⟩,none,[a,b]⟩,?_,rfl⟩;show (match qD6 n ⟨#[]⟩ [a,b] with | []=>Root.none | r::_=>qS8 (n+1) r)=_;rw[e];rfl
theorem jM8{r:Root}{p:KV}(h:RGood r)(hp:qC5 p):∃ m L,r.put p=.at m L∧L.ref=none:=by
 cases r with
 | none=>
  have hs:Sorted [p]:=by simp[Sorted]
  have hz:(⟨#[]⟩:ByteArray).size≤8:=by decide
  obtain⟨r1,r2,r3⟩:=qU0 (lo:=⟨#[]⟩) (ps:=[p]) hs (fun q hq=>by rw[List.mem_singleton.1 hq];exact⟨hp,qP0 _⟩) (by obtain⟨h1,h2,h3⟩:=hp;simp[meas,μ];omega) hz;have hM:Made 0 ⟨⟨#[]⟩,none,[p]⟩ 0 (qE9 ⟨#[]⟩ [p]):=by
   rcases r3 with⟨a,e1,e2,e3,e4⟩|⟨a,b,e1,e2,e3,e4,e5,e6⟩
   ·exact .inl ⟨a,e1,e2,e3,by rw[e4];exact Nat.le_refl _⟩
   ·exact .inr ⟨a,b,e1,e2,e3,e4,e5,e6⟩
  exact xD3 (n:=0) (l:=(⟨⟨#[]⟩,none,[p]⟩:Lnk (List KV))) r1 hM (by show 0<1;omega)
 | «at» n l=>
  obtain⟨h1,h2,h3⟩:=h;obtain⟨w1,w2,w3⟩:=qX8 n l p h2 hp (by rw[h1];exact qP0 _) (by rw[h1];decide) (by omega);exact xD3 w1 w3 h3
theorem jO1{E:Env}{w:World}{h:HL}{m:Nat}{L:Lnk (Tn m)}(hr:RR E w h (.at m L))(hn:L.ref=none):∃ q,h.p=some q:=by
 have h2:=hr.2;rw[hn] at h2;obtain⟨_,_,q,e,_⟩:=h2;exact⟨q,e⟩
def qN5:ByteArray:=⟨#[111,102,32,97,108,108]⟩
theorem zT9(p:KV)(l:List KV):p∈ins p l:=by simp[ins]
theorem xF2{ps:List KV}{p:KV}(h:p∈ps)(hp:inR ⟨#[]⟩ qR8 p=true):0<(qB5 ps).length:=by
 have h1:p∈ps.filter (inR ⟨#[]⟩ qR8):=List.mem_filter.2 ⟨h,hp⟩;have h2:0<(ps.filter (inR ⟨#[]⟩ qR8)).length:=List.length_pos_of_mem h1;unfold qB5 qF9;rw[List.length_take];have:(1048576:Int).toNat=1048576:=rfl;omega
theorem jB2(Z:Array Value)(n:Nat)(h:Z.size=n)(h0:∀ v∈Z.toList,v=.int .u8 0):Z=enc (List.replicate n 0):=by
 apply Array.ext';have e:Z.toList=List.replicate n (.int .u8 0):=List.eq_replicate_iff.2 ⟨by simpa using h,h0⟩;rw[e];simp[enc,qC9]
theorem jA5(m:Nat)(h:8≤m):Fresh (List.replicate (m*128) 0):=by
 have e0:min 128 (m*128-0*128)=128:=by omega
 have e1:min 128 (m*128-1*128)=128:=by omega
 exact⟨by rw[qA0,List.drop_replicate,List.take_replicate,e0];rfl,by rw[qA0,List.drop_replicate,List.take_replicate,e1];rfl⟩
theorem jP1{w:World}{kc db St V M A C N:Nat}{Nh:Int}{l:List UInt8}{calls wr:Int}(hA:w.heap[A]?=some (qP8 N C (.slice none 0 0) calls wr))(hV:w.heap[V]?=some (qB6 A N))(hM:w.heap[M]?=some (.map #[] 0))(hSt:w.heap[St]?=some (τ 0 (qJ7 V M Nh)))(hDb:w.heap[db]?=some (.cells #[.pointer (some ⟨St,0,none⟩)] 95))(hC:w.heap[C]?=some (.cells (enc l) 87))(h8:8≤N)(h4:N≤400)(hl:l.length=N*128)(hfm:Formatted l Nh)(hk:kc≤900)(hN:0≤Nh):
  Shop w kc db St A C N 0 (qJ7 V M Nh) (.map []) l wr .none:=
 { hDb:=hDb,hSt:=hSt,po:=rfl,hM:=⟨#[],0,hM,⟨by simp,MapKept.stamped_empty 0,by simp⟩,Nat.le_refl _,rfl⟩,m4:=by simp[Maps.size],n1:=by omega,dev:=⟨hV,⟨calls,by rw[hl,Nat.mul_div_cancel _ (by decide)];exact hA⟩,hC⟩,N8:=h8,N4:=h4,len:=Nat.le_of_eq hl.symm,lie:=⟨rfl,rfl⟩,good:=trivial,heads:=Heads.new hfm,sz:=by simp[Root.cont],kc1:=hk,bl0:=Int.le_refl _,bl1:=by simp[Root.cont,qJ7],sN0:=hN,bg0:=Int.le_refl _,kb:=fun k hk=>by simp[Maps.has] at hk,rd:=fun x h hk=>by simp[Maps.has] at hk }
def emp:DataW Unit:=.map []
theorem xN8(k:Lit):emp.del k=emp:=by simp[emp,DataW.del]
theorem xN7(n:Int)(v:DataW Unit):(emp.put (qA3 n) v).del (qA3 n)=emp:=by
 simp[emp,DataW.put,DataW.del,DataW.insert,qA3,Lit.sameKey]
section
variable {w:World} {kc db St A C N nM:Nat} {s:Sto} {D:DataW Unit} {l:List UInt8} {wr:Int} {nw:Root}
theorem Wrt.put{x:Nat}{t:Tx}{r:Root}{nr:Int}(h:Wrt w kc db St A C N nM s D l wr nw x t r nr){w':World}{p:KV}{h':HL}(hF:FineT h.shop.E w w' x t s (r.put p) h')(hp:qC5 p)(hc:t.ch≤10000000)(hr:r.cont.length≤10000):Wrt w' kc db St A C N nM s D l wr nw x { t with h:=h',ch:=t.ch+1 } (r.put p) nr∧Kp [St,x,A] w w'∧(r.put p).cont=ins p r.cont∧∃ q,h'.p=some q:=by
 obtain⟨g1,g2⟩:=qS4 (p:=p) h.live.good hp;have hl:(r.put p).cont.length≤r.cont.length+1:=by rw[g2];exact qQ1 _ _
 obtain⟨m,L,e1,e2⟩:=jM8 (p:=p) h.live.good hp;have hq:∃ q,h'.p=some q:=by
  have hrr:=hF.rr;rw[e1] at hrr;exact jO1 hrr e2
 obtain⟨a1,a2⟩:=h.turn (t':={ t with h:=h',ch:=t.ch+1 }) (r':=r.put p) (h.live.next hF g1 (by omega) (by omega)) rfl rfl rfl hF.kp;exact⟨a1,a2,g2,hq⟩
end
theorem xX7(N kc:Nat)(h100:100≤N)(h400:N≤400)(hk1:100≤kc)(hk9:kc≤900)(a:Int)(ha0:-9223372036854775808≤a)(ha1:a≤9223372036854775807)(w:World):
  Calls prog 9 #[.int .i64 N,.int .i64 a] w fun e w'=>∃ db St A C s l wr nw v,e=.returned (.tuple #[.pointer (some ⟨A,0,none⟩),.pointer (some ⟨db,0,none⟩),v])∧Shop w' kc db St A C N 1 s emp l wr nw∧OPA w' w.heap.size v (qB5 nw.cont)∧s.wr=0∧s.bg=2∧s.N≤10∧nw.cont.length≤43∧(⟨qG4,qN5⟩:KV)∈nw.cont∧w.heap.size≤A∧w.heap.size≤C∧w.heap.size≤St∧w.heap.size≤db∧w.heap.size≤s.M∧Kp [] w w'∧TwoHeads N l [] nw.cont:=by
 go_enter func9,ntmps9;go_wp2_with fail;refine (jE8 N w (by omega) (N:Int) (by omega) (by omega)).mono ?_;rintro e w1 ⟨rfl,Z,hZ,hZ0,hw1⟩;rw[jB2 Z _ hZ hZ0] at hw1;have hC1:w1.heap[w.heap.size]?=some (.cells (enc (List.replicate (N*128) 0)) 87):=by rw[hw1];exact θ _ (ν _ _)
 have hA1:w1.heap[w.heap.size+1]?=some (qP8 N w.heap.size (.slice none 0 0) 0 0):=by
  rw[hw1];have e:=ν (w.alloc (.cells (enc (List.replicate (N*128) 0)) 87)) (qP8 N w.heap.size (.slice none 0 0) 0 0);simpa using e
 have hK1:Kp [] w w1:=by rw[hw1];exact ((Kp.refl _ _).alloc _).alloc _
 clear hw1 hZ hZ0 Z;have HF:Hid (Calls prog 35 #[.pointer (some ⟨w.heap.size+1,0,none⟩)] w1 fun e w'=>e=.returned .nilIface∧w'.heap[w.heap.size+1]?=some (qP8 N w.heap.size (.slice none 0 0) (0+6) (0+2))∧w'.heap[w.heap.size]?=some (.cells (enc (qN8 (List.replicate (N*128) 0) 0)) 87)∧Kp [w.heap.size+1,w.heap.size] w1 w'):=
  xS4 (w.heap.size+1) N w.heap.size 0 0 (List.replicate (N*128) 0) 0 w1 hA1 (by omega) (by omega) (by omega) (by omega) (by omega) h400 hC1 (by simp) (by omega) (Or.inl ⟨jA5 N (by omega),rfl⟩) (by omega) (by omega) (by omega)
 have HK1:=zh hK1;clear hC1 hA1 hK1;go_wp2_with fail;refine (show Calls _ _ _ _ _ from HF.out).mono ?_;rintro e w2 ⟨rfl,hA2,hC2,hK2⟩;have hfl:(qN8 (List.replicate (N*128) 0) 0).length=N*128:=by rw[xS2 _ _ (by simp;omega)];simp
 have hfm:=xS3 (List.replicate (N*128) 0) 0 (by simp;omega) (by omega) (by omega) (by omega);obtain⟨l,hl⟩:∃ l,l=qN8 (List.replicate (N*128) 0) 0:=⟨_,rfl⟩;rw[←hl] at hC2 hfl hfm;have HK2:Hid (Kp [] w w2):=HK1.out.trans hK2 (by intro i hi hlt;simp at hi;omega);have HO:Hid (Calls prog 16 #[.pointer (some ⟨w.heap.size+1,0,none⟩)] w2 fun e w'=>∃ V M St Db,e=.returned (.tuple #[.pointer (some ⟨Db,0,none⟩),.nilIface])∧w2.heap.size≤V∧w2.heap.size≤M∧w2.heap.size≤St∧w2.heap.size≤Db∧
   w'.heap[w.heap.size+1]?=some (qP8 N w.heap.size (.slice none 0 0) (0+6+3) (0+2))∧w'.heap[V]?=some (qB6 (w.heap.size+1) N)∧w'.heap[M]?=some (.map #[] 0)∧w'.heap[St]?=some (τ 0 (qJ7 V M (0+2)))∧w'.heap[Db]?=some (.cells #[.pointer (some ⟨St,0,none⟩)] 95)∧Kp [w.heap.size+1] w2 w'):=
  jK8 (w.heap.size+1) N w.heap.size (0+6) (0+2) l (0+2) w2 hA2 (by omega) (by omega) (by omega) h400 hC2 (Nat.le_of_eq hfl.symm) (by omega) hfm
 have HC2:Hid (w2.heap[w.heap.size]?=some (.cells (enc l) 87)∧l.length=N*128∧Formatted l (0+2)):=⟨hC2,hfl,hfm⟩;clear hA2 hC2 hK2 hfl hfm hl HF;go_wp2_with fail;refine (show Calls _ _ _ _ _ from HO.out).mono ?_;rintro e w3 ⟨V,M,St,db,rfl,hV3,hM3,hS3,hD3,hA3,hVo,hMo,hSo,hDo,hK3⟩;have hs2:=HK2.out.size;have hshop:Shop w3 kc db St (w.heap.size+1) w.heap.size N 0 (qJ7 V M (0+2)) emp l (0+2) .none:=jP1 hA3 hVo hMo hSo hDo (hK3.hp HC2.out.1) (by omega) h400 HC2.out.2.1 HC2.out.2.2 hk9 (by omega);have HS3:=zh hshop;have HK3:Hid (Kp [] w w3):=HK2.out.trans hK3 (by intro i hi hlt;simp at hi;omega);clear hA3 hVo hMo hSo hDo hK3 hshop HO HC2;go_wp2_with fail;refine (zH2 a 40 ha0 ha1 (by omega) (by omega) w3).mono ?_;rintro e w3' ⟨⟨k,rfl,hk0,hk40⟩,hw3⟩;rw[hw3];clear hw3 w3';obtain⟨m,hm⟩:∃ m:Nat,(m:Int)=3+k:=⟨(3+k).toNat,by omega⟩;have hwr3:wrap64 (3+k)=(m:Int):=by simp only[wrap64];omega
 have HW:Hid (Calls prog 11 #[.pointer (some ⟨db,0,none⟩),.int .i64 a,.int .i64 m] w3 fun e w'=>∃ x t r v,e=.returned (.tuple #[.pointer (some ⟨x,0,none⟩),v])∧w3.heap.size≤x∧OPA w' w3.heap.size v (qB5 r.cont)∧r.cont.length≤m∧t.ch≤(m:Int)∧Kp [St,w.heap.size+1] w3 w'∧Wrt w' kc db St (w.heap.size+1) w.heap.size N 0 (qJ7 V M (0+2)).wrote emp l (0+2) .none x t r (0+1)):=by
  have h:=zU7 HS3.out rfl (by show (0:Int)≤_;omega) a ha0 ha1 m (by omega) (fun r' hg hz=>by
   have h1:=qU7 hg;have hz':r'.cont.length≤0+m:=hz;have h3:((qJ7 V M (0+2)).bl:Int)=0:=rfl;rw[h3];omega)
  refine h.mono ?_;rintro e w' ⟨x,t,r,v,c1,c2,c3,c4,c5,_,c6,c7⟩;have c4':r.cont.length≤0+m:=c4;exact⟨x,t,r,v,c1,c2,c3,by omega,c5,c6,c7⟩
 clear hwr3;rw[hm] at HW;have HM:=zh hm;clear hm;go_wp2_with fail;refine (show Calls _ _ _ _ _ from HW.out).mono ?_;rintro e w4 ⟨x,t,r,v0,rfl,hx4,_,hr4,hc4,hK4,hW4⟩;have hm:=HM.out;have hp:qC5 ⟨qG4,qN5⟩:=⟨by decide,by decide,by decide⟩;have HP:Hid (Calls prog 28 #[.pointer (some ⟨x,0,none⟩),.string ⟨#[102,105,114,115,116]⟩,.string ⟨#[111,102,32,97,108,108]⟩] w4 fun e w'=>e=.returned .nilIface∧∃ h',FineT hW4.shop.E w4 w' x t (qJ7 V M (0+2)).wrote (r.put ⟨qG4,qN5⟩) h'):=by
  refine xA0 hW4.shop.E x _ N t _ r ⟨qG4,qN5⟩ w4 hW4.live hW4.wrt hp ?_;obtain⟨g1,g2⟩:=qS4 (p:=⟨qG4,qN5⟩) hW4.live.good hp;have h1:=qU7 g1;have h2:=qQ1 ⟨qG4,qN5⟩ r.cont;rw[g2] at h1;show _≤(N:Int)-2-0;omega
 have HW4:=zh hW4;have hs3:=HK3.out.size;have HK4:Hid (Kp [] w w4):=HK3.out.trans hK4 (by intro i hi hlt;simp at hi;omega);clear hK4 HW HS3;go_wp2_with fail;refine (show Calls _ _ _ _ _ from HP.out).mono ?_;rintro e w5 ⟨rfl,h',hF⟩;obtain⟨hW5,hK5,hcn,q,hq⟩:=hW4.put hF hp (by omega) (by omega);obtain⟨t5,ht5⟩:∃ t5:Tx,t5={ t with h:=h',ch:=t.ch+1 }:=⟨_,rfl⟩;rw[←ht5] at hW5;have hq5:t5.h.p=some q:=by rw[ht5];exact hq
 obtain⟨r5,hr5⟩:∃ r5,r5=r.put ⟨qG4,qN5⟩:=⟨_,rfl⟩;rw[←hr5] at hW5 hcn;have hl5:r5.cont.length≤m+1:=by rw[hcn];have:=qQ1 ⟨qG4,qN5⟩ r.cont;omega
 have hin5:(⟨qG4,qN5⟩:KV)∈r5.cont:=by rw[hcn];exact zT9 _ _
 have hpos:0<(qB5 r5.cont).length:=by rw[hcn];exact xF2 (zT9 _ _) (by kernel_rfl)
 have HALL:Hid (Calls prog 36 #[.pointer (some ⟨x,0,none⟩)] w5 fun e w'=>∃ v,e=.returned (.tuple #[v,.bool true])∧OPA w' w5.heap.size v (qB5 r5.cont)∧BadT hW5.shop.E w5 w' t5 (qJ7 V M (0+2)).wrote):=zB0 hW5.shop.E x _ N t5 _ r5 w5 hW5.live;have hs4:=HK4.out.size;have HK5:Hid (Kp [] w w5):=HK4.out.trans hK5 (by intro i hi hlt;simp at hi;omega);have HW5:=zh hW5;clear hW4 hF hK5 hcn hq ht5 hr5 HP HW4 HK4;go_wp2_with fail;refine (show Calls _ _ _ _ _ from HALL.out).mono ?_;rintro e w6 ⟨v,rfl,ho6,hb6⟩;obtain⟨hW6,hK6⟩:=HW5.out.stay hb6;have hs5:=HK5.out.size;have HK6:Hid (Kp [] w w6):=HK5.out.trans hK6 (by intro i hi hlt;simp at hi;omega);have HC:Hid (Calls prog 14 #[.pointer (some ⟨x,0,none⟩)] w6 fun e w'=>e=.returned .nilIface∧∃ s' l' nt,Shop w' kc db St (w.heap.size+1) w.heap.size N 0 s' (emp.del (qA3 t5.nr)) l' (nx (nk (nx (0+2)) r5.news)) nt∧nt.cont=r5.cont∧s'.N=(0+2)+2∧s'.bg=0+1∧s'.wr=((qJ7 V M (0+2)).wrote.left t5.nr).wr∧s'.V=V∧s'.M=M∧Kp [St,x,M,w.heap.size+1,w.heap.size] w6 w'∧TwoHeads N l' [] r5.cont):=by
  have h1:=qU7 hW6.live.good;have h2:=qU6 hW6.live.good;refine (hW6.shop.commit hW6.live hW6.st hW6.wrt (by rw[hW6.nr];omega) (by rw[hW6.nr];omega) hq5 (by omega) (by show (0+2:Int)≤_;omega) (by show _+_+0*kc+0+2≤N;omega)).mono ?_;rintro e w' ⟨c0,s',l',nt,c1,c2,c3,c4,c5,c6,c7,_,c8,c9⟩;refine⟨c0,s',l',nt,c1,c2,c3,c4,c5,c6,c7,c8,?_⟩;rcases c9.two with h|⟨_,h⟩
  ·exact h
  ·rw[←h] at hin5;cases hin5
 have HO6:Hid (OPA w6 w.heap.size v (qB5 r5.cont)):=qI7 ho6 (by omega);have HN6:Hid (∀ k∈[St,x,M,w.heap.size+1,w.heap.size],∀ c fr,w6.heap[k]?≠some (.cells c 64 fr)):=by
  show ∀ k∈[St,x,M,w.heap.size+1,w.heap.size],∀ c fr,w6.heap[k]?≠some (.cells c 64 fr);intro k hk c fr e;obtain⟨cA,hA⟩:=hW6.shop.hA;simp only[List.mem_cons,List.not_mem_nil,or_false] at hk;rcases hk with rfl|rfl|rfl|rfl|rfl
  ·rw[hW6.shop.hSt] at e;simp[τ] at e
  ·rw[hW6.live.hx] at e;simp[qA9] at e
  ·exact absurd rfl (qE3 e hW6.shop.hM)
  ·rw[hA] at e;simp[qP8,χ] at e
  ·rw[hW6.shop.dev.hC] at e;simp at e
 have HNR:=zh hW6.nr;obtain⟨ob,oc,rfl⟩:=qL0 ho6;obtain⟨sl,hsl⟩:∃ sl,sl=(qB5 r5.cont).length:=⟨_,rfl⟩;rw[←hsl] at HO6 hpos ⊢;have HSL:=zh hsl;clear ho6 hb6 hW6 hK6 HALL HW5 HK5 hsl hW5;go_wp2_with fail;refine (show Calls _ _ _ _ _ from HC.out).mono ?_;rintro e w7 ⟨rfl,s',l',nt,hS7,e1,e2,e3,e4,e5,e6,hK7,hTW⟩;rw[←e1] at hTW;have HTW:=zh hTW;clear hTW;rw[xN8] at hS7;have hs6:=HK6.out.size;have hw7:s'.wr=0:=by rw[e4];show (if t5.nr=0+1 then 0 else _)=(0:Int);rw[if_pos HNR.out]
 have HO7:Hid (OPA w7 w.heap.size (.slice ob sl oc) (qB5 nt.cont)):=by rw[e1];exact OPA.keep HO6.out hK7 HN6.out
 have HK7:Hid (Kp [] w w7):=HK6.out.trans hK7 (by intro i hi hlt;simp at hi;omega);have HNOW:Hid (Calls prog 17 #[.pointer (some ⟨db,0,none⟩)] w7 fun e w'=>∃ v,e=.returned (.tuple #[v,.bool true])∧OPA w' w7.heap.size v (qB5 nt.cont)∧Shop w' kc db St (w.heap.size+1) w.heap.size N (0+1) s'.read ((emp.put (qA3 (s'.bg+1)) (qE7 ⟨⟨#[]⟩,s'.rb,s'.rs,none⟩)).del (qA3 (s'.bg+1))) l' (nx (nk (nx (0+2)) r5.news)) nt∧Kp [St,s'.M,w.heap.size+1] w7 w'):=jA9 hS7 (by show 0<4;omega) (by omega) (by omega) (by omega);have HN7:Hid (∀ k∈[St,s'.M,w.heap.size+1],∀ c fr,w7.heap[k]?≠some (.cells c 64 fr)):=by
  show ∀ k∈[St,s'.M,w.heap.size+1],∀ c fr,w7.heap[k]?≠some (.cells c 64 fr);intro k hk c fr e;obtain⟨cA,hA⟩:=hS7.hA;simp only[List.mem_cons,List.not_mem_nil,or_false] at hk;rcases hk with rfl|rfl|rfl
  ·rw[hS7.hSt] at e;simp[τ] at e
  ·exact absurd rfl (qE3 e hS7.hM)
  ·rw[hA] at e;simp[qP8,χ] at e
 have HNT:Hid (nt.cont.length≤43∧(qB5 nt.cont).length=sl∧(⟨qG4,qN5⟩:KV)∈nt.cont):=⟨by rw[e1];omega,by rw[e1];exact HSL.out.symm,by rw[e1];exact hin5⟩;have HS':Hid (s'.N=0+2+2∧s'.bg=0+1∧s'.wr=0∧s'.M=M):=⟨e2,e3,hw7,e6⟩;clear hS7 e1 e2 e3 e4 e5 e6 hK7 HC HO6 HN6 HK6 hw7 hq5;go_wp2_with fail;refine (show Calls _ _ _ _ _ from HNOW.out).mono ?_;rintro e w8 ⟨v8,rfl,ho8,hS8,hK8⟩;rw[xN7] at hS8;have hs7:=HK7.out.size;have HO8:Hid (OPA w8 w.heap.size (.slice ob sl oc) (qB5 nt.cont)):=OPA.keep HO7.out hK8 HN7.out;have HK8:Hid (Kp [] w w8):=HK7.out.trans hK8 (by intro i hi hlt;have:=HS'.out.2.2.2;simp at hi;omega);have hal:(qB5 nt.cont).length≤1000000:=by
  have h1:=HNT.out.1;have h2:(qB5 nt.cont).length≤nt.cont.length:=by
   unfold qB5 qF9;rw[List.length_take];have:=List.length_filter_le (inR ⟨#[]⟩ qR8) nt.cont;omega
  omega
 have HSAME:Hid (Calls prog 18 #[.slice ob sl oc,v8] w8 fun e w'=>e=.returned (.bool true)∧Kp [] w8 w'):=jB0 _ _ _ _ (qB5 nt.cont) w8 HO8.out ho8 hal;have HS8:=zh hS8;obtain⟨ob8,oc8,rfl⟩:=qL0 ho8;rw[HNT.out.2.1] at HSAME ⊢;clear ho8 hS8 hK8 HNOW HO7 HN7 HK7;go_wp2_with fail;refine (show Calls _ _ _ _ _ from HSAME.out).mono ?_;rintro e w9 ⟨rfl,hK9⟩;have HE:Hid (Shop w9 kc db St (w.heap.size+1) w.heap.size N 1 s'.read emp l' (nx (nk (nx (0+2)) r5.news)) nt∧OPA w9 w.heap.size (.slice ob sl oc) (qB5 nt.cont)∧Kp [] w w9):=by
  have e2:=HS8.out;exact⟨e2.turn hK9 (by simp) (qD9 e2.dev hK9 (by intro k hk;cases hk)) ⟨rfl,rfl,rfl,rfl,rfl,rfl⟩ (hK9.hp e2.hSt) (e2.hM.kp hK9 (by simp)) e2.m4 e2.n1 e2.bg0 e2.kb e2.rd,OPA.keep HO8.out hK9 (by simp),HK8.out.tr hK9⟩
 have hsl0:¬(sl:Int)=0:=by omega
 clear hK9 HSAME HO8 HK8 HS8;go_wp2
 go_ret3
 obtain⟨f1,f2,f3⟩:=HE.out;obtain⟨g1,g2,g3,g4⟩:=HS'.out;exact⟨db,St,w.heap.size+1,w.heap.size,s'.read,l',_,nt,_,rfl,f1,f2,g3,by show s'.bg+1=2;omega,by show s'.N≤10;omega,HNT.out.1,HNT.out.2.2,by omega,by omega,by omega,by omega,by show w.heap.size≤s'.M;rw[g4];omega,f3,HTW.out⟩
variable {κ:Nat}
theorem Kp.zero{w w':World}(h:Kp [] w w')(h0:0<w.heap.size)(hg:w.cell? ⟨0,0,none⟩=some qN7):w'.cell? ⟨0,0,none⟩=some qN7:=by
 have e:=h.block 0 h0 (by simp);unfold World.cell? at hg ⊢;simp only at hg ⊢;rw[e];exact hg
section
variable {w:World} {kc db St A C N nM:Nat} {s:Sto} {D:DataW Unit} {l:List UInt8} {wr:Int} {nw:Root}
theorem Shop.nopair(hS:Shop w kc db St A C N nM s D l wr nw):∀ k∈[St,s.M,A,C],∀ c fr,w.heap[k]?≠some (.cells c 64 fr):=by
 intro k hk c fr e;obtain⟨cA,hA⟩:=hS.hA;simp only[List.mem_cons,List.not_mem_nil,or_false] at hk;rcases hk with rfl|rfl|rfl|rfl
 ·rw[hS.hSt] at e;simp[τ] at e
 ·exact absurd rfl (qE3 e hS.hM)
 ·rw[hA] at e;simp[χ] at e
 ·rw[hS.dev.hC] at e;simp at e
end
theorem xM6(St:Nat)(s:Sto)(h:HL)(w:World)(hSt:w.heap[St]?=some (τ 1 s))
  (heq:∀ W:World,Sem.run prog (Op.equalIn 10000 83 (υ s.V h) (υ s.V ⟨⟨#[]⟩,s.rb,s.rs,none⟩)) W=.ok true W):
  Calls prog 41 #[.pointer (some ⟨St,0,none⟩),υ s.V h] w fun e w'=>e=.returned (.tuple #[])∧Kp [] w w':=by
 have HS:=zh hSt;clear hSt;rw[υ,show υ s.V ⟨⟨#[]⟩,s.rb,s.rs,none⟩=.agg #[.pointer (some ⟨s.V,0,none⟩),.string ⟨#[]⟩,.int .i64 s.rb,.int .u64 s.rs,.pointer none] from rfl] at heq;rw[υ];go_enter func41,ntmps41;go_wp2_with fail;obtain⟨w0,hw0,hT0,hK0,hs0'⟩:=qF0 w (.cells #[.pointer (some ⟨s.V,0,none⟩),.string h.key,.int .i64 h.b,.int .u64 h.s,.pointer h.ptr] 83);rw[←hw0];clear hw0;refine (qX1 St 1 s w0 (hK0.hp HS.out)).mono ?_;rintro e w1 ⟨rfl,hK1⟩;rw[show υ s.V ⟨⟨#[]⟩,s.rb,s.rs,none⟩=.agg #[.pointer (some ⟨s.V,0,none⟩),.string ⟨#[]⟩,.int .i64 s.rb,.int .u64 s.rs,.pointer none] from rfl];have hT1:=hK1.hp hT0;have hT1s:=ζ hT1;have t:=ξ hT1;have HK1:Hid (Kp [] w w1):=hK0.tr hK1;clear hK0 hK1 hT0 hT1;go_wp2;refine bodyPost_ret (results_none results41 _ _ _) rfl ?_;exact⟨rfl,HK1.out.alloc _⟩
section
variable {w:World} {kc db St A C N nM:Nat} {s:Sto} {D:DataW Unit} {l:List UInt8} {wr:Int} {nw:Root}
theorem LiveT.lie{E':SEnv}{x:Nat}{t:Tx}{r:Root}{hN:N≤1000}{hs:N*128≤l.length}{hAC:C≠A}{hVA:s.V≠A}(hL:LiveT (EL s.V A N C l wr hN hs hAC hVA) w x A N t s r)(hp:t.h.p=none):Lie N l t.h.b t.h.s r:=by
 have hr:=hL.rr
 cases r with
 | none=>rw[show t.h=_ from hr];exact⟨rfl,rfl⟩
 | «at» n L=>
  have h2:=hr.2
  cases hx:L.ref with
  | none=>
   rw[hx] at h2;obtain⟨_,_,q,e,_⟩:=h2;rw[hp] at e;cases e
  | some x=>
   rw[hx] at h2;obtain⟨e1,e2,_,e4⟩:=h2;refine⟨x.1,e1,?_,?_⟩
   ·rw[hx,e2]
   ·rw[e2];exact e4
theorem Shop.commits(hS:Shop w kc db St A C N nM s D l wr nw){x:Nat}{t:Tx}{r:Root}(hL:LiveT hS.E w x A N t s r)(hst:t.St=St)(hwr:t.wrt=true)(h0:0≤t.nr)(h1:t.nr≤1000000000)(hrk:r.cont.length≤kc)(hN9:s.N≤999999999)
  (hfit:qC3 r+r.news+Maps.size D*kc+qC3 nw+2≤N):
  Calls prog 14 #[.pointer (some ⟨x,0,none⟩)] w fun e w'=>e=.returned .nilIface∧∃ s' l' wr' nt,Shop w' kc db St A C N nM s' (D.del (qA3 t.nr)) l' wr' nt∧nt.cont=r.cont∧s'.N≤s.N+2∧s'.bg=s.bg∧s'.wr=(s.left t.nr).wr∧s'.V=s.V∧s'.M=s.M∧w'.heap[x]?=some (qA9 t.ended)∧Kp [St,x,s.M,A,C] w w'∧Thn N (D.del (qA3 t.nr)) l l' nw r:=by
 have htd:=hS.hM.tidy qM4;have hsd:=Maps.size_del (k:=qA3 t.nr) htd;have hle:Maps.size (D.del (qA3 t.nr))≤Maps.size D:=by omega
 have hdl:∀ k,Maps.has (D.del (qA3 t.nr)) k=true→Maps.has D k=true∧∀ zd,(D.del (qA3 t.nr)).atKey k zd=D.atKey k zd:=fun k hk=>by
  by_cases e:k=qA3 t.nr
  ·rw[e,Maps.has_del_same] at hk;cases hk
  ·rw[Maps.has_del_other e] at hk;exact⟨hk,fun zd=>Maps.atKey_del_other e zd⟩
 have hgo:(∀ W:World,Sem.run prog (Op.equalIn 10000 83 (υ s.V t.h) (υ s.V ⟨⟨#[]⟩,s.rb,s.rs,none⟩)) W=.ok false W)→Calls prog 14 #[.pointer (some ⟨x,0,none⟩)] w fun e w'=>e=.returned .nilIface∧∃ s' l' wr' nt,Shop w' kc db St A C N nM s' (D.del (qA3 t.nr)) l' wr' nt∧nt.cont=r.cont∧s'.N≤s.N+2∧s'.bg=s.bg∧s'.wr=(s.left t.nr).wr∧s'.V=s.V∧s'.M=s.M∧w'.heap[x]?=some (qA9 t.ended)∧Kp [St,x,s.M,A,C] w w'∧Thn N (D.del (qA3 t.nr)) l l' nw r:=fun heq=>by
  refine (xB4 hS x t r hL hst hwr h0 h1 heq hrk hN9 hdl (by have:=hS.m4;omega) (by have:=Nat.mul_le_mul_right kc hle;omega)).mono ?_;rintro e w' ⟨e0,s',l',nt,c1,c2,c3,c4⟩;exact⟨e0,s',l',_,nt,c1,c2,by omega,c4⟩
 cases hp:t.h.p with
 | some q=>exact hgo (fun W=>xC8 s.V q t.h s.rb s.rs hp hL.key W)
 | none=>
  by_cases he:t.h.b=s.rb∧t.h.s=s.rs
  ·have heq:∀ W:World,Sem.run prog (Op.equalIn 10000 83 (υ s.V t.h) (υ s.V ⟨⟨#[]⟩,s.rb,s.rs,none⟩)) W=.ok true W:=fun W=>by rw[xC9 s.V t.h s.rb s.rs hp hL.key W];simp[he]
   have hlie:Lie N l s.rb s.rs r:=by
    have h:=LiveT.lie (E':=hS.E) hL hp;rw[he.1,he.2] at h;exact h
   subst hst;obtain⟨cA,hA⟩:=hS.hA;have hMS:s.M≠t.St:=(qE3 hS.hSt hS.hM).symm;have hxM:x≠s.M:=qE3 hL.hx hS.hM;have hoff:OffD w [t.St,x,s.M]:=(OffD.one hL.hSt (by decide)).cons ((OffD.one hL.hx (by decide)).cons (fun k hk c ty fr e=>by rw[List.mem_singleton.1 hk] at e;exact absurd rfl (qE3 e hS.hM)));obtain⟨n1,n2,n3,n4⟩:=hS.neDb;refine (xC3 x nM s.V t s D [] (fun W w1=>Kp [] W w1) w hL.hx hL.over hS.hSt hS.po hS.hM h0 h1 hMS hL.xS hxM hS.hM.lt hL.on hwr (by simp) ?_).mono ?_
   ·intro W hK hx' hS' hM';refine (xM6 t.St (s.left t.nr) t.h W hS' heq).mono ?_;rintro e w1 ⟨rfl,hK1⟩;exact⟨rfl,⟨_,hK1.hp hS'⟩,hK1,hK1.mono (by simp)⟩
   ·rintro e w' ⟨rfl,hKw,W,w1,B,s',hK,hx',hS',hM',hR,_,hs1,hs2,hB0,hB1,hKB⟩;have hse:s'=s.left t.nr:=by
     rw[hR.hp hS'] at hs1;exact (xB8 (Option.some.inj hs1)).symm
    rw[hse] at hs2 hs1;have hxs:=ζ hL.hx;have hMs:=hS.hM.lt;refine⟨rfl,s.left t.nr,l,wr,nw,?_,(Lie.one hS.N1 hS.lie hlie).1,by show s.N≤s.N+2;omega,rfl,rfl,rfl,rfl,hKB.heap (hR.hp hx') (by simp[hL.xS];omega),hKw.mono (by intro i hi _;simp at hi ⊢;omega),⟨fun _ _ _ _ _ _ h=>h,.inr ⟨rfl,(Lie.one hS.N1 hS.lie hlie).1⟩⟩⟩;refine hS.turn hKw (by simp[n1,n4];exact qB7 hS.hDb hL.hx (by decide)) (qD9 (qD9 (qD9 hS.dev hK hoff) hR (by intro k hk;cases hk)) hKB (qX3 hs1 hB1)) ⟨rfl,rfl,rfl,rfl,rfl,rfl⟩ hs2 ((hM'.kp hR (by simp)).kp hKB (by simp[hMS];omega)) (by have:=hS.m4;omega) hS.n1 hS.bg0 (fun k hk=>hS.kb k (hdl k hk).1) (fun y h g1 g2 g3=>?_);obtain⟨f1,f2⟩:=hdl _ g1;exact hS.rd y h f1 (fun zd=>(f2 zd).symm.trans (g2 zd)) g3
  ·exact hgo (fun W=>by rw[xC9 s.V t.h s.rb s.rs hp hL.key W];simp[he])
end
theorem zU6(ba bb:Nat)(va vb:Value)(ps qs:List KV)(w:World)(ha:OPA w ba va ps)(hb:OPA w bb vb qs)(hn:ps.length≤1000000):
  Calls prog 18 #[va,vb] w fun e w'=>e=.returned (.bool (decide (ps=qs)))∧Kp [] w w':=by
 have sa:=qG3 ha;have sb:=qG3 hb;obtain⟨abs,acp,rfl⟩:=qL0 ha;obtain⟨bbs,bcp,rfl⟩:=qL0 hb;by_cases hll:ps.length=qs.length
 ·obtain⟨ln,hln⟩:∃ ln,ln=ps.length:=⟨_,rfl⟩;have HA:Hid (Slc w 64 2 (.slice abs ln acp) ps.length (qA8 ps)):=by rw[hln];exact sa
  have HB:Hid (Slc w 64 2 (.slice bbs ln bcp) qs.length (qA8 qs)):=by rw[hln,hll];exact sb
  have HLN:Hid (ln=ps.length∧ln=qs.length):=⟨hln,hln.trans hll⟩;rw[←hll,←hln];rw[←hln] at hn;clear ha hb sa sb hln hll;go_enter func18,ntmps18;go_wp2_with fail
  go_loopw [5] (fun i wr=>∃ (j:Nat),j≤ln∧i=.int .i64 j∧Hid (ps.take j=qs.take j)∧Hid (Kp [] w wr)) (fun i _=>ln-(intOf i).toNat)
  case atStart=>exact⟨0,Nat.zero_le _,rfl,rfl,Kp.refl _ _⟩
  case round=>
   obtain⟨j,hj,rfl,HT,HK⟩:=hrel;by_cases hlt:j<ln
   ·have hjb:(j:Int)<(ln:Int):=by omega
    have hjp:j<ps.length:=by have:=HLN.out;omega
    have hjq:j<qs.length:=by have:=HLN.out;omega
    obtain⟨ga,oa,ca,cua,fra,e1,e2,e3,e4⟩:=(HA.out.keep0 HK.out).pairT (by omega);obtain⟨gb,ob,cb,cub,frb,f1,f2,f3,f4⟩:=(HB.out.keep0 HK.out).pairT (by omega);simp only[Value.slice.injEq] at e1 f1;obtain⟨rfl,_,rfl⟩:=e1;obtain⟨rfl,_,rfl⟩:=f1;have a0:=ξ e3 (oa+j*2);rw[(e4 j hjp).1] at a0;have a1:=ξ e3 (oa+j*2+1);rw[(e4 j hjp).2] at a1;have b0:=ξ f3 (ob+j*2);rw[(f4 j hjq).1] at b0;have b1:=ξ f3 (ob+j*2+1);rw[(f4 j hjq).2] at b1;have hga:=ζ e3;have hgb:=ζ f3;have HNX:Hid (ps[j]=qs[j]→ps.take (j+1)=qs.take (j+1)):=fun h=>by rw[List.take_succ_eq_append_getElem hjp,List.take_succ_eq_append_getElem hjq,HT.out,h]
    have HNE:Hid (ps[j]≠qs[j]→ps≠qs):=fun h e=>h (by subst e;rfl);generalize ps[j]=x at a0 a1 HNX HNE;generalize qs[j]=y at b0 b1 HNX HNE;clear e3 f3 e4 f4;by_cases hxy:x=y
    ·subst hxy;have HT2:=Hid.mk' (HNX.out rfl);clear HNX HNE;go_wp2_with fail
     go_quiet (fail)
     go_wp2;exact⟨⟨j+1,by omega,by go_num,HT2,HK.out.trans ((Kp.refl [] _).drewN _) (by simp)⟩,by simp[intOf];omega⟩
    ·have HF:Hid (decide (ps=qs)=false):=decide_eq_false (HNE.out hxy);have hkv:(x.k.toList == y.k.toList)=false∨((x.k.toList == y.k.toList)=true∧(x.v.toList == y.v.toList)=false):=by
      by_cases e:x.k=y.k
      ·refine .inr ⟨by rw[qS5];simpa using e,?_⟩;rw[qS5];have:x.v≠y.v:=fun e2=>hxy (by cases x;cases y;simp only at e e2;rw[e,e2]);simpa using this
      ·exact .inl (by rw[qS5];simpa using e)
     clear HNX HNE hxy;rcases hkv with h1|⟨h1,h2⟩
     all_goals
      go_wp2_with fail
      go_quiet (fail)
      go_wp2;go_ret;exact⟨by rw[HF.out];rfl,HK.out.trans ((Kp.refl [] _).drewN _) (by simp)⟩
   ·have hjb:¬(j:Int)<(ln:Int):=by omega
    have HF:Hid (decide (ps=qs)=true):=by
     refine decide_eq_true ?_;have h:=HT.out;rw[List.take_of_length_le (by have:=HLN.out;omega),List.take_of_length_le (by have:=HLN.out;omega)] at h;exact h
    go_wp2;go_ret;exact⟨by rw[HF.out];rfl,HK.out⟩
 ·have hf:decide (ps=qs)=false:=decide_eq_false (fun e=>hll (by rw[e]));have HF:=zh hf;obtain⟨l1,hl1⟩:∃ l1,l1=ps.length:=⟨_,rfl⟩;obtain⟨l2,hl2⟩:∃ l2,l2=qs.length:=⟨_,rfl⟩;rw[←hl1,←hl2] at hll;rw[←hl1,←hl2];have hne:¬(l1:Int)=(l2:Int):=by omega
  clear ha hb sa sb hl1 hl2 hll hf;go_enter func18,ntmps18;go_wp2;go_ret;exact⟨by rw[HF.out];rfl,Kp.refl _ _⟩
variable {κ:Nat}
theorem jV0(k:Nat):∀ v∈(Builtin.zeroCells zeroCells87 k).toList,v=.int .u8 0:=by
 intro v hv;unfold Builtin.zeroCells at hv;simp only[Array.toList_map,List.mem_map] at hv;obtain⟨i,_,rfl⟩:=hv;have hlt:i % zeroCells87.size<zeroCells87.size:=Nat.mod_lt _ (by rw[zM1];decide);rw[getElem!_pos zeroCells87 (i % zeroCells87.size) hlt];exact xE0 _ (by simp)
theorem jU9(k:Nat):Builtin.zeroCells zeroCells87 k=enc (List.replicate (k*128) 0):=by
 apply Array.ext';have h1:(Builtin.zeroCells zeroCells87 k).toList.length=k*128:=by rw[Array.length_toList,size_zeroCells,zM1]
 have e:(Builtin.zeroCells zeroCells87 k).toList=List.replicate (k*128) (.int .u8 0):=List.eq_replicate_iff.2 ⟨h1,jV0 k⟩;rw[e];simp[enc,qC9]
def pad(l:List UInt8)(N z:Nat):List UInt8:=l.take (N*128)++List.replicate (z*128) 0
theorem zZ4{l:List UInt8}{N z:Nat}(h:N*128≤l.length):(pad l N z).length=(N+z)*128:=by simp[pad];omega
theorem jL3{l:List UInt8}{N z k:Nat}(h:N*128≤l.length)(hk:k<N):qA0 (pad l N z) k=qA0 l k:=by
 unfold qA0 pad;rw[List.drop_append_of_le_length (by simp;omega),List.take_append_of_le_length (by simp;omega),List.drop_take,List.take_take]
 congr 1
 omega
theorem xE6(A N C:Nat)(calls writes:Int)(l:List UInt8)(kb:Option Addr)(kn kc:Nat)(w:World)(h:w.heap[A]?=some (χ κ N C (.slice none 0 0) calls writes))(hN:1≤N)(hN4:N≤1000)(hC:w.heap[C]?=some (.cells (enc l) 87))(hl:N*128≤l.length):
  Calls prog 15 #[.pointer (some ⟨A,0,none⟩),.slice kb kn kc] w fun e w'=>∃ A' C' z,e=.returned (.pointer (some ⟨A',0,none⟩))∧w.heap.size≤A'∧w.heap.size≤C'∧C'≠A'∧w'.heap[A']?=some (χ ((pad l N z).length / 128) N C' (.slice none 0 0) 0 0)∧w'.heap[C']?=some (.cells (enc (pad l N z)) 87)∧Kp [] w w':=by
 obtain⟨i,hi,hiz⟩:=Option.map_eq_some_iff.1 zT8;simp only[Prod.mk.injEq] at hiz;obtain⟨hz,hsz,hby⟩:=hiz;have hr:=run_append_nil (P:=prog) w 69 69 87 i (.agg zeroCells87) underlying69 hi hz ⟨C,0,none⟩ N κ (qC9 (l.take (N*128))) (by rw[hsz];simp[qC9];omega) (fun j v hj=>by
  have e:=ξ hC j;have hj2:(qC9 l)[j]?=some v:=by
   unfold qC9 at hj ⊢;rw[List.map_take,List.getElem?_take] at hj;split at hj
   ·exact hj
   ·cases hj
  rw[show (⟨C,0,none⟩:Addr).add j=⟨C,j,none⟩ by simp[Addr.add];omega,e];simpa [enc] using hj2) (by omega) (by omega) (by rw[hby];omega)
 have hge:=grownCap_ge w N 0 87;obtain⟨z,hzd⟩:∃ z,grownCap w N 0 87=N+z:=⟨grownCap w N 0 87-N,by omega⟩;rw[hzd,show N+z-N=z by omega,show (Value.agg zeroCells87).cells=zeroCells87 from rfl,jU9] at hr;have he:(qC9 (l.take (N*128))).toArray++enc (List.replicate (z*128) 0)=enc (pad l N z):=by simp[enc,qC9,pad]
 rw[he] at hr;have hAs:=ζ h;have a0:=ξ h 0;have a1:=ξ h 1;simp only[χ,zG,zH,zI] at a0 a1;have HR:Hid (N+z=(pad l N z).length / 128):=by show N+z=_;rw[zZ4 hl];omega
 clear h hge hzd he hi hz hsz hby;go_enter func15,ntmps15
 go_wp2_with (at_builtin;(with_reducible refine jT6 ?_ ?_ hr ?_);rfl;rfl)
 obtain⟨w2,hw2,hC2,hA2,hK2⟩:∃ w2,w2=((w.alloc (.cells (enc (pad l N z)) 87)).alloc (χ (N+z) N w.heap.size (.slice none 0 0) 0 0)).drew∧w2.heap[w.heap.size]?=some (.cells (enc (pad l N z)) 87)∧w2.heap[w.heap.size+1]?=some (χ (N+z) N w.heap.size (.slice none 0 0) 0 0)∧Kp [] w w2:=by
  refine⟨_,rfl,θ _ (ν w _),?_,(((Kp.refl [] w).alloc _).alloc _).drew⟩;have e:=ν (w.alloc (.cells (enc (pad l N z)) 87)) (χ (N+z) N w.heap.size (.slice none 0 0) 0 0);rw[show (w.alloc (.cells (enc (pad l N z)) 87)).heap.size=w.heap.size+1 by simp] at e;exact e
 rw[χ] at hw2;rw[←hw2];clear hw2 hr
 go_loopw [21] (fun i w'=>i=.int .i64 0∧w'=w2) (fun _ _=>0)
 case atStart=>exact⟨rfl,rfl⟩
 case round=>
  obtain⟨rfl,hwr⟩:=hrel;rw[hwr];clear hwr;go_wp2;go_ret;exact⟨w.heap.size+1,w.heap.size,z,rfl,by omega,by omega,by omega,by rw[←HR.out];exact hA2,hC2,hK2⟩
theorem zA3(s x:Int)(h0:0≤s)(h1:s<18446744073709551616)(h2:0≤x)(h3:x<256):qI9 s x=(((s.toNat ^^^ x.toNat:Nat):Int)*1099511628211) % 18446744073709551616:=by
 unfold qI9;rw[IntKind.wrap_u64,IntKind.wrap_u64,show x % 18446744073709551616=x by omega,u64_xor s x h0 h1 h2 (by omega)]
theorem zY0(a:Nat)(ha:a<18446744073709551616):((a:Int)*1099511628211) % 18446744073709551616*14886173955864302971 % 18446744073709551616=(a:Int):=by
 rw[Int.mul_emod,Int.emod_emod,←Int.mul_emod,Int.mul_assoc,show (1099511628211:Int)*14886173955864302971=1+18446744073709551616*887285111055 from by decide,Int.mul_add,Int.mul_one,Int.mul_left_comm,Int.add_mul_emod_self_left];exact Int.emod_eq_of_lt (by omega) (by omega)
theorem zY1(a b:Nat)(ha:a<18446744073709551616)(hb:b<18446744073709551616)(h:((a:Int)*1099511628211) % 18446744073709551616=((b:Int)*1099511628211) % 18446744073709551616):a=b:=by
 have h1:=zY0 a ha;rw[h,zY0 b hb] at h1;exact (Int.ofNat_inj.1 h1).symm
theorem zE3(a b:Nat)(ha:a<18446744073709551616)(hb:b<18446744073709551616):a ^^^ b<18446744073709551616:=by
 have:=Nat.xor_lt_two_pow (n:=64) (x:=a) (y:=b) (by simpa using ha) (by simpa using hb);simpa using this
theorem xD9{a b c:Nat}(h:a ^^^ b=a ^^^ c):b=c:=by
 have:=congrArg (a ^^^ ·) h;simpa [←Nat.xor_assoc] using this
theorem jU3{a b c:Nat}(h:b ^^^ a=c ^^^ a):b=c:=xD9 (a:=a) (by rw[Nat.xor_comm a b,Nat.xor_comm a c];exact h)
theorem xR7{s s' x:Int}(h0:0≤s)(h1:s<18446744073709551616)(g0:0≤s')(g1:s'<18446744073709551616)(h2:0≤x)(h3:x<256)(h:qI9 s x=qI9 s' x):s=s':=by
 rw[zA3 s x h0 h1 h2 h3,zA3 s' x g0 g1 h2 h3] at h;have e:=jU3 (zY1 _ _ (zE3 _ _ (by omega) (by omega)) (zE3 _ _ (by omega) (by omega)) h);omega
theorem xR8{s x y:Int}(h0:0≤s)(h1:s<18446744073709551616)(h2:0≤x)(h3:x<256)(g2:0≤y)(g3:y<256)(h:qI9 s x=qI9 s y):x=y:=by
 rw[zA3 s x h0 h1 h2 h3,zA3 s y h0 h1 g2 g3] at h;have e:=xD9 (zY1 _ _ (zE3 _ _ (by omega) (by omega)) (zE3 _ _ (by omega) (by omega)) h);omega
theorem zA4(s x:Int):0≤qI9 s x:=by
 unfold qI9;rw[IntKind.wrap_u64];omega
theorem zS4:∀ (xs:List Int) {s s':Int},0≤s→s<18446744073709551616→0≤s'→s'<18446744073709551616→(∀ x∈xs,0≤x∧x<256)→xs.foldl qI9 s=xs.foldl qI9 s'→s=s'
 | [],s,s',_,_,_,_,_,h=>h
 | x::xs,s,s',h0,h1,g0,g1,hx,h=>by
  have hx0:=hx x (by simp);exact xR7 h0 h1 g0 g1 hx0.1 hx0.2 (zS4 xs (zA4 _ _) (qW2 _ _) (zA4 _ _) (qW2 _ _) (fun y hy=>hx y (by simp[hy])) h)
theorem xR9(a b:List Int)(x y:Int)(hxy:x≠y)(ha:∀ z∈a,0≤z∧z<256)(hb:∀ z∈b,0≤z∧z<256)(hx:0≤x∧x<256)(hy:0≤y∧y<256):fnv (a++x::b)≠fnv (a++y::b):=by
 intro h;unfold fnv at h;rw[List.foldl_append,List.foldl_append,List.foldl_cons,List.foldl_cons] at h;have h0:0≤a.foldl qI9 14695981039346656037:=qP9 a;have h1:a.foldl qI9 14695981039346656037<18446744073709551616:=qW3 a;exact hxy (xR8 h0 h1 hx.1 hx.2 hy.1 hy.2 (zS4 b (zA4 _ _) (qW2 _ _) (zA4 _ _) (qW2 _ _) hb h))
def One(p q:List UInt8):Prop:=p=q∨∃ a x y b,x≠y∧p=a++x::b∧q=a++y::b
theorem One.sum{p q:List UInt8}(h:One p q)(e:fnv (qC8 p)=fnv (qC8 q)):p=q:=by
 rcases h with h|⟨a,x,y,b,hxy,rfl,rfl⟩
 ·exact h
 ·refine absurd e ?_;have hx:=x.toNat_lt;have hy:=y.toNat_lt;have e1:∀ z:UInt8,qC8 (a++z::b)=qC8 a++((z.toNat:Nat):Int)::qC8 b:=fun z=>by simp[qC8]
  rw[e1,e1];exact xR9 _ _ _ _ (fun h=>hxy (UInt8.toNat_inj.1 (by omega))) (qY4 a) (qY4 b) (by omega) (by omega)
theorem One.take{p q:List UInt8}(h:One p q)(k:Nat):One (p.take k) (q.take k):=by
 rcases h with rfl|⟨a,x,y,b,hxy,rfl,rfl⟩
 ·exact .inl rfl
 ·by_cases hk:k≤a.length
  ·exact .inl (by rw[List.take_append_of_le_length hk,List.take_append_of_le_length hk])
  ·obtain⟨j,rfl⟩:∃ j,k=a.length+(j+1):=⟨k-a.length-1,by omega⟩;exact .inr ⟨a,x,y,b.take j,hxy,by rw[List.take_length_add_append,List.take_succ_cons],by rw[List.take_length_add_append,List.take_succ_cons]⟩
theorem One.drop{p q:List UInt8}(h:One p q)(k:Nat):One (p.drop k) (q.drop k):=by
 rcases h with rfl|⟨a,x,y,b,hxy,rfl,rfl⟩
 ·exact .inl rfl
 ·by_cases hk:k≤a.length
  ·exact .inr ⟨a.drop k,x,y,b,hxy,by rw[List.drop_append_of_le_length hk],by rw[List.drop_append_of_le_length hk]⟩
  ·obtain⟨j,rfl⟩:∃ j,k=a.length+(j+1):=⟨k-a.length-1,by omega⟩;exact .inl (by rw[List.drop_append,List.drop_append];simp[show a.length+(j+1)-a.length=j+1 by omega])
theorem One.cut{p q:List UInt8}(h:One p q)(k:Nat):p.take k=q.take k∨p.drop k=q.drop k:=by
 rcases h with rfl|⟨a,x,y,b,hxy,rfl,rfl⟩
 ·exact .inl rfl
 ·by_cases hk:k≤a.length
  ·exact .inl (by rw[List.take_append_of_le_length hk,List.take_append_of_le_length hk])
  ·obtain⟨j,rfl⟩:∃ j,k=a.length+(j+1):=⟨k-a.length-1,by omega⟩;exact .inr (by rw[List.drop_append,List.drop_append];simp[show a.length+(j+1)-a.length=j+1 by omega])
theorem zX4:∀ xs:List Int,(∀ x∈xs,0≤x∧x<256)→qB0 xs.length (qK9 xs)=xs
 | [],_=>rfl
 | x::xs,h=>by
  have hx:=h x (by simp);have ih:=zX4 xs (fun y hy=>h y (by simp[hy]));simp only[List.length_cons,qK9,qB0];rw[show (x+256*qK9 xs) % 256=x by omega,show (x+256*qK9 xs) / 256=qK9 xs by omega,ih]
theorem zX3(l:List UInt8)(h:l.length≤8):qB0 l.length (qD8 (qC8 l))=qC8 l:=by
 have hb:=qY4 l;rw[zC4 _ hb (by rw[qT1];exact h)];have:=zX4 _ hb
 rwa [qT1] at this
theorem qX2(l:List UInt8)(h:l.length≤8):0≤qD8 (qC8 l)∧qD8 (qC8 l)<(256:Int) ^ l.length:=by
 have hb:=qY4 l;rw[zC4 _ hb (by rw[qT1];exact h)];have:=zJ4 _ hb
 rwa [qT1] at this
theorem xC6(l:List UInt8):toB (qC8 l)=l:=by
 unfold toB qC8;rw[List.map_map];refine Eq.trans (List.map_congr_left (g:=id) fun b _=>?_) (List.map_id _);simp only[Function.comp,Int.toNat_natCast,id];exact UInt8.ofNat_toNat
theorem qQ9(l:List UInt8):(ByteArray.mk l.toArray).size=l.length:=by simp[ByteArray.size]
theorem qS6{α:Type}(l:List α)(a b:Nat):l.take (a+b)=l.take a++(l.drop a).take b:=List.take_add
theorem jL6(bl:List UInt8)(off kn vn:Nat)(hin:off+(1+kn+vn)≤bl.length)(x:UInt8)(hx0:bl[off]?=some x)(hx:x.toNat=kn*16+vn)(h1:1≤kn)(h2:kn≤8)(h3:vn≤12):
  ∃ p,qC5 p∧μ p=1+kn+vn∧(bl.drop off).take (μ p)=toB (qD2 p):=by
 have lk:((bl.drop (off+1)).take kn).length=kn:=by simp;omega
 have lv:((bl.drop (off+1+kn)).take vn).length=vn:=by simp;omega
 have hps:μ ⟨⟨((bl.drop (off+1)).take kn).toArray⟩,⟨((bl.drop (off+1+kn)).take vn).toArray⟩⟩=1+kn+vn:=by
  simp only[μ,qQ9,lk,lv]
 refine⟨⟨⟨((bl.drop (off+1)).take kn).toArray⟩,⟨((bl.drop (off+1+kn)).take vn).toArray⟩⟩,⟨?_,?_,?_⟩,hps,?_⟩
 ·show 1≤(ByteArray.mk ((bl.drop (off+1)).take kn).toArray).size;rw[qQ9,lk];exact h1
 ·show (ByteArray.mk ((bl.drop (off+1)).take kn).toArray).size≤8;rw[qQ9,lk];exact h2
 ·show (ByteArray.mk ((bl.drop (off+1+kn)).take vn).toArray).size≤12;rw[qQ9,lv];exact h3
 ·have e1:toB [((kn:Nat):Int)*16+((vn:Nat):Int)]=[x]:=by
   simp only[toB,List.map_cons,List.map_nil];rw[show (((kn:Nat):Int)*16+((vn:Nat):Int)).toNat=x.toNat by omega,UInt8.ofNat_toNat]
  rw[hps,qD2,qH3,qH3,qR1,qR1];simp only[qQ9,lk,lv,e1];rw[Nat.add_assoc,qS6,qS6,List.drop_drop,List.drop_drop,List.append_assoc]
  congr 1
  rw[List.take_one,List.head?_drop,hx0];rfl
theorem jD5(bl:List UInt8)(off kn:Nat)(hin:off+(11+kn)≤bl.length)(x:UInt8)(hx0:bl[off+10]?=some x)(hx:x.toNat=kn)(h2:kn≤8):
  ∃ h:HL,h.p=none∧h.key.size≤8∧0≤h.b∧h.b<65536∧0≤h.s∧h.s<18446744073709551616∧φ h=11+kn∧(bl.drop off).take (φ h)=toB (qD3 h):=by
 have lb:((bl.drop off).take 2).length=2:=by simp;omega
 have ls:((bl.drop (off+2)).take 8).length=8:=by simp;omega
 have lk:((bl.drop (off+11)).take kn).length=kn:=by simp;omega
 have b2:=qX2 ((bl.drop off).take 2) (by omega);have b8:=qX2 ((bl.drop (off+2)).take 8) (by omega);rw[lb] at b2;rw[ls] at b8;have p2:(256:Int) ^ 2=65536:=by decide
 have p8:(256:Int) ^ 8=18446744073709551616:=by decide
 have n2:=zX3 ((bl.drop off).take 2) (by omega);have n8:=zX3 ((bl.drop (off+2)).take 8) (by omega);rw[lb] at n2;rw[ls] at n8;refine⟨⟨⟨((bl.drop (off+11)).take kn).toArray⟩,qD8 (qC8 ((bl.drop off).take 2)),qD8 (qC8 ((bl.drop (off+2)).take 8)),none⟩,rfl,by show (ByteArray.mk _).size≤8;rw[qQ9,lk];exact h2,b2.1,by rw[←p2];exact b2.2,b8.1,by rw[←p8];exact b8.2,by simp only[φ,qQ9,lk],?_⟩;have e1:toB [((kn:Nat):Int)]=[x]:=by
  simp only[toB,List.map_cons,List.map_nil];rw[show (((kn:Nat):Int)).toNat=x.toNat by omega,UInt8.ofNat_toNat]
 simp only[φ,qD3,qQ9,lk];rw[qH3,qH3,qH3,qR1,n2,n8,xC6,xC6,e1];rw[show 11+kn=2+(8+(1+kn)) by omega,qS6,qS6,qS6,List.drop_drop,List.drop_drop,List.drop_drop,List.append_assoc,List.append_assoc,show off+2+8=off+10 by omega,show off+10+1=off+11 by omega]
 congr 2
 rw[List.take_one,List.head?_drop,hx0];rfl
theorem qY8{w:World}{B off:Nat}{bl:List UInt8}{t:TypeId}{x:UInt8}(hB:w.heap[B]?=some (.cells (enc bl) t))(hx:bl[off]?=some x):w.cell? ⟨B,off,none⟩=some (.int .u8 ((x.toNat:Nat):Int)):=by
 rw[ξ hB];unfold enc qC9;rw[zG,List.getElem?_map,hx];rfl
theorem jM6(B off o:Nat)(bl:List UInt8)(v:Value)(w:World)(hB:w.heap[B]?=some (.cells (enc bl) 223))(hbl:bl.length=128)(hoff:off≤128)(ho:off<128→o=off)
  (hno:∀ p,qC5 p→off+μ p≤128→(bl.drop off).take (μ p)≠toB (qD2 p)):
  Calls prog 190 #[v,.slice (some ⟨B,o,none⟩) (128-off) (128-off)] w fun e w'=>e=.returned (.tuple #[.slice none 0 0,.slice none 0 0,.bool false])∧∃ m,w'=w.drewN m:=by
 by_cases h128:off=128
 ·rw[h128,show 128-128=0 from rfl];clear ho hno hB h128 hoff;go_enter func190,ntmps190;go_wp2
  go_ret3
  exact⟨rfl,0,rfl⟩
 ·have hlt:off<128:=by omega
  rw[ho hlt];obtain⟨x,hx⟩:∃ x,bl[off]?=some x:=⟨_,List.getElem?_eq_getElem (by omega)⟩;have hxb:=x.toNat_lt;obtain⟨m,hm⟩:∃ m,m=128-off:=⟨_,rfl⟩;obtain⟨y,hy⟩:∃ y:Int,y=((x.toNat:Nat):Int):=⟨_,rfl⟩;obtain⟨kn,hkn⟩:∃ kn:Nat,kn=x.toNat / 16:=⟨_,rfl⟩;obtain⟨vn,hvn⟩:∃ vn:Nat,vn=x.toNat % 16:=⟨_,rfl⟩;have hk16:y / 16=(kn:Int):=by omega
  have hv16:y % 16=(vn:Int):=by omega
  have b0:=qY8 hB hx;rw[←hy] at b0;have hbad:(kn:Int)<1∨(8:Int)<(kn:Int)∨(12:Int)<(vn:Int)∨(m:Int)<1+(kn:Int)+(vn:Int):=by
   refine Classical.byContradiction fun hc=>?_;have h1:1≤kn∧kn≤8∧vn≤12∧1+kn+vn≤m:=by omega
   obtain⟨p,hp,hps,he⟩:=jL6 bl off kn vn (by omega) x hx (by omega) h1.1 h1.2.1 h1.2.2.1;exact hno p hp (by omega) he
  have hm1:(0:Int)<(m:Int):=by omega
  have hm0:((m:Int) == 0)=false:=by simp;omega
  have hBs:=ζ hB;have hv15:vn<16:=by omega
  have hk15:kn<16:=by omega
  rw[←hm];clear hno ho hx hxb hkn hvn hy hm hB hoff hlt h128 hbl;go_enter func190,ntmps190;by_cases c1:(kn:Int)<1
  ·skip
   go_wp2_with fail
   go_quiet (fail)
   go_wp2
   go_ret3
   exact⟨rfl,_,rfl⟩
  ·by_cases c2:(8:Int)<(kn:Int)
   ·skip
    go_wp2_with fail
    go_quiet (fail)
    go_wp2
    go_ret3
    exact⟨rfl,_,rfl⟩
   ·by_cases c3:(12:Int)<(vn:Int)
    ·skip
     go_wp2_with fail
     go_quiet (fail)
     go_wp2
     go_ret3
     exact⟨rfl,_,rfl⟩
    ·have c4:(m:Int)<1+(kn:Int)+(vn:Int):=by omega
     go_wp2_with fail
     go_quiet (fail)
     go_wp2
     go_ret3
     exact⟨rfl,_,rfl⟩
theorem jM5(B off o:Nat)(bl:List UInt8)(v:Value)(w:World)(hB:w.heap[B]?=some (.cells (enc bl) 223))(hbl:bl.length=128)(hoff:off≤128)(ho:off<128→o=off)
  (hno:∀ h:HL,h.p=none∧h.key.size≤8∧0≤h.b∧h.b<65536∧0≤h.s∧h.s<18446744073709551616→off+φ h≤128→(bl.drop off).take (φ h)≠toB (qD3 h)):
  Calls prog 191 #[v,.slice (some ⟨B,o,none⟩) (128-off) (128-off)] w fun e w'=>e=.returned (.tuple #[.slice none 0 0,.slice none 0 0,.bool false])∧∃ m,w'=w.drewN m:=by
 by_cases h11:128-off<11
 ·obtain⟨m,hm⟩:∃ m,m=128-off:=⟨_,rfl⟩;rw[←hm] at h11 ⊢;have hm11:(m:Int)<11:=by omega
  clear ho hno hB h11 hoff hm;go_enter func191,ntmps191;go_wp2
  go_ret3
  exact⟨rfl,0,rfl⟩
 ·have hlt:off<128:=by omega
  rw[ho hlt];obtain⟨x,hx⟩:∃ x,bl[off+10]?=some x:=⟨_,List.getElem?_eq_getElem (by omega)⟩;have hxb:=x.toNat_lt;obtain⟨m,hm⟩:∃ m,m=128-off:=⟨_,rfl⟩;obtain⟨kn,hkn⟩:∃ kn:Nat,kn=x.toNat:=⟨_,rfl⟩;have b10:=qY8 hB hx;rw[←hkn] at b10;have hbad:(8:Int)<(kn:Int)∨(m:Int)<11+(kn:Int):=by
   refine Classical.byContradiction fun hc=>?_;have h1:kn≤8∧11+kn≤m:=by omega
   obtain⟨h,a1,a2,a3,a4,a5,a6,hps,he⟩:=jD5 bl off kn (by omega) x hx hkn.symm h1.1;exact hno h ⟨a1,a2,a3,a4,a5,a6⟩ (by omega) he
  have hm11:¬(m:Int)<11:=by omega
  have hmx:(10:Int)<(m:Int):=by omega
  have hBs:=ζ hB;have hk15:kn<256:=by omega
  rw[←hm];clear hno ho hx hxb hkn hm hB hoff hlt h11 hbl;go_enter func191,ntmps191;by_cases c1:(8:Int)<(kn:Int)
  ·go_wp2
   go_ret3
   exact⟨rfl,0,rfl⟩
  ·have c4:(m:Int)<11+(kn:Int):=by omega
   go_wp2
   go_ret3
   exact⟨rfl,0,rfl⟩
variable {κ:Nat}
theorem jG6(l:List UInt8)(i:Nat)(v:UInt8):One l (l.set i v):=by
 by_cases h:i<l.length
 ·by_cases e:l[i]=v
  ·left;rw[←e,List.set_getElem_self]
  ·right;refine⟨l.take i,l[i],v,l.drop (i+1),e,?_,?_⟩
   ·rw[←List.drop_eq_getElem_cons h,List.take_append_drop]
   ·rw[List.set_eq_take_append_cons_drop,if_pos h]
 ·left;rw[List.set_eq_of_length_le (by omega)]
theorem jG4(l:List UInt8)(i k:Nat)(v:UInt8):One (qA0 l k) (qA0 (l.set i v) k):=by
 unfold qA0;exact ((jG6 l i v).drop _).take _
theorem xO5(l:List UInt8)(i:Nat)(v:UInt8):(enc l).setIfInBounds i (.int .u8 ((v.toNat:Nat):Int))=enc (l.set i v):=by
 unfold enc qC9;rw[zA,List.map_set]
theorem jR5(A N C:Nat)(calls writes bit:Int)(l:List UInt8)(w:World)(h:w.heap[A]?=some (χ κ N C (.slice none 0 0) calls writes))(hN:1≤N)(hN4:N≤1000)(hC:w.heap[C]?=some (.cells (enc l) 87))(hl:N*128≤l.length)(hb0:-9223372036854775808≤bit)(hb1:bit≤9223372036854775807):
  Calls prog 31 #[.pointer (some ⟨A,0,none⟩),.int .i64 bit] w fun e w'=>∃ A' C' l',e=.returned (.pointer (some ⟨A',0,none⟩))∧w.heap.size≤A'∧w.heap.size≤C'∧C'≠A'∧w'.heap[A']?=some (χ (l'.length / 128) N C' (.slice none 0 0) 0 0)∧w'.heap[C']?=some (.cells (enc l') 87)∧N*128≤l'.length∧(∀ k,k<N→One (qA0 l k) (qA0 l' k))∧Kp [] w w':=by
 have HAF:Hid (Calls prog 15 #[.pointer (some ⟨A,0,none⟩),.slice none 0 0] w fun e w'=>∃ A' C' z,e=.returned (.pointer (some ⟨A',0,none⟩))∧w.heap.size≤A'∧w.heap.size≤C'∧C'≠A'∧w'.heap[A']?=some (χ ((pad l N z).length / 128) N C' (.slice none 0 0) 0 0)∧w'.heap[C']?=some (.cells (enc (pad l N z)) 87)∧Kp [] w w'):=xE6 A N C calls writes l none 0 0 w h hN hN4 hC hl;have HL:=zh hl;clear h hC hl;obtain⟨m,hm⟩:∃ m:Int,m=(N:Int)*128*8:=⟨_,rfl⟩;have hm0:(0:Int)<(N:Int)*128*8:=by omega
 have ht1:=Int.tmod_lt_of_pos bit hm0;have ht2:=Int.lt_tmod_of_pos bit hm0;obtain⟨y,hy,hylt⟩:∃ y:Nat,(wrap64 (bit.tmod ((N:Int)*128*8)+(N:Int)*128*8)).tmod ((N:Int)*128*8)=(y:Int)∧y<N*1024:=by
  have hw:wrap64 (bit.tmod ((N:Int)*128*8)+(N:Int)*128*8)=bit.tmod ((N:Int)*128*8)+(N:Int)*128*8:=by simp only[wrap64];omega
  rw[hw];have h1:=Int.tmod_nonneg ((N:Int)*128*8) (a:=bit.tmod ((N:Int)*128*8)+(N:Int)*128*8) (by omega);have h2:=Int.tmod_lt_of_pos (bit.tmod ((N:Int)*128*8)+(N:Int)*128*8) hm0;exact⟨_,(Int.toNat_of_nonneg h1).symm,by omega⟩
 have HY:=zh hy;clear hy ht1 ht2 hm m hb0 hb1;go_enter func31,ntmps31;go_wp2_with fail;refine (show Calls _ _ _ _ _ from HAF.out).mono ?_;rintro e w1 ⟨A1,C1,z,rfl,gA,gC,hne,hA1,hC1,hK1⟩;have hA1s:=ζ hA1;have a0:=ξ hA1 0;simp only[χ,zG,zH,zI] at a0;have HA1:=Hid.mk' hA1;have HC1:=Hid.mk' hC1;have HPL:Hid ((pad l N z).length=(N+z)*128):=zZ4 HL.out;clear hA1 HAF hC1;go_wp2_with fail;rw[HY.out];clear HY a0;obtain⟨lp,hlp⟩:∃ lp,lp=pad l N z:=⟨_,rfl⟩;have HLP:=zh hlp;rw[←hlp] at HA1 HC1 HPL ⊢;clear hlp;obtain⟨cp,hcp⟩:∃ cp,cp=lp.length / 128:=⟨_,rfl⟩;have HCP:=zh hcp;rw[←hcp] at HA1 ⊢;clear hcp;obtain⟨y8,hy8⟩:∃ y8:Nat,y8=y / 8:=⟨_,rfl⟩;obtain⟨b,hb⟩:∃ b:Nat,b=y8 / 128:=⟨_,rfl⟩;obtain⟨o,ho⟩:∃ o:Nat,o=y8 % 128:=⟨_,rfl⟩;obtain⟨kx,hkx⟩:∃ kx:Nat,kx=y % 8:=⟨_,rfl⟩;have f1:(y:Int).tdiv 8=(y8:Int):=by rw[Int.tdiv_eq_ediv_of_nonneg (by omega)];omega
 have f2:(y8:Int).tdiv 128=(b:Int):=by rw[Int.tdiv_eq_ediv_of_nonneg (by omega)];omega
 have f3:(y8:Int).tmod 128=(o:Int):=by rw[Int.tmod_eq_emod_of_nonneg (by omega)];omega
 have f4:(y:Int).tmod 8=(kx:Int):=by rw[Int.tmod_eq_emod_of_nonneg (by omega)];omega
 have hw8:IntKind.i64.wrap (y8:Int)=(y8:Int):=by rw[IntKind.wrap_i64];omega
 have hwb:IntKind.i64.wrap (b:Int)=(b:Int):=by rw[IntKind.wrap_i64];omega
 have hbN:(b:Int)<(N:Int):=by omega
 have ho8:(o:Int)<128:=by omega
 have hk8:(kx:Int)<8:=by omega
 have hidx:b*128+o<lp.length:=by have:=HPL.out;omega
 obtain⟨x,hx⟩:∃ x,lp[b*128+o]?=some x:=⟨_,List.getElem?_eq_getElem hidx⟩;have HX:=zh hx;clear hy8 hb ho hkx hx hidx hylt;obtain⟨sh,hsh⟩:∃ sh:Int,IntKind.u8.wrap (2 ^ kx)=sh:=⟨_,rfl⟩;have hshb:0≤sh∧sh<256:=by rw[←hsh,IntKind.wrap_u8];omega
 have hxb:=x.toNat_lt;obtain⟨v,hv⟩:∃ v:UInt8,bits BinOp.xor .u8 ((x.toNat:Nat):Int) sh=((v.toNat:Nat):Int):=by
  refine⟨UInt8.ofNat (x.toNat ^^^ sh.toNat),?_⟩;have h1:=Nat.xor_lt_two_pow (n:=8) (x:=x.toNat) (y:=sh.toNat) (by simpa using hxb) (by simp;omega);rw[u8_xor _ _ (by omega) (by omega) hshb.1 hshb.2,UInt8.toNat_ofNat',Int.toNat_natCast];omega
 clear hshb hxb;have hSd:w1.drew.heap[A1]?=some (χ cp N C1 (.slice none 0 0) 0 0):=HA1.out;refine wp_region_held_drew (S:=fun W=>W.heap[A1]?=some (χ cp N C1 (.slice none 0 0) 0 0)) (by kernel_rfl) hSd (fun _=>?_);refine zP 0 A1 0 hSd ?_;refine zV 1 (.pointer (some ⟨A1,0,none⟩)) rfl (fun W hS=>by have c:=ζ hS;clear hS;go_simp) hSd ?_;refine zP 2 A1 0 hSd ?_;refine zV 3 (.slice (some ⟨C1,0,none⟩) N cp) rfl (fun W hS=>by have a:=ξ hS 0;simp only[χ,zG,zH,zI] at a;clear hS;go_simp) hSd ?_;refine zU 4 (.int .i64 (y:Int)) hSd ?_;refine zU 5 (.int .i64 (y8:Int)) hSd ?_;refine zU 6 (.int .i64 (b:Int)) hSd ?_;refine zU 7 (.int .i64 (y:Int)) hSd ?_;refine zU 8 (.int .i64 (y8:Int)) hSd ?_;refine zU 9 (.int .i64 (o:Int)) hSd ?_;refine zU 10 (.pointer (some ⟨C1,b*128,none⟩)) hSd ?_;refine zU 11 (.pointer (some ⟨C1,b*128+o,none⟩)) hSd ?_;refine zU 13 (.int .i64 (y:Int)) hSd ?_;refine zU 14 (.int .i64 (kx:Int)) hSd ?_;refine zU 15 (.int .u8 sh) hSd ?_;refine zU 17 (.pointer (some ⟨C1,b*128,none⟩)) hSd ?_;refine zq 12 fun K hK=>?_;have a12:=qY8 (w:=w1.drew) HC1.out HX.out;go_simp;refine hK.out _ _ hSd (fun _=>?_);clear hK K a12
 try simp only[zZ]
 refine zU 16 (.int .u8 ((v.toNat:Nat):Int)) hSd ?_;refine zU 18 (.pointer (some ⟨C1,b*128+o,none⟩)) hSd ?_;refine zq 19 fun K hK=>?_;have a19:=qY8 (w:=w1.drew) HC1.out HX.out;have f19:=ω (show w1.drew.heap[C1]?=some (.cells (enc lp) 87) from HC1.out) (b*128+o);have c19:=ζ HC1.out;go_simp;have hset:(w1.drew.setCell ⟨C1,b*128+o,none⟩ (.int .u8 ((v.toNat:Nat):Int))).heap[C1]?=some (.cells (enc (lp.set (b*128+o) v)) 87):=by
  rw[←xO5];exact ψ HC1.out _ _
 have hoth:(w1.drew.setCell ⟨C1,b*128+o,none⟩ (.int .u8 ((v.toNat:Nat):Int))).heap[A1]?=some (χ cp N C1 (.slice none 0 0) 0 0):=(qA6 (fun e=>hne e.symm) _ _).trans HA1.out;have hKw:Kp [] w (w1.drew.setCell ⟨C1,b*128+o,none⟩ (.int .u8 ((v.toNat:Nat):Int))):=hK1.drew.setCell (Or.inr gC) _;refine hK.out _ _ hoth (fun _=>?_);clear hK K a19 f19 c19;refine zd ?_
 try simp only[zZ]
 have HE:=Hid.mk' (And.intro hset (And.intro hoth hKw));clear hset hoth hKw;go_wp2;go_ret;have hlen:(lp.set (b*128+o) v).length=lp.length:=List.length_set;refine⟨A1,C1,lp.set (b*128+o) v,rfl,gA,gC,hne,by rw[hlen,←HCP.out];exact HE.out.2.1,HE.out.1,by rw[hlen,HPL.out];omega,fun k hk=>?_,HE.out.2.2⟩;have h1:=jG4 lp (b*128+o) k v;have h2:qA0 lp k=qA0 l k:=by rw[HLP.out];exact jL3 HL.out hk
 rw[h2] at h1;exact h1
theorem xK1(d:Nat)(x y:Int)(h:x≠y)(W:World):(Op.equalIn (d+1) 5 (.int .u8 x) (.int .u8 y)).run prog W=.ok false W:=by
 simp[Op.equalIn,run_underlying underlying5,h]
theorem xX1(d:Nat)(E F:Array Value)(hb:allBytes E)(hc:allBytes F)(hs:E.size=F.size)(W:World):∀ is:List Nat,(∀ i∈is,i<E.size)→(∃ i∈is,E[i]?≠F[i]?)→(Op.eqItems (d+1) 5 1 E F is).run prog W=.ok false W:=by
 intro is
 induction is with
 | nil=>intro _ h;obtain⟨i,hi,_⟩:=h;cases hi
 | cons i is ih=>
  intro h hex;have hi:=h i (by simp);have hi':i<F.size:=by omega
  obtain⟨x,hx⟩:=hb E[i] (by simp);obtain⟨y,hy⟩:=hc F[i] (by simp);have he:E[i*1]?=some (.int .u8 x):=by rw[Nat.mul_one,Array.getElem?_eq_getElem hi,hx]
  have hf:F[i*1]?=some (.int .u8 y):=by rw[Nat.mul_one,Array.getElem?_eq_getElem hi',hy]
  by_cases hxy:x=y
  ·subst hxy;simp only[Op.eqItems,Sem.run_bind,run_part_plain W (P:=prog) (e:=5) (by kernel_rfl) he,run_part_plain W (P:=prog) (e:=5) (by kernel_rfl) hf,Result.andThen_ok,zO9,Bool.not_true,Bool.false_eq_true,if_false];refine ih (fun j hj=>h j (by simp[hj])) ?_;obtain⟨k,hk,hne⟩:=hex;rcases List.mem_cons.1 hk with rfl|hk
   ·rw[Nat.mul_one] at he hf;exact absurd (he.trans hf.symm) hne
   ·exact⟨k,hk,hne⟩
  ·simp only[Op.eqItems,Sem.run_bind,run_part_plain W (P:=prog) (e:=5) (by kernel_rfl) he,run_part_plain W (P:=prog) (e:=5) (by kernel_rfl) hf,Result.andThen_ok,xK1 _ _ _ hxy,Bool.not_false,if_true];rfl
theorem zO5(E F:Array Value)(hs:E.size=128)(hs':F.size=128)(hb:allBytes E)(hc:allBytes F)(hne:E≠F)(W:World):Sem.run prog (Op.equalIn 10000 223 (.agg E) (.agg F)) W=.ok false W:=by
 obtain⟨i0,hi,_⟩:=info_parts Tryz.info5;have h:=run_equalIn_array (P:=prog) W 9999 E F underlying223 hi;refine Eq.trans h ?_;rw[show prog.cellsOf 5=1 from by kernel_rfl];refine xX1 9998 E F hb hc (by omega) W _ (fun i hi=>by rw[hs];simpa using hi) ?_;refine Classical.byContradiction fun hno=>hne ?_;refine Array.ext_getElem? fun i=>?_;by_cases hi:i<128
 ·exact Classical.byContradiction fun hh=>hno ⟨i,by simpa using hi,hh⟩
 ·rw[Array.getElem?_eq_none (by omega),Array.getElem?_eq_none (by omega)]
theorem xO3{a b:List UInt8}(h:qC9 a=qC9 b):a=b:=by
 unfold qC9 at h;refine (List.map_inj_right ?_).1 h;intro x y e;simp only[Value.int.injEq,true_and] at e;exact UInt8.toNat_inj.1 (by omega)
theorem zQ8{a b:List UInt8}(h:enc a=enc b):a=b:=xO3 (by simpa [enc] using h)
theorem qW5{α:Type}(f:α→Nat)(l:List α)(h:∀ x∈l,1≤f x):l.length≤meas f l:=by
 induction l with
 | nil=>simp
 | cons a l ih=>
  have:=h a (by simp);have:=ih (fun x hx=>h x (by simp[hx]));rw[qE0,List.length_cons];omega
theorem qO1{α:Type}(f:α→Nat)(l:List α)(a:α):meas f (l++[a])=meas f l+f a:=by rw[qG2,qE0,qD1,Nat.add_zero]
theorem jM0(bl:List UInt8)  (w:World) (hbl:bl.length=128) (h0:bl[0]?=some 0) (hno:∀ ps:List KV,(∀ p∈ps,qC5 p)→2+meas μ ps≤128→bl≠toB (qA1 0 ps [])):
  Calls prog 166 #[.agg (enc bl)] w fun e w'=>(∃ q,e=.returned (.tuple #[q,.bool false]))∧Kp [] w w':=by
 obtain⟨x1,hx1⟩:∃ x,bl[1]?=some x:=⟨_,List.getElem?_eq_getElem (by omega)⟩;have hx1b:=x1.toNat_lt;obtain⟨cn,hcn⟩:∃ cn:Nat,cn=x1.toNat:=⟨_,rfl⟩;have b0:(enc bl)[0]?=some (.int .u8 0):=by
  unfold enc qC9;rw[zG,List.getElem?_map]
  first
   | (rw[h0];rfl)
   | (obtain⟨x,e1,e2⟩:=h0;rw[e1,e2];rfl)
 have b1:(enc bl)[1]?=some (.int .u8 (cn:Int)):=by
  unfold enc qC9;rw[zG,List.getElem?_map,hx1,hcn];rfl
 have hes:(enc bl).size=128:=by rw[qE6];exact hbl
 obtain⟨E,hE⟩:∃ E,E=enc bl:=⟨_,rfl⟩;have HE:Hid (E=enc bl∧E.size=128):=⟨hE,by rw[hE];exact hes⟩;have HCN:Hid (cn<256∧bl[1]?=some x1∧cn=x1.toNat):=⟨by omega,hx1,hcn⟩;have HNO:=zh hno;have HBL:=zh hbl;rw[←hE] at b0 b1;rw[←hE];clear hcn hno hes hE h0 hx1 hx1b hbl;go_enter func166,ntmps166;go_wp2_with fail;have hE0:=θ (.cells #[.int .i64 0,.slice none 0 0,.slice none 0 0] 152) (ν w (.cells E 223));have hN0:=ν (w.alloc (.cells E 223)) (.cells #[.int .i64 0,.slice none 0 0,.slice none 0 0] 152);rw[show (w.alloc (.cells E 223)).heap.size=w.heap.size+1 from by simp] at hN0;have hK0:Kp [] w ((w.alloc (.cells E 223)).alloc (.cells #[.int .i64 0,.slice none 0 0,.slice none 0 0] 152)):=((Kp.refl _ _).alloc _).alloc _
 go_loopw [5,6,15] (fun r ob i wr=>∃ (j off o:Nat) (vj:Value) (psj:List KV),Hid (psj.length=j∧j≤cn)∧i=.int .u8 j∧ob=.bool true∧Hid (off=2+meas μ psj∧off≤128)∧r=.slice (some ⟨w.heap.size,o,none⟩) (128-off) (128-off)∧Hid (off<128→o=off)∧Hid ((bl.drop 2).take (meas μ psj)=toB (psj.flatMap qD2))∧Hid (∀ p∈psj,qC5 p)∧Hid (wr.heap[w.heap.size]?=some (.cells E 223))∧Hid (wr.heap[w.heap.size+1]?=some (.cells #[.int .i64 0,vj,.slice none 0 0] 152))∧Hid (wr.ownsRow w.heap.size 158 2 vj j (qA8 psj))∧Hid (Kp [] w wr)) (fun _ _ i _=>cn-(intOf i).toNat)
 case atStart=>exact⟨0,2,2,.slice none 0 0,[],⟨rfl,Nat.zero_le _⟩,rfl,rfl,⟨by simp[qD1],by omega⟩,rfl,fun _=>rfl,by show _=_;simp[qD1,toB],by show ∀ p∈([]:List KV),_;simp,hE0,hN0,by show World.ownsRow _ _ _ _ _ _ _;exact World.ownsRow_nil _ _ _ _,hK0⟩
 case round=>
  obtain⟨j,off,o,vj,psj,HJ,rfl,rfl,HOFF,rfl,HOO,HTK,HZJ,HB,HN,HO,HKP⟩:=hrel;clear hE0 hN0 hK0 b0 b1;have hjl:psj.length=j:=HJ.out.1;have hj126:j≤126:=by
   have h1:=qW5 μ psj (fun p _=>by unfold μ;omega);have:=HOFF.out;omega
  by_cases hlt:j<cn
  ·have hjb:(j:Int)<(cn:Int):=by omega
   by_cases hex:∃ p:KV,(qC5 p)∧off+μ p≤128∧(bl.drop off).take (μ p)=toB (qD2 p)
   ·obtain⟨p,hp1,hp2,hp3⟩:=hex;have HEN:=zh hp3;have hFp:0<μ p:=by unfold μ;omega
    have hoo:=(HOO.out (by omega)).symm;subst hoo;have hN:=HN.out;have hNs:=ζ hN;have n0:=ξ hN;have fn1:=ω hN 1;clear hN hp3;go_wp2_with fail;refine (zZ9 w.heap.size w.heap.size off bl p psj _ wr (by have h:=HB.out;rw[HE.out.1] at h;exact h) HBL.out hp1 hp2 HEN.out (by rw[hjl];exact HO.out) (by have:=HKP.out.size;omega) (by omega)).mono ?_;rintro e w1 ⟨v1,r1,rfl,hr1,⟨o1,rfl⟩,hown1,hbl1,hst1⟩;rw[hjl] at hown1;obtain⟨g1,cap1,rfl⟩:=qJ1 hown1;have hN1:=hst1 _ _ _ _ HN.out (by decide);have hB1:=hst1 _ _ _ _ HB.out (by decide);have hN1s:=ζ hN1;have m1:=ξ hN1 1;simp only[zG,zH,zI] at m1;have fm1:=ω hN1 1;have HN1:=zh hN1;have HB1:=zh hB1;have HO1:=zh hown1;have HK1:Hid (Kp [] w w1):=Kp.of_below ((HKP.out.below (Nat.le_refl _) (by simp)).trans hbl1) (Nat.le_refl _);have HR1:Hid (off+μ p<128→o1=off+μ p):=by
     intro h;have h2:=hr1 h;simp only[Value.slice.injEq,Option.some.injEq,Addr.mk.injEq,and_true,true_and] at h2;exact h2
    have HOF1:Hid (off+μ p=2+meas μ (psj++[p])∧off+μ p≤128):=⟨by rw[qO1,HOFF.out.1];omega,hp2⟩;have HTK1:Hid ((bl.drop 2).take (meas μ (psj++[p]))=toB ((psj++[p]).flatMap qD2)):=by
     show _=_;rw[qO1,qS6,HTK.out,List.drop_drop,←HOFF.out.1,HEN.out,List.flatMap_append,qH3];simp
    have HZ1:Hid (∀ q∈psj++[p],(fun p:KV=>qC5 p) q):=by
     intro q hq;rcases List.mem_append.1 hq with hq|hq
     ·exact HZJ.out q hq
     ·rw[List.mem_singleton.1 hq];exact hp1
    have hwj:IntKind.u8.wrap ((j:Int)+1)=(j:Int)+1:=by rw[IntKind.wrap_u8];omega
    have HJ1:Hid ((psj++[p]).length=j+1∧j+1≤cn):=⟨by rw[List.length_append,hjl];rfl,by omega⟩;clear hN1 hB1 hown1 hbl1 hst1 hr1 n0 fn1 hp1 hp2 hFp hjl hj126 hlt;go_wp2;have hKs:Kp [w.heap.size+1] w1 (w1.setCell ⟨w.heap.size+1,1,none⟩ (.slice (some ⟨g1,0,none⟩) (j+1) cap1)):=(Kp.refl _ _).sc _;have hJ1:=HJ1.out.2;exact⟨⟨j+1,off+μ p,o1,_,psj++[p],HJ1,by go_num,rfl,HOF1,rfl,HR1,HTK1,HZ1,hKs.hp HB1.out,ψ HN1.out 1 _,qF4 HO1.out hKs (fun q hq c t fr e=>by rw[List.mem_singleton.1 hq,HN1.out] at e;cases e;decide),HK1.out.tr hKs⟩,by simp[intOf];omega⟩
   ·have HBAD:Hid (Calls prog 190 #[vj,.slice (some ⟨w.heap.size,o,none⟩) (128-off) (128-off)] wr fun e w'=>e=.returned (.tuple #[.slice none 0 0,.slice none 0 0,.bool false])∧∃ m,w'=wr.drewN m):=jM6 w.heap.size off o bl vj wr (by have h:=HB.out;rw[HE.out.1] at h;exact h) HBL.out (by have:=HOFF.out;omega) HOO.out (fun p h1 h2 h3=>hex ⟨p,h1,h2,h3⟩);have hN:=HN.out;have hNs:=ζ hN;have n0:=ξ hN;have fn1:=ω hN 1;obtain⟨bj,lj,cj,hvj⟩:∃ bj lj cj,vj=.slice bj lj cj:=by
     rcases HO.out.2 with⟨h1,_⟩|⟨g,cap,cur,h1,_⟩
     ·exact⟨_,_,_,h1⟩
     ·exact⟨_,_,_,h1⟩
    subst hvj;clear hN hex hjl hj126 hlt;go_wp2_with fail;refine (show Calls _ _ _ _ _ from HBAD.out).mono ?_;rintro e w1 ⟨rfl,m,hw1⟩;have hK1:Kp [] wr w1:=by rw[hw1];exact (Kp.refl _ _).drewN _
    have hN1:=hK1.hp HN.out;have hN1s:=ζ hN1;have m1:=ξ hN1 1;simp only[zG,zH,zI] at m1;have fm1:=ω hN1 1;have HK1:Hid (Kp [] w w1):=HKP.out.tr hK1;clear hN1 hK1 hw1 n0 fn1 HBAD;go_wp2
    go_ret2
    exact⟨⟨_,rfl⟩,HK1.out.setCell (Or.inr (by show w.heap.size≤w.heap.size+1;omega)) _⟩
  ·have hjb:¬(j:Int)<(cn:Int):=by omega
   have hjc:j=cn:=by have:=HJ.out;omega
   have hby:=qG9 0 psj [] (by omega) (by omega) (by simp;omega) HZJ.out (by simp);have hNL:(qA1 0 psj []).length=128:=qO2 0 psj [] (by have:=HOFF.out;simp only[qD1];omega);have hF:(u8s (qA1 0 psj [])).toArray=enc (toB (qA1 0 psj [])):=by rw[enc,←qV2 _ hby]
   obtain⟨F,hFd⟩:∃ F,F=(u8s (qA1 0 psj [])).toArray:=⟨_,rfl⟩;have HF:Hid (F.size=128∧allBytes F∧F≠E):=⟨by rw[hFd,hF,qE6,qH0];exact hNL,by rw[hFd,hF];exact qH1 _,fun h=>HNO.out psj HZJ.out (by rw[←HOFF.out.1];exact HOFF.out.2) (zQ8 (by rw[←hF,←hFd,h];exact HE.out.1.symm))⟩;have HBLK:=Hid.mk' (qV8 (w.heap.size+1) 0 vj (.slice none 0 0) psj [] wr.drew HN.out (by omega) (by omega) (qG3 (by have h:=HO.out;rw[←hjl] at h;exact h)) ⟨rfl,Or.inl ⟨rfl,none,0,rfl,fun _=>rfl⟩⟩ (by have:=HOFF.out;simp only[qD1];omega) (by simp;omega) HZJ.out (by simp));rw[←hFd] at HBLK;have hbE:allBytes E:=by rw[HE.out.1];exact qH1 _
   clear hby hNL hF hFd;go_wp2_with fail;have hSd:wr.drew.heap[w.heap.size]?=some (.cells E 223):=HB.out;refine wp_region_held_drew (S:=fun W=>W.heap[w.heap.size]?=some (.cells E 223)) (by kernel_rfl) hSd (fun _=>?_);refine zU 0 (.pointer (some ⟨w.heap.size+1,0,none⟩)) hSd ?_;refine zU 1 (.pointer (some ⟨w.heap.size+1,0,none⟩)) hSd ?_;refine zV 3 (.agg E) rfl (fun W hS=>qK0 (t:=223) rfl (by kernel_rfl) 128 (by kernel_rfl) w.heap.size rfl hS HE.out.2) hSd ?_;refine zq 2 fun K hK=>?_;go_simp;refine (show Calls _ _ _ _ _ from HBLK.out).mono ?_;rintro e w1 ⟨rfl,hK1⟩;have hS1:=hK1.hp hSd;refine hK.out _ _ hS1 (fun _=>?_);clear hK K
   try simp only[zZ]
   refine zV 4 (.bool false) rfl (fun W hS=>by have h:=zO5 F E HF.out.1 HE.out.2 HF.out.2.1 hbE HF.out.2.2 W;clear hS;go_simp) hS1 ?_;refine zq 5 fun K hK=>?_;go_simp;refine hK.out _ _ hS1 (fun _=>?_);clear hK K
   try simp only[zZ]
   refine zq 6 fun K hK=>?_;go_simp;refine hK.out _ _ hS1 (fun _=>?_);clear hK K
   try simp only[zZ]
   refine zd ?_;have hKw:Kp [] wr w1:=((Kp.refl _ wr).drew).tr hK1;have HW:Hid (Kp [] w w1):=HKP.out.tr hKw;clear hKw hK1 hS1 hSd HBLK;go_wp2
   go_ret2
   exact⟨⟨_,rfl⟩,HW.out⟩
theorem jL8(bl:List UInt8)(lv:Int)(hlv0:0<lv)(hlv1:lv<256)(w:World)(hbl:bl.length=128)(h0:∃ x:UInt8,bl[0]?=some x∧lv=((x.toNat:Nat):Int))(hno:∀ ps:List HL,(∀ p∈ps,p.p=none∧p.key.size≤8∧0≤p.b∧p.b<65536∧0≤p.s∧p.s<18446744073709551616)→2+meas φ ps≤128→bl≠toB (qA1 lv [] ps)):
  Calls prog 166 #[.agg (enc bl)] w fun e w'=>(∃ q,e=.returned (.tuple #[q,.bool false]))∧Kp [] w w':=by
 obtain⟨x1,hx1⟩:∃ x,bl[1]?=some x:=⟨_,List.getElem?_eq_getElem (by omega)⟩;have hx1b:=x1.toNat_lt;obtain⟨cn,hcn⟩:∃ cn:Nat,cn=x1.toNat:=⟨_,rfl⟩;have b0:(enc bl)[0]?=some (.int .u8 lv):=by
  unfold enc qC9;rw[zG,List.getElem?_map]
  first
   | (rw[h0];rfl)
   | (obtain⟨x,e1,e2⟩:=h0;rw[e1,e2];rfl)
 have b1:(enc bl)[1]?=some (.int .u8 (cn:Int)):=by
  unfold enc qC9;rw[zG,List.getElem?_map,hx1,hcn];rfl
 have hes:(enc bl).size=128:=by rw[qE6];exact hbl
 obtain⟨E,hE⟩:∃ E,E=enc bl:=⟨_,rfl⟩;have HE:Hid (E=enc bl∧E.size=128):=⟨hE,by rw[hE];exact hes⟩;have HCN:Hid (cn<256∧bl[1]?=some x1∧cn=x1.toNat):=⟨by omega,hx1,hcn⟩;have HNO:=zh hno;have HBL:=zh hbl;rw[←hE] at b0 b1;rw[←hE];clear hcn hno hes hE h0 hx1 hx1b hbl;go_enter func166,ntmps166;go_wp2_with fail;have hE0:=θ (.cells #[.int .i64 lv,.slice none 0 0,.slice none 0 0] 152) (ν w (.cells E 223));have hN0:=ν (w.alloc (.cells E 223)) (.cells #[.int .i64 lv,.slice none 0 0,.slice none 0 0] 152);rw[show (w.alloc (.cells E 223)).heap.size=w.heap.size+1 from by simp] at hN0;have hK0:Kp [] w ((w.alloc (.cells E 223)).alloc (.cells #[.int .i64 lv,.slice none 0 0,.slice none 0 0] 152)):=((Kp.refl _ _).alloc _).alloc _
 go_loopw [5,6,15] (fun r ob i wr=>∃ (j off o:Nat) (vj:Value) (psj:List HL),Hid (psj.length=j∧j≤cn)∧i=.int .u8 j∧ob=.bool true∧Hid (off=2+meas φ psj∧off≤128)∧r=.slice (some ⟨w.heap.size,o,none⟩) (128-off) (128-off)∧Hid (off<128→o=off)∧Hid ((bl.drop 2).take (meas φ psj)=toB (psj.flatMap qD3))∧Hid (∀ p∈psj,p.p=none∧p.key.size≤8∧0≤p.b∧p.b<65536∧0≤p.s∧p.s<18446744073709551616)∧Hid (wr.heap[w.heap.size]?=some (.cells E 223))∧Hid (wr.heap[w.heap.size+1]?=some (.cells #[.int .i64 lv,.slice none 0 0,vj] 152))∧Hid (wr.ownsRow w.heap.size 81 4 vj j (qA5 psj))∧Hid (Kp [] w wr)) (fun _ _ i _=>cn-(intOf i).toNat)
 case atStart=>exact⟨0,2,2,.slice none 0 0,[],⟨rfl,Nat.zero_le _⟩,rfl,rfl,⟨by simp[qD1],by omega⟩,rfl,fun _=>rfl,by show _=_;simp[qD1,toB],by show ∀ p∈([]:List HL),_;simp,hE0,hN0,by show World.ownsRow _ _ _ _ _ _ _;exact World.ownsRow_nil _ _ _ _,hK0⟩
 case round=>
  obtain⟨j,off,o,vj,psj,HJ,rfl,rfl,HOFF,rfl,HOO,HTK,HZJ,HB,HN,HO,HKP⟩:=hrel;clear hE0 hN0 hK0 b0 b1;have hjl:psj.length=j:=HJ.out.1;have hj126:j≤126:=by
   have h1:=qW5 φ psj (fun p _=>by unfold φ;omega);have:=HOFF.out;omega
  by_cases hlt:j<cn
  ·have hjb:(j:Int)<(cn:Int):=by omega
   by_cases hex:∃ p:HL,(p.p=none∧p.key.size≤8∧0≤p.b∧p.b<65536∧0≤p.s∧p.s<18446744073709551616)∧off+φ p≤128∧(bl.drop off).take (φ p)=toB (qD3 p)
   ·obtain⟨p,hp1,hp2,hp3⟩:=hex;have HEN:=zh hp3;have hFp:0<φ p:=by unfold φ;omega
    have hoo:=(HOO.out (by omega)).symm;subst hoo;have hN:=HN.out;have hNs:=ζ hN;have n0:=ξ hN;have fn1:=ω hN 2;clear hN hp3;go_wp2_with fail;refine (zZ8 w.heap.size w.heap.size off bl p psj _ wr (by have h:=HB.out;rw[HE.out.1] at h;exact h) HBL.out hp1.1 hp1.2.1 hp1.2.2.1 hp1.2.2.2.1 hp1.2.2.2.2.1 hp1.2.2.2.2.2 hp2 HEN.out (by rw[hjl];exact HO.out) (by have:=HKP.out.size;omega) (by omega)).mono ?_;rintro e w1 ⟨v1,r1,rfl,hr1,⟨o1,rfl⟩,hown1,hbl1,hst1⟩;rw[hjl] at hown1;obtain⟨g1,cap1,rfl⟩:=qJ1 hown1;have hN1:=hst1 _ _ _ _ HN.out (by decide);have hB1:=hst1 _ _ _ _ HB.out (by decide);have hN1s:=ζ hN1;have m1:=ξ hN1 2;simp only[zG,zH,zI] at m1;have fm1:=ω hN1 2;have HN1:=zh hN1;have HB1:=zh hB1;have HO1:=zh hown1;have HK1:Hid (Kp [] w w1):=Kp.of_below ((HKP.out.below (Nat.le_refl _) (by simp)).trans hbl1) (Nat.le_refl _);have HR1:Hid (off+φ p<128→o1=off+φ p):=by
     intro h;have h2:=hr1 h;simp only[Value.slice.injEq,Option.some.injEq,Addr.mk.injEq,and_true,true_and] at h2;exact h2
    have HOF1:Hid (off+φ p=2+meas φ (psj++[p])∧off+φ p≤128):=⟨by rw[qO1,HOFF.out.1];omega,hp2⟩;have HTK1:Hid ((bl.drop 2).take (meas φ (psj++[p]))=toB ((psj++[p]).flatMap qD3)):=by
     show _=_;rw[qO1,qS6,HTK.out,List.drop_drop,←HOFF.out.1,HEN.out,List.flatMap_append,qH3];simp
    have HZ1:Hid (∀ q∈psj++[p],(fun p:HL=>p.p=none∧p.key.size≤8∧0≤p.b∧p.b<65536∧0≤p.s∧p.s<18446744073709551616) q):=by
     intro q hq;rcases List.mem_append.1 hq with hq|hq
     ·exact HZJ.out q hq
     ·rw[List.mem_singleton.1 hq];exact hp1
    have hwj:IntKind.u8.wrap ((j:Int)+1)=(j:Int)+1:=by rw[IntKind.wrap_u8];omega
    have HJ1:Hid ((psj++[p]).length=j+1∧j+1≤cn):=⟨by rw[List.length_append,hjl];rfl,by omega⟩;clear hN1 hB1 hown1 hbl1 hst1 hr1 n0 fn1 hp1 hp2 hFp hjl hj126 hlt;go_wp2;have hKs:Kp [w.heap.size+1] w1 (w1.setCell ⟨w.heap.size+1,2,none⟩ (.slice (some ⟨g1,0,none⟩) (j+1) cap1)):=(Kp.refl _ _).sc _;have hJ1:=HJ1.out.2;exact⟨⟨j+1,off+φ p,o1,_,psj++[p],HJ1,by go_num,rfl,HOF1,rfl,HR1,HTK1,HZ1,hKs.hp HB1.out,ψ HN1.out 2 _,qF4 HO1.out hKs (fun q hq c t fr e=>by rw[List.mem_singleton.1 hq,HN1.out] at e;cases e;decide),HK1.out.tr hKs⟩,by simp[intOf];omega⟩
   ·have HBAD:Hid (Calls prog 191 #[vj,.slice (some ⟨w.heap.size,o,none⟩) (128-off) (128-off)] wr fun e w'=>e=.returned (.tuple #[.slice none 0 0,.slice none 0 0,.bool false])∧∃ m,w'=wr.drewN m):=jM5 w.heap.size off o bl vj wr (by have h:=HB.out;rw[HE.out.1] at h;exact h) HBL.out (by have:=HOFF.out;omega) HOO.out (fun p h1 h2 h3=>hex ⟨p,h1,h2,h3⟩);have hN:=HN.out;have hNs:=ζ hN;have n0:=ξ hN;have fn1:=ω hN 2;obtain⟨bj,lj,cj,hvj⟩:∃ bj lj cj,vj=.slice bj lj cj:=by
     rcases HO.out.2 with⟨h1,_⟩|⟨g,cap,cur,h1,_⟩
     ·exact⟨_,_,_,h1⟩
     ·exact⟨_,_,_,h1⟩
    subst hvj;clear hN hex hjl hj126 hlt;go_wp2_with fail;refine (show Calls _ _ _ _ _ from HBAD.out).mono ?_;rintro e w1 ⟨rfl,m,hw1⟩;have hK1:Kp [] wr w1:=by rw[hw1];exact (Kp.refl _ _).drewN _
    have hN1:=hK1.hp HN.out;have hN1s:=ζ hN1;have m1:=ξ hN1 2;simp only[zG,zH,zI] at m1;have fm1:=ω hN1 2;have HK1:Hid (Kp [] w w1):=HKP.out.tr hK1;clear hN1 hK1 hw1 n0 fn1 HBAD;go_wp2
    go_ret2
    exact⟨⟨_,rfl⟩,HK1.out.setCell (Or.inr (by show w.heap.size≤w.heap.size+1;omega)) _⟩
  ·have hjb:¬(j:Int)<(cn:Int):=by omega
   have hjc:j=cn:=by have:=HJ.out;omega
   have hby:=qG9 lv [] psj (by omega) hlv1 (by simp;omega) (by simp) (fun p hp=>(HZJ.out p hp).2.1);have hNL:(qA1 lv [] psj).length=128:=qO2 lv [] psj (by have:=HOFF.out;simp only[qD1];omega);have hF:(u8s (qA1 lv [] psj)).toArray=enc (toB (qA1 lv [] psj)):=by rw[enc,←qV2 _ hby]
   obtain⟨F,hFd⟩:∃ F,F=(u8s (qA1 lv [] psj)).toArray:=⟨_,rfl⟩;have HF:Hid (F.size=128∧allBytes F∧F≠E):=⟨by rw[hFd,hF,qE6,qH0];exact hNL,by rw[hFd,hF];exact qH1 _,fun h=>HNO.out psj HZJ.out (by rw[←HOFF.out.1];exact HOFF.out.2) (zQ8 (by rw[←hF,←hFd,h];exact HE.out.1.symm))⟩;have HBLK:=Hid.mk' (qV8 (w.heap.size+1) lv (.slice none 0 0) vj [] psj wr.drew HN.out (by omega) hlv1 ⟨rfl,Or.inl ⟨rfl,none,0,rfl,fun _=>rfl⟩⟩ (qG3 (by have h:=HO.out;rw[←hjl] at h;exact h)) (by have:=HOFF.out;simp only[qD1];omega) (by simp;omega) (by simp) (fun p hp=>⟨(HZJ.out p hp).2.1,(HZJ.out p hp).2.2.1,by have:=(HZJ.out p hp).2.2.2.1;omega,(HZJ.out p hp).2.2.2.2.1⟩));rw[←hFd] at HBLK;have hbE:allBytes E:=by rw[HE.out.1];exact qH1 _
   clear hby hNL hF hFd;go_wp2_with fail;have hSd:wr.drew.heap[w.heap.size]?=some (.cells E 223):=HB.out;refine wp_region_held_drew (S:=fun W=>W.heap[w.heap.size]?=some (.cells E 223)) (by kernel_rfl) hSd (fun _=>?_);refine zU 0 (.pointer (some ⟨w.heap.size+1,0,none⟩)) hSd ?_;refine zU 1 (.pointer (some ⟨w.heap.size+1,0,none⟩)) hSd ?_;refine zV 3 (.agg E) rfl (fun W hS=>qK0 (t:=223) rfl (by kernel_rfl) 128 (by kernel_rfl) w.heap.size rfl hS HE.out.2) hSd ?_;refine zq 2 fun K hK=>?_;go_simp;refine (show Calls _ _ _ _ _ from HBLK.out).mono ?_;rintro e w1 ⟨rfl,hK1⟩;have hS1:=hK1.hp hSd;refine hK.out _ _ hS1 (fun _=>?_);clear hK K
   try simp only[zZ]
   refine zV 4 (.bool false) rfl (fun W hS=>by have h:=zO5 F E HF.out.1 HE.out.2 HF.out.2.1 hbE HF.out.2.2 W;clear hS;go_simp) hS1 ?_;refine zq 5 fun K hK=>?_;go_simp;refine hK.out _ _ hS1 (fun _=>?_);clear hK K
   try simp only[zZ]
   refine zq 6 fun K hK=>?_;go_simp;refine hK.out _ _ hS1 (fun _=>?_);clear hK K
   try simp only[zZ]
   refine zd ?_;have hKw:Kp [] wr w1:=((Kp.refl _ wr).drew).tr hK1;have HW:Hid (Kp [] w w1):=HKP.out.tr hKw;clear hKw hK1 hS1 hSd HBLK;go_wp2
   go_ret2
   exact⟨⟨_,rfl⟩,HW.out⟩
variable {κ:Nat}
def LeafAt(l:List UInt8)(b:Nat)(s:Int)(ps:List KV):Prop:=s=fnv (qA1 0 ps [])∧qA0 l b=toB (qA1 0 ps [])∧(∀ p∈ps,qC5 p)∧2+meas μ ps≤128
def zK3(p:HL):Prop:=p.p=none∧p.key.size≤8∧0≤p.b∧p.b<65536∧0≤p.s∧p.s<18446744073709551616
def BranchAt(l:List UInt8)(b:Nat)(s lv:Int)(hs:List HL):Prop:=0<lv∧lv<256∧s=fnv (qA1 lv [] hs)∧qA0 l b=toB (qA1 lv [] hs)∧(∀ p∈hs,zK3 p)∧2+meas φ hs≤128
theorem LeafAt.len{l:List UInt8}{b:Nat}{s:Int}{ps:List KV}(h:LeafAt l b s ps):ps.length≤126:=by
 have:=qW5 μ ps (fun p _=>by unfold μ;omega);have:=h.2.2.2;omega
theorem BranchAt.len{l:List UInt8}{b:Nat}{s lv:Int}{ps:List HL}(h:BranchAt l b s lv ps):ps.length≤11:=by
 have h1:∀ xs:List HL,11*xs.length≤meas φ xs:=fun xs=>by
  induction xs with
  | nil=>simp
  | cons a xs ih=>rw[qE0,List.length_cons];have:φ a=11+a.key.size:=rfl;omega
 have:=h1 ps;have:=h.2.2.2.2.2;omega
theorem jF8(V A n C:Nat)(calls writes:Int)(i:Nat)(s:Int)(l:List UInt8)(w:World)(hV:w.heap[V]?=some (qB6 A n))(h:w.heap[A]?=some (χ κ n C (.slice none 0 0) calls writes))
  (hi:i<n) (hn:n≤1000) (hC:w.heap[C]?=some (.cells (enc l) 87)) (hs:n*128≤l.length) (hAC:C≠A) (hVA:V≠A) (hno1:∀ ps,¬LeafAt l i s ps) (hno2:∀ lv hs,¬BranchAt l i s lv hs):
  Calls prog 122 #[.pointer (some ⟨V,0,none⟩),.agg #[.int .i64 i,.int .u64 s]] w fun e w'=>(∃ q,e=.returned (.tuple #[q,.bool false]))∧w'.heap[A]?=some (χ κ n C (.slice none 0 0) (nx calls) writes)∧Kp [A] w w':=by
 have hbl:(qA0 l i).length=128:=by simp[qA0];omega
 obtain⟨bl,hb0⟩:∃ bl,qA0 l i=bl:=⟨_,rfl⟩;rw[hb0] at hbl;obtain⟨E,hE⟩:∃ E,E=enc bl:=⟨_,rfl⟩;have hEs:E.size=128:=by rw[hE,qE6];exact hbl
 have HLOAD:Hid (∀ W,Kp [] w W→Calls prog 151 #[.pointer (some ⟨V,0,none⟩),.int .i64 i] W fun e w'=>e=.returned (.agg E)∧w'.heap[A]?=some (χ κ n C (.slice none 0 0) (nx calls) writes)∧Kp [A] W w'):=fun W hK=>by
  have h:=zI7 V A n C calls writes i l W (hK.hp hV) (hK.hp h) hi hn (hK.hp hC) hs hAC hVA;rw[hb0,←hE] at h;exact h
 obtain⟨S,hS⟩:∃ S,S=fnv (qC8 bl):=⟨_,rfl⟩;have HPARSE:Hid (S=s→∀ W,Calls prog 166 #[.agg E] W fun e w'=>(∃ q,e=.returned (.tuple #[q,.bool false]))∧Kp [] W w'):=fun hSs W=>by
  rw[hE];obtain⟨x,hx⟩:∃ x,bl[0]?=some x:=⟨_,List.getElem?_eq_getElem (by omega)⟩;by_cases hx0:x=0
  ·subst hx0;exact jM0 bl W hbl hx (fun ps h1 h2 h3=>hno1 ps ⟨by rw[←hSs,hS,h3,qJ9 _ (qG9 0 ps [] (by omega) (by omega) (by have:=qW5 μ ps (fun p _=>by unfold μ;omega);simp;omega) h1 (by simp))],by rw[hb0];exact h3,h1,h2⟩)
  ·have h0:0<x.toNat:=by
    rcases Nat.eq_zero_or_pos x.toNat with h|h
    ·exact absurd (UInt8.toNat_inj.1 h) hx0
    ·exact h
   have h1:=x.toNat_lt;exact jL8 bl ((x.toNat:Nat):Int) (by omega) (by omega) W hbl ⟨x,hx,rfl⟩ (fun ps h1 h2 h3=>hno2 ((x.toNat:Nat):Int) ps ⟨by omega,by omega,by rw[←hSs,hS,h3,qJ9 _ (qG9 _ [] ps (by omega) (by omega) (by have:=qW5 φ ps (fun p _=>by unfold φ;omega);simp;omega) (by simp) (fun p hp=>(h1 p hp).2.1))],by rw[hb0];exact h3,h1,h2⟩)
 have HSUM:Hid (∀ W b cap,W.heap[b]?=some (.cells E 223)→Calls prog 165 #[.slice (some ⟨b,0,none⟩) 128 cap] W fun e w'=>e=.returned (.int .u64 S)∧w'=W):=fun W b cap hb=>by
  rw[hS];refine qX5 b 0 128 cap (qC8 bl) W (by rw[qT1];exact hbl) (by omega) (fun j hj=>?_);rw[ξ hb,hE];unfold enc qC9 qC8;rw[zG,List.getElem?_map,Nat.zero_add,List.getD_eq_getElem?_getD,List.getElem?_map,List.getElem?_eq_getElem (by omega)];rfl
 have hEb:∀ v∈E.toList,v.oneCell'=true:=by rw[hE];exact (qH1 _).one
 have HES:=zh hEs;have hAs:=ζ h;clear hS hE hb0 hbl hs hC hV h hno1 hno2;go_enter func122,ntmps122;go_wp2_with fail;obtain⟨w0,hw0,hP0,hK0,hs0⟩:=qF0 w (.cells #[.int .i64 (i:Int),.int .u64 s] 78);rw[←hw0];clear hw0;refine (HLOAD.out w0 hK0).mono ?_;rintro e w1 ⟨rfl,hA1,hK1⟩;have hP1:=hK1.ho hP0;have hKw1:Kp [A] w w1:=(hK0.mono (by simp)).tr hK1;have hs1:=hK1.size;clear hK1 hP0 hK0 HLOAD;go_wp2_with fail;have hN:=ν w1 (.cells zeroCells223 223);rw[qL7 hN (by simp[qH7,hEs]) hEb];rw[show E.toList.toArray=E from by simp,qJ4 (by rw[qH7,hEs])];obtain⟨w2,hw2,hB2,hP2,hA2,hKw2,hs2⟩:∃ w2,w2=(w1.alloc (.cells zeroCells223 223)).setRow w1.heap.size E∧w2.heap[w1.heap.size]?=some (.cells E 223)∧w2.heap[w.heap.size]?=some (.cells #[.int .i64 (i:Int),.int .u64 s] 78)∧w2.heap[A]?=some (χ κ n C (.slice none 0 0) (nx calls) writes)∧Kp [A] w w2∧w2.heap.size=w1.heap.size+1:=
  ⟨_,rfl,setRow_heap _ _ _ _ _ _ hN,(setRow_other _ _ _ _ (by omega)).trans (θ _ hP1),(setRow_other _ _ _ _ (by omega)).trans (θ _ hA1),(hKw1.alloc _).setRow (Or.inr (by omega)) _,by simp⟩
 rw[←hw2];clear hw2 hN hP1 hA1 hEs hEb;go_wp2_with fail;have hSd:w2.drew.heap[w1.heap.size]?=some (.cells E 223)∧w2.drew.heap[w.heap.size]?=some (.cells #[.int .i64 (i:Int),.int .u64 s] 78):=⟨hB2,hP2⟩;refine wp_region_held_drew (S:=fun W=>W.heap[w1.heap.size]?=some (.cells E 223)∧W.heap[w.heap.size]?=some (.cells #[.int .i64 (i:Int),.int .u64 s] 78)) (by kernel_rfl) hSd (fun _=>?_);refine zU 0 (.slice (some ⟨w1.heap.size,0,none⟩) 128 128) hSd ?_;refine zP 2 w.heap.size 1 hSd ?_;refine zV 3 (.int .u64 s) rfl (fun W hS=>by have a:=ξ hS.2 1;simp only[zG,zH,zI] at a;clear hS;go_simp) hSd ?_;refine zq 1 fun K hK=>?_;go_simp;refine (HSUM.out w2.drew w1.heap.size 128 hB2).mono ?_;rintro e w' ⟨rfl,hw'⟩;rw[hw'];clear hw' w';refine hK.out _ _ hSd (fun _=>?_);clear hK K
 try simp only[zZ]
 obtain⟨bb,hbb⟩:∃ bb:Bool,bb=!(decide (S=s)):=⟨_,rfl⟩;refine zV 4 (.bool bb) rfl (fun W hS=>by clear hS;rw[hbb];by_cases hz:S=s<;>simp only[hz,decide_true,decide_false]<;>go_simp) hSd ?_;refine zd ?_;obtain⟨w3,hw3,hB3,hA3,hKw3,hs3⟩:∃ w3,w3=w2.drew∧w3.heap[w1.heap.size]?=some (.cells E 223)∧w3.heap[A]?=some (χ κ n C (.slice none 0 0) (nx calls) writes)∧Kp [A] w w3∧w3.heap.size=w2.heap.size:=⟨_,rfl,hB2,hA2,hKw2.drew,rfl⟩;rw[←hw3];have hpp:qA4 E 0 128=E:=by rw[←HES.out];simp[qA4,List.take_of_length_le]
 have HEND3:Hid (w3.heap[A]?=some (χ κ n C (.slice none 0 0) (nx calls) writes)∧Kp [A] w w3):=⟨hA3,hKw3⟩;clear hw3 hSd hB2 hP2 hA2 hKw2 hKw1;by_cases hSs:S=s
 ·have hPS:=HPARSE.out hSs;have HPS:=Hid.mk' hPS;rw[show bb=false by rw[hbb];simp[hSs]];clear hbb hPS HPARSE
  go_wp2_with (
   with_reducible refine qP5 (t:=223) ?_ 128 ?_ w1.heap.size 0 ?_ E 223 (0,0) ?_ ?_ ?_
   ·kernel_rfl
   ·kernel_rfl
   ·rfl
   ·exact hB3
   ·have:=HES.out;omega)
  refine (HPS.out w3).mono ?_;rintro e w4 ⟨⟨q,rfl⟩,hK4⟩;have hA4:=hK4.hp hA3;have HEND:Hid (w4.heap[A]?=some (χ κ n C (.slice none 0 0) (nx calls) writes)∧Kp [A] w w4):=⟨hA4,hKw3.tr hK4⟩;clear hK4 hA4 hA3 hB3 hKw3 hpp HPS HEND3;go_wp2
  go_ret2
  exact⟨⟨q,rfl⟩,HEND.out⟩
 ·rw[show bb=true by rw[hbb];simp[hSs]];clear hbb HPARSE hA3 hB3 hKw3 hpp;go_wp2
  go_ret2
  exact⟨⟨_,rfl⟩,HEND3.out⟩
def qC0(V:Nat)(b:Int)(k:ByteArray):Obj:=.cells #[.pointer (some ⟨V,0,none⟩),.int .i64 b,.string k] 191
theorem qS2(w:World):Calls prog 154 #[.bool true] w fun e w'=>e=.returned (.tuple #[])∧w'=w:=by
 go_enter func154,ntmps154;go_wp2
 go_end0
 exact⟨rfl,rfl⟩
section
variable (V A N C:Nat) (l:List UInt8) (writes:Int) (hN:N≤1000) (hs:N*128≤l.length) (hAC:C≠A) (hVA:V≠A)
include hN hs hAC hVA
end
end Go.Proofs.YtdohpenfkdckiabGreatDoor
