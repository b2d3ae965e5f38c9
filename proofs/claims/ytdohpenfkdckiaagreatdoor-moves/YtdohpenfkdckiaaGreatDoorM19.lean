import Derived.Test.YtdohpenfkdckiaaGreatDoorM18
set_option linter.all false
set_option maxRecDepth 100000
set_option maxHeartbeats 20000000
namespace Go.Proofs.YtdohpenfkdckiaaGreatDoor
open Go.Proofs.Tryz
open Go.RowKit
theorem qL6(w:World)(o1 o2:Obj):∃ w0,w0=(w.alloc o1).alloc o2∧w0.heap[w.heap.size]?=some o1∧w0.heap[w.heap.size+1]?=some o2∧Kp [] w w0∧w0.heap.size=w.heap.size+2:=by
 refine⟨_,rfl,η _ (κ _ _),?_,((Kp.refl _ _).alloc _).alloc _,by simp⟩;have e:=κ (w.alloc o1) o2;simpa using e
theorem qH9(w:World)(o1:Obj):∃ w0,w0=w.alloc o1∧w0.heap[w.heap.size]?=some o1∧Kp [] w w0∧w0.heap.size=w.heap.size+1:=⟨_,rfl,κ _ _,(Kp.refl _ _).alloc _,by simp⟩
theorem CurT.from{E:SEnv}{w w0 w':World}{Cb x:Nat}{t:Tx}{s:Sto}{k:ByteArray}(hK:Kp [] w w0)(h:CurT E w0 w' Cb x t s k):CurT E w w' Cb x t s k:=⟨h.dev,h.hSt,h.hC,(hK.mono (by simp)).trans h.kp (fun _ h _=>h)⟩
theorem xC1(E:SEnv)(x A n:Nat)(t:Tx)(s:Sto)(r:Root)(Cb:Nat)(key:ByteArray)(since:Int)(w:World)(hL:LiveT E w x A n t s r)(hC:w.heap[Cb]?=some (qA6 x key since)):
  Calls prog 22 #[.pointer (some ⟨Cb,0,none⟩)] w fun e w'=>e=.returned (.tuple #[.agg #[.string (pkv (r.cont.find? fun _=>true)).k,.string (pkv (r.cont.find? fun _=>true)).v],.bool (r.cont.find? fun _=>true).isSome,.nilIface])∧CurT E w w' Cb x t s (pkv (r.cont.find? fun _=>true)).k:=by
 have hmf:=zM;have HL:=zh hL;have HC:=zh hC;have HCS:Hid (Cb≠t.St):=ω hC hL.hSt (by decide);have hCs:=ζ hC;have hSs:=ζ hL.hSt;clear hL hC;go_enter func22,ntmps22;go_wp2_with fail;obtain⟨w0,hw0,hR0,hK0,hs0⟩:=qH9 w (.cells #[.string ⟨#[]⟩,.string ⟨#[]⟩] 42);rw[←hw0];clear hw0;refine (qS3 E x A n t s r Cb key since _ false 48 #[] (r.cont.find? fun _=>true) w0 (HL.out.more hK0) (hK0.hp HC.out) (fun h=>(by cases h)) (fun args W=>by simp[go_sem,func48]) (fun W hd hr hKW=>zV4 E r t.h W hd hr HL.out.good)).mono ?_;rintro e w1 ⟨rfl,hCT⟩;have hR1:=hCT.kp.heap hR0 (by simp only[List.mem_cons,not_or];exact⟨by omega,by omega,fun h=>by have:=E.low w HL.out.dev _ h;omega⟩);have HCT:Hid (CurT E w w1 Cb x t s (pkv (r.cont.find? fun _=>true)).k):=CurT.from hK0 hCT;obtain⟨fk,hfk⟩:∃ fk,(pkv (r.cont.find? fun _=>true)).k=fk:=⟨_,rfl⟩;obtain⟨fv,hfv⟩:∃ fv,(pkv (r.cont.find? fun _=>true)).v=fv:=⟨_,rfl⟩;obtain⟨fb,hfb⟩:∃ fb,(r.cont.find? fun _=>true).isSome=fb:=⟨_,rfl⟩;rw[hfk,hfv,hfb];have HFE:Hid ((pkv (r.cont.find? fun _=>true)).k=fk∧(pkv (r.cont.find? fun _=>true)).v=fv∧(r.cont.find? fun _=>true).isSome=fb):=⟨hfk,hfv,hfb⟩;clear hfk hfv hfb hCT hK0 hR0;have hRs:=ζ hR1;have z0:=ξ hR1;have fz0:=ρ hR1;have HR1:=zh hR1;clear hR1;go_wp2;have hts:=qB2 (.string fk) (.string fv) HR1.out;have t0:=ξ hts.1 0;have t1:=ξ hts.1 1;simp only[zG,zH,zI] at t0 t1;refine bodyPost_ret (v:=.tuple #[.agg #[.string fk,.string fv],.bool fb,.nilIface]) (by simp[results,results22,go_sem,t0,t1]) rfl ?_;have hB:=HCT.out;refine⟨by rw[HFE.out.1,HFE.out.2.1,HFE.out.2.2],E.keepX _ _ _ hB.dev hts.2 (OffD.one HR1.out (by decide)),hts.2.ho hB.hSt,hts.2.ho hB.hC,hB.kp.trans hts.2 (by intro i hi hlt;simp at hi;omega)⟩
theorem xC3(E:SEnv)(x A n:Nat)(t:Tx)(s:Sto)(r:Root)(Cb:Nat)(key:ByteArray)(since:Int)(w:World)(hL:LiveT E w x A n t s r)(hC:w.heap[Cb]?=some (qA6 x key since)):
  Calls prog 25 #[.pointer (some ⟨Cb,0,none⟩)] w fun e w'=>e=.returned (.tuple #[.agg #[.string (pkv (qA9 (fun _=>true) r.cont)).k,.string (pkv (qA9 (fun _=>true) r.cont)).v],.bool (qA9 (fun _=>true) r.cont).isSome,.nilIface])∧CurT E w w' Cb x t s (pkv (qA9 (fun _=>true) r.cont)).k:=by
 have hmf:=zM;have HL:=zh hL;have HC:=zh hC;have HCS:Hid (Cb≠t.St):=ω hC hL.hSt (by decide);have hCs:=ζ hC;have hSs:=ζ hL.hSt;clear hL hC;go_enter func25,ntmps25;go_wp2_with fail;obtain⟨w0,hw0,hR0,hK0,hs0⟩:=qH9 w (.cells #[.string ⟨#[]⟩,.string ⟨#[]⟩] 42);rw[←hw0];clear hw0;refine (qS3 E x A n t s r Cb key since _ false 54 #[] (qA9 (fun _=>true) r.cont) w0 (HL.out.more hK0) (hK0.hp HC.out) (fun h=>(by cases h)) (fun args W=>by simp[go_sem,func54]) (fun W hd hr hKW=>zV6 E r t.h W hd hr HL.out.good)).mono ?_;rintro e w1 ⟨rfl,hCT⟩;have hR1:=hCT.kp.heap hR0 (by simp only[List.mem_cons,not_or];exact⟨by omega,by omega,fun h=>by have:=E.low w HL.out.dev _ h;omega⟩);have HCT:Hid (CurT E w w1 Cb x t s (pkv (qA9 (fun _=>true) r.cont)).k):=CurT.from hK0 hCT;obtain⟨fk,hfk⟩:∃ fk,(pkv (qA9 (fun _=>true) r.cont)).k=fk:=⟨_,rfl⟩;obtain⟨fv,hfv⟩:∃ fv,(pkv (qA9 (fun _=>true) r.cont)).v=fv:=⟨_,rfl⟩;obtain⟨fb,hfb⟩:∃ fb,(qA9 (fun _=>true) r.cont).isSome=fb:=⟨_,rfl⟩;rw[hfk,hfv,hfb];have HFE:Hid ((pkv (qA9 (fun _=>true) r.cont)).k=fk∧(pkv (qA9 (fun _=>true) r.cont)).v=fv∧(qA9 (fun _=>true) r.cont).isSome=fb):=⟨hfk,hfv,hfb⟩;clear hfk hfv hfb hCT hK0 hR0;have hRs:=ζ hR1;have z0:=ξ hR1;have fz0:=ρ hR1;have HR1:=zh hR1;clear hR1;go_wp2;have hts:=qB2 (.string fk) (.string fv) HR1.out;have t0:=ξ hts.1 0;have t1:=ξ hts.1 1;simp only[zG,zH,zI] at t0 t1;refine bodyPost_ret (v:=.tuple #[.agg #[.string fk,.string fv],.bool fb,.nilIface]) (by simp[results,results25,go_sem,t0,t1]) rfl ?_;have hB:=HCT.out;refine⟨by rw[HFE.out.1,HFE.out.2.1,HFE.out.2.2],E.keepX _ _ _ hB.dev hts.2 (OffD.one HR1.out (by decide)),hts.2.ho hB.hSt,hts.2.ho hB.hC,hB.kp.trans hts.2 (by intro i hi hlt;simp at hi;omega)⟩
theorem xD1(E:SEnv)(x A n:Nat)(t:Tx)(s:Sto)(r:Root)(Cb:Nat)(key:ByteArray)(since:Int)(sk:ByteArray)(w:World)(hL:LiveT E w x A n t s r)(hC:w.heap[Cb]?=some (qA6 x key since)):
  Calls prog 27 #[.pointer (some ⟨Cb,0,none⟩),.string sk] w fun e w'=>e=.returned (.tuple #[.agg #[.string (pkv (r.cont.find? fun q=>!kl q.k sk)).k,.string (pkv (r.cont.find? fun q=>!kl q.k sk)).v],.bool (r.cont.find? fun q=>!kl q.k sk).isSome,.nilIface])∧CurT E w w' Cb x t s (pkv (r.cont.find? fun q=>!kl q.k sk)).k:=by
 have hmf:=zM;have HL:=zh hL;have HC:=zh hC;have HCS:Hid (Cb≠t.St):=ω hC hL.hSt (by decide);have hCs:=ζ hC;have hSs:=ζ hL.hSt;clear hL hC;go_enter func27,ntmps27;go_wp2_with fail;obtain⟨w0,hw0,hX0,hR0,hK0,hs0⟩:=qL6 w (.cells #[.string sk] 9) (.cells #[.string ⟨#[]⟩,.string ⟨#[]⟩] 42);rw[←hw0];clear hw0;refine (qS3 E x A n t s r Cb key since _ false 59 #[.pointer (some ⟨w.heap.size,0,none⟩)] (r.cont.find? fun q=>!kl q.k sk) w0 (HL.out.more hK0) (hK0.hp HC.out) (fun h=>(by cases h)) (fun args W=>by simp[go_sem,func59]) (fun W hd hr hKW=>zW2 E r t.h w.heap.size sk W (hKW.heap hX0 (by simp only[List.mem_cons,not_or];exact⟨by omega,fun h=>by have:=E.low w HL.out.dev _ h;omega⟩)) hd hr HL.out.good)).mono ?_;rintro e w1 ⟨rfl,hCT⟩;have hR1:=hCT.kp.heap hR0 (by simp only[List.mem_cons,not_or];exact⟨by omega,by omega,fun h=>by have:=E.low w HL.out.dev _ h;omega⟩);have HCT:Hid (CurT E w w1 Cb x t s (pkv (r.cont.find? fun q=>!kl q.k sk)).k):=CurT.from hK0 hCT;obtain⟨fk,hfk⟩:∃ fk,(pkv (r.cont.find? fun q=>!kl q.k sk)).k=fk:=⟨_,rfl⟩;obtain⟨fv,hfv⟩:∃ fv,(pkv (r.cont.find? fun q=>!kl q.k sk)).v=fv:=⟨_,rfl⟩;obtain⟨fb,hfb⟩:∃ fb,(r.cont.find? fun q=>!kl q.k sk).isSome=fb:=⟨_,rfl⟩;rw[hfk,hfv,hfb];have HFE:Hid ((pkv (r.cont.find? fun q=>!kl q.k sk)).k=fk∧(pkv (r.cont.find? fun q=>!kl q.k sk)).v=fv∧(r.cont.find? fun q=>!kl q.k sk).isSome=fb):=⟨hfk,hfv,hfb⟩;clear hfk hfv hfb hCT hK0 hR0;have hRs:=ζ hR1;have z0:=ξ hR1;have fz0:=ρ hR1;have HR1:=zh hR1;clear hR1;go_wp2;have hts:=qB2 (.string fk) (.string fv) HR1.out;have t0:=ξ hts.1 0;have t1:=ξ hts.1 1;simp only[zG,zH,zI] at t0 t1;refine bodyPost_ret (v:=.tuple #[.agg #[.string fk,.string fv],.bool fb,.nilIface]) (by simp[results,results27,go_sem,t0,t1]) rfl ?_;have hB:=HCT.out;refine⟨by rw[HFE.out.1,HFE.out.2.1,HFE.out.2.2],E.keepX _ _ _ hB.dev hts.2 (OffD.one HR1.out (by decide)),hts.2.ho hB.hSt,hts.2.ho hB.hC,hB.kp.trans hts.2 (by intro i hi hlt;simp at hi;omega)⟩
theorem xC5(E:SEnv)(x A n:Nat)(t:Tx)(s:Sto)(r:Root)(Cb:Nat)(key:ByteArray)(since:Int)(hk:key.toList.isEmpty=false∧since=t.ch)(w:World)(hL:LiveT E w x A n t s r)(hC:w.heap[Cb]?=some (qA6 x key since)):
  Calls prog 23 #[.pointer (some ⟨Cb,0,none⟩)] w fun e w'=>e=.returned (.tuple #[.agg #[.string (pkv (r.cont.find? fun q=>kl key q.k)).k,.string (pkv (r.cont.find? fun q=>kl key q.k)).v],.bool (r.cont.find? fun q=>kl key q.k).isSome,.nilIface])∧CurT E w w' Cb x t s (pkv (r.cont.find? fun q=>kl key q.k)).k:=by
 have hmf:=zM;have HL:=zh hL;have HC:=zh hC;have HCS:Hid (Cb≠t.St):=ω hC hL.hSt (by decide);have hCs:=ζ hC;have hSs:=ζ hL.hSt;clear hL hC;go_enter func23,ntmps23;go_wp2_with fail;obtain⟨w0,hw0,hX0,hR0,hK0,hs0⟩:=qL6 w (.cells #[.pointer (some ⟨Cb,0,none⟩)] 36) (.cells #[.string ⟨#[]⟩,.string ⟨#[]⟩] 42);rw[←hw0];clear hw0;refine (qS3 E x A n t s r Cb key since _ true 51 #[.pointer (some ⟨w.heap.size,0,none⟩)] (r.cont.find? fun q=>kl key q.k) w0 (HL.out.more hK0) (hK0.hp HC.out) (fun _=>hk) (fun args W=>by simp[go_sem,func51]) (fun W hd hr hKW=>zV8 E r t.h w.heap.size Cb x key since W (hKW.heap hX0 (by simp only[List.mem_cons,not_or];exact⟨by omega,fun h=>by have:=E.low w HL.out.dev _ h;omega⟩)) (hKW.heap (hK0.hp HC.out) (by simp only[List.mem_cons,not_or];exact⟨HCS.out,E.nin HL.out.dev HC.out (by decide)⟩)) hd hr HL.out.good)).mono ?_;rintro e w1 ⟨rfl,hCT⟩;have hR1:=hCT.kp.heap hR0 (by simp only[List.mem_cons,not_or];exact⟨by omega,by omega,fun h=>by have:=E.low w HL.out.dev _ h;omega⟩);have HCT:Hid (CurT E w w1 Cb x t s (pkv (r.cont.find? fun q=>kl key q.k)).k):=CurT.from hK0 hCT;obtain⟨fk,hfk⟩:∃ fk,(pkv (r.cont.find? fun q=>kl key q.k)).k=fk:=⟨_,rfl⟩;obtain⟨fv,hfv⟩:∃ fv,(pkv (r.cont.find? fun q=>kl key q.k)).v=fv:=⟨_,rfl⟩;obtain⟨fb,hfb⟩:∃ fb,(r.cont.find? fun q=>kl key q.k).isSome=fb:=⟨_,rfl⟩;rw[hfk,hfv,hfb];have HFE:Hid ((pkv (r.cont.find? fun q=>kl key q.k)).k=fk∧(pkv (r.cont.find? fun q=>kl key q.k)).v=fv∧(r.cont.find? fun q=>kl key q.k).isSome=fb):=⟨hfk,hfv,hfb⟩;clear hfk hfv hfb hCT hK0 hR0;have hRs:=ζ hR1;have z0:=ξ hR1;have fz0:=ρ hR1;have HR1:=zh hR1;clear hR1;go_wp2;have hts:=qB2 (.string fk) (.string fv) HR1.out;have t0:=ξ hts.1 0;have t1:=ξ hts.1 1;simp only[zG,zH,zI] at t0 t1;refine bodyPost_ret (v:=.tuple #[.agg #[.string fk,.string fv],.bool fb,.nilIface]) (by simp[results,results23,go_sem,t0,t1]) rfl ?_;have hB:=HCT.out;refine⟨by rw[HFE.out.1,HFE.out.2.1,HFE.out.2.2],E.keepX _ _ _ hB.dev hts.2 (OffD.one HR1.out (by decide)),hts.2.ho hB.hSt,hts.2.ho hB.hC,hB.kp.trans hts.2 (by intro i hi hlt;simp at hi;omega)⟩
theorem xC8(E:SEnv)(x A n:Nat)(t:Tx)(s:Sto)(r:Root)(Cb:Nat)(key:ByteArray)(since:Int)(hk:key.toList.isEmpty=false∧since=t.ch)(w:World)(hL:LiveT E w x A n t s r)(hC:w.heap[Cb]?=some (qA6 x key since)):
  Calls prog 26 #[.pointer (some ⟨Cb,0,none⟩)] w fun e w'=>e=.returned (.tuple #[.agg #[.string (pkv (qA9 (fun k=>kl k key) r.cont)).k,.string (pkv (qA9 (fun k=>kl k key) r.cont)).v],.bool (qA9 (fun k=>kl k key) r.cont).isSome,.nilIface])∧CurT E w w' Cb x t s (pkv (qA9 (fun k=>kl k key) r.cont)).k:=by
 have hmf:=zM;have HL:=zh hL;have HC:=zh hC;have HCS:Hid (Cb≠t.St):=ω hC hL.hSt (by decide);have hCs:=ζ hC;have hSs:=ζ hL.hSt;clear hL hC;go_enter func26,ntmps26;go_wp2_with fail;obtain⟨w0,hw0,hX0,hR0,hK0,hs0⟩:=qL6 w (.cells #[.pointer (some ⟨Cb,0,none⟩)] 36) (.cells #[.string ⟨#[]⟩,.string ⟨#[]⟩] 42);rw[←hw0];clear hw0;refine (qS3 E x A n t s r Cb key since _ true 57 #[.pointer (some ⟨w.heap.size,0,none⟩)] (qA9 (fun k=>kl k key) r.cont) w0 (HL.out.more hK0) (hK0.hp HC.out) (fun _=>hk) (fun args W=>by simp[go_sem,func57]) (fun W hd hr hKW=>zW0 E r t.h w.heap.size Cb x key since W (hKW.heap hX0 (by simp only[List.mem_cons,not_or];exact⟨by omega,fun h=>by have:=E.low w HL.out.dev _ h;omega⟩)) (hKW.heap (hK0.hp HC.out) (by simp only[List.mem_cons,not_or];exact⟨HCS.out,E.nin HL.out.dev HC.out (by decide)⟩)) hd hr HL.out.good)).mono ?_;rintro e w1 ⟨rfl,hCT⟩;have hR1:=hCT.kp.heap hR0 (by simp only[List.mem_cons,not_or];exact⟨by omega,by omega,fun h=>by have:=E.low w HL.out.dev _ h;omega⟩);have HCT:Hid (CurT E w w1 Cb x t s (pkv (qA9 (fun k=>kl k key) r.cont)).k):=CurT.from hK0 hCT;obtain⟨fk,hfk⟩:∃ fk,(pkv (qA9 (fun k=>kl k key) r.cont)).k=fk:=⟨_,rfl⟩;obtain⟨fv,hfv⟩:∃ fv,(pkv (qA9 (fun k=>kl k key) r.cont)).v=fv:=⟨_,rfl⟩;obtain⟨fb,hfb⟩:∃ fb,(qA9 (fun k=>kl k key) r.cont).isSome=fb:=⟨_,rfl⟩;rw[hfk,hfv,hfb];have HFE:Hid ((pkv (qA9 (fun k=>kl k key) r.cont)).k=fk∧(pkv (qA9 (fun k=>kl k key) r.cont)).v=fv∧(qA9 (fun k=>kl k key) r.cont).isSome=fb):=⟨hfk,hfv,hfb⟩;clear hfk hfv hfb hCT hK0 hR0;have hRs:=ζ hR1;have z0:=ξ hR1;have fz0:=ρ hR1;have HR1:=zh hR1;clear hR1;go_wp2;have hts:=qB2 (.string fk) (.string fv) HR1.out;have t0:=ξ hts.1 0;have t1:=ξ hts.1 1;simp only[zG,zH,zI] at t0 t1;refine bodyPost_ret (v:=.tuple #[.agg #[.string fk,.string fv],.bool fb,.nilIface]) (by simp[results,results26,go_sem,t0,t1]) rfl ?_;have hB:=HCT.out;refine⟨by rw[HFE.out.1,HFE.out.2.1,HFE.out.2.2],E.keepX _ _ _ hB.dev hts.2 (OffD.one HR1.out (by decide)),hts.2.ho hB.hSt,hts.2.ho hB.hC,hB.kp.trans hts.2 (by intro i hi hlt;simp at hi;omega)⟩
theorem xC2(x:Nat)(t:Tx)(s:Sto)(Cb:Nat)(key:ByteArray)(since:Int)(w:World)(hx:w.heap[x]?=some (χ t))(ho:t.over=true)(hSt:w.heap[t.St]?=some (ν 0 s))(hpo:s.po=false)(hxS:x≠t.St)(hC:w.heap[Cb]?=some (qA6 x key since)):
  Calls prog 22 #[.pointer (some ⟨Cb,0,none⟩)] w fun e w'=>∃ v,e=.returned (.tuple #[.agg #[.string ⟨#[]⟩,.string ⟨#[]⟩],.bool false,v])∧ErrV w' v (some 5)∧w'.heap[t.St]?=some (ν 0 s)∧Kp [t.St] w w':=by
 have hmf:=zM;have HX:Hid (w.heap[x]?=some (χ t)∧t.over=true∧w.heap[t.St]?=some (ν 0 s)∧s.po=false∧x≠t.St∧w.heap[Cb]?=some (qA6 x key since)):=⟨hx,ho,hSt,hpo,hxS,hC⟩;have hCs:=ζ hC;have hSs:=ζ hSt;clear hx ho hSt hpo hxS hC;go_enter func22,ntmps22;go_wp2_with fail;obtain⟨w0,hw0,hR0,hK0,hs0⟩:=qH9 w (.cells #[.string ⟨#[]⟩,.string ⟨#[]⟩] 42);rw[←hw0];clear hw0;obtain⟨hx,ho,hSt,hpo,hxS,hC⟩:=HX.out;refine (qS4 x t s Cb key since _ false 48 #[] w0 (hK0.hp hx) ho (hK0.hp hSt) hpo hxS (hK0.hp hC)).mono ?_;rintro e w1 ⟨v,rfl,hv,hS1,hK1⟩;have hR1:=hK1.ho hR0;have HB:Hid (ErrV w1 v (some 5)∧w1.heap[t.St]?=some (ν 0 s)∧Kp [t.St] w w1):=⟨hv,hS1,(hK0.mono (by simp)).trans hK1 (fun _ h _=>h)⟩;clear hv hS1 hK1 hK0 hR0 hx ho hSt hpo hxS hC;have hRs:=ζ hR1;have z0:=ξ hR1;have fz0:=ρ hR1;have HR1:=zh hR1;clear hR1;go_wp2;have hts:=qB2 (.string ⟨#[]⟩) (.string ⟨#[]⟩) HR1.out;have t0:=ξ hts.1 0;have t1:=ξ hts.1 1;simp only[zG,zH,zI] at t0 t1;refine bodyPost_ret (v:=.tuple #[.agg #[.string ⟨#[]⟩,.string ⟨#[]⟩],.bool false,v]) (by simp[results,results22,go_sem,t0,t1]) rfl ?_;obtain⟨hE,hB1,hB2⟩:=HB.out;exact⟨v,rfl,hE.keep hts.2 (fun i hi c fr e=>by rw[List.mem_singleton.1 hi,HR1.out] at e;cases e),hts.2.ho hB1,hB2.trans hts.2 (by intro i hi hlt;simp at hi;omega)⟩
theorem xC4(x:Nat)(t:Tx)(s:Sto)(Cb:Nat)(key:ByteArray)(since:Int)(w:World)(hx:w.heap[x]?=some (χ t))(ho:t.over=true)(hSt:w.heap[t.St]?=some (ν 0 s))(hpo:s.po=false)(hxS:x≠t.St)(hC:w.heap[Cb]?=some (qA6 x key since)):
  Calls prog 25 #[.pointer (some ⟨Cb,0,none⟩)] w fun e w'=>∃ v,e=.returned (.tuple #[.agg #[.string ⟨#[]⟩,.string ⟨#[]⟩],.bool false,v])∧ErrV w' v (some 5)∧w'.heap[t.St]?=some (ν 0 s)∧Kp [t.St] w w':=by
 have hmf:=zM;have HX:Hid (w.heap[x]?=some (χ t)∧t.over=true∧w.heap[t.St]?=some (ν 0 s)∧s.po=false∧x≠t.St∧w.heap[Cb]?=some (qA6 x key since)):=⟨hx,ho,hSt,hpo,hxS,hC⟩;have hCs:=ζ hC;have hSs:=ζ hSt;clear hx ho hSt hpo hxS hC;go_enter func25,ntmps25;go_wp2_with fail;obtain⟨w0,hw0,hR0,hK0,hs0⟩:=qH9 w (.cells #[.string ⟨#[]⟩,.string ⟨#[]⟩] 42);rw[←hw0];clear hw0;obtain⟨hx,ho,hSt,hpo,hxS,hC⟩:=HX.out;refine (qS4 x t s Cb key since _ false 54 #[] w0 (hK0.hp hx) ho (hK0.hp hSt) hpo hxS (hK0.hp hC)).mono ?_;rintro e w1 ⟨v,rfl,hv,hS1,hK1⟩;have hR1:=hK1.ho hR0;have HB:Hid (ErrV w1 v (some 5)∧w1.heap[t.St]?=some (ν 0 s)∧Kp [t.St] w w1):=⟨hv,hS1,(hK0.mono (by simp)).trans hK1 (fun _ h _=>h)⟩;clear hv hS1 hK1 hK0 hR0 hx ho hSt hpo hxS hC;have hRs:=ζ hR1;have z0:=ξ hR1;have fz0:=ρ hR1;have HR1:=zh hR1;clear hR1;go_wp2;have hts:=qB2 (.string ⟨#[]⟩) (.string ⟨#[]⟩) HR1.out;have t0:=ξ hts.1 0;have t1:=ξ hts.1 1;simp only[zG,zH,zI] at t0 t1;refine bodyPost_ret (v:=.tuple #[.agg #[.string ⟨#[]⟩,.string ⟨#[]⟩],.bool false,v]) (by simp[results,results25,go_sem,t0,t1]) rfl ?_;obtain⟨hE,hB1,hB2⟩:=HB.out;exact⟨v,rfl,hE.keep hts.2 (fun i hi c fr e=>by rw[List.mem_singleton.1 hi,HR1.out] at e;cases e),hts.2.ho hB1,hB2.trans hts.2 (by intro i hi hlt;simp at hi;omega)⟩
theorem xD2(x:Nat)(t:Tx)(s:Sto)(Cb:Nat)(key:ByteArray)(since:Int)(sk:ByteArray)(w:World)(hx:w.heap[x]?=some (χ t))(ho:t.over=true)(hSt:w.heap[t.St]?=some (ν 0 s))(hpo:s.po=false)(hxS:x≠t.St)(hC:w.heap[Cb]?=some (qA6 x key since)):
  Calls prog 27 #[.pointer (some ⟨Cb,0,none⟩),.string sk] w fun e w'=>∃ v,e=.returned (.tuple #[.agg #[.string ⟨#[]⟩,.string ⟨#[]⟩],.bool false,v])∧ErrV w' v (some 5)∧w'.heap[t.St]?=some (ν 0 s)∧Kp [t.St] w w':=by
 have hmf:=zM;have HX:Hid (w.heap[x]?=some (χ t)∧t.over=true∧w.heap[t.St]?=some (ν 0 s)∧s.po=false∧x≠t.St∧w.heap[Cb]?=some (qA6 x key since)):=⟨hx,ho,hSt,hpo,hxS,hC⟩;have hCs:=ζ hC;have hSs:=ζ hSt;clear hx ho hSt hpo hxS hC;go_enter func27,ntmps27;go_wp2_with fail;obtain⟨w0,hw0,hX0,hR0,hK0,hs0⟩:=qL6 w (.cells #[.string sk] 9) (.cells #[.string ⟨#[]⟩,.string ⟨#[]⟩] 42);rw[←hw0];clear hw0;obtain⟨hx,ho,hSt,hpo,hxS,hC⟩:=HX.out;refine (qS4 x t s Cb key since _ false 59 #[.pointer (some ⟨w.heap.size,0,none⟩)] w0 (hK0.hp hx) ho (hK0.hp hSt) hpo hxS (hK0.hp hC)).mono ?_;rintro e w1 ⟨v,rfl,hv,hS1,hK1⟩;have hR1:=hK1.ho hR0;have HB:Hid (ErrV w1 v (some 5)∧w1.heap[t.St]?=some (ν 0 s)∧Kp [t.St] w w1):=⟨hv,hS1,(hK0.mono (by simp)).trans hK1 (fun _ h _=>h)⟩;clear hv hS1 hK1 hK0 hR0 hx ho hSt hpo hxS hC;have hRs:=ζ hR1;have z0:=ξ hR1;have fz0:=ρ hR1;have HR1:=zh hR1;clear hR1;go_wp2;have hts:=qB2 (.string ⟨#[]⟩) (.string ⟨#[]⟩) HR1.out;have t0:=ξ hts.1 0;have t1:=ξ hts.1 1;simp only[zG,zH,zI] at t0 t1;refine bodyPost_ret (v:=.tuple #[.agg #[.string ⟨#[]⟩,.string ⟨#[]⟩],.bool false,v]) (by simp[results,results27,go_sem,t0,t1]) rfl ?_;obtain⟨hE,hB1,hB2⟩:=HB.out;exact⟨v,rfl,hE.keep hts.2 (fun i hi c fr e=>by rw[List.mem_singleton.1 hi,HR1.out] at e;cases e),hts.2.ho hB1,hB2.trans hts.2 (by intro i hi hlt;simp at hi;omega)⟩
theorem xC6(x:Nat)(t:Tx)(s:Sto)(Cb:Nat)(key:ByteArray)(since:Int)(w:World)(hx:w.heap[x]?=some (χ t))(ho:t.over=true)(hSt:w.heap[t.St]?=some (ν 0 s))(hpo:s.po=false)(hxS:x≠t.St)(hC:w.heap[Cb]?=some (qA6 x key since)):
  Calls prog 23 #[.pointer (some ⟨Cb,0,none⟩)] w fun e w'=>∃ v,e=.returned (.tuple #[.agg #[.string ⟨#[]⟩,.string ⟨#[]⟩],.bool false,v])∧ErrV w' v (some 5)∧w'.heap[t.St]?=some (ν 0 s)∧Kp [t.St] w w':=by
 have hmf:=zM;have HX:Hid (w.heap[x]?=some (χ t)∧t.over=true∧w.heap[t.St]?=some (ν 0 s)∧s.po=false∧x≠t.St∧w.heap[Cb]?=some (qA6 x key since)):=⟨hx,ho,hSt,hpo,hxS,hC⟩;have hCs:=ζ hC;have hSs:=ζ hSt;clear hx ho hSt hpo hxS hC;go_enter func23,ntmps23;go_wp2_with fail;obtain⟨w0,hw0,hX0,hR0,hK0,hs0⟩:=qL6 w (.cells #[.pointer (some ⟨Cb,0,none⟩)] 36) (.cells #[.string ⟨#[]⟩,.string ⟨#[]⟩] 42);rw[←hw0];clear hw0;obtain⟨hx,ho,hSt,hpo,hxS,hC⟩:=HX.out;refine (qS4 x t s Cb key since _ true 51 #[.pointer (some ⟨w.heap.size,0,none⟩)] w0 (hK0.hp hx) ho (hK0.hp hSt) hpo hxS (hK0.hp hC)).mono ?_;rintro e w1 ⟨v,rfl,hv,hS1,hK1⟩;have hR1:=hK1.ho hR0;have HB:Hid (ErrV w1 v (some 5)∧w1.heap[t.St]?=some (ν 0 s)∧Kp [t.St] w w1):=⟨hv,hS1,(hK0.mono (by simp)).trans hK1 (fun _ h _=>h)⟩;clear hv hS1 hK1 hK0 hR0 hx ho hSt hpo hxS hC;have hRs:=ζ hR1;have z0:=ξ hR1;have fz0:=ρ hR1;have HR1:=zh hR1;clear hR1;go_wp2;have hts:=qB2 (.string ⟨#[]⟩) (.string ⟨#[]⟩) HR1.out;have t0:=ξ hts.1 0;have t1:=ξ hts.1 1;simp only[zG,zH,zI] at t0 t1;refine bodyPost_ret (v:=.tuple #[.agg #[.string ⟨#[]⟩,.string ⟨#[]⟩],.bool false,v]) (by simp[results,results23,go_sem,t0,t1]) rfl ?_;obtain⟨hE,hB1,hB2⟩:=HB.out;exact⟨v,rfl,hE.keep hts.2 (fun i hi c fr e=>by rw[List.mem_singleton.1 hi,HR1.out] at e;cases e),hts.2.ho hB1,hB2.trans hts.2 (by intro i hi hlt;simp at hi;omega)⟩
theorem xC9(x:Nat)(t:Tx)(s:Sto)(Cb:Nat)(key:ByteArray)(since:Int)(w:World)(hx:w.heap[x]?=some (χ t))(ho:t.over=true)(hSt:w.heap[t.St]?=some (ν 0 s))(hpo:s.po=false)(hxS:x≠t.St)(hC:w.heap[Cb]?=some (qA6 x key since)):
  Calls prog 26 #[.pointer (some ⟨Cb,0,none⟩)] w fun e w'=>∃ v,e=.returned (.tuple #[.agg #[.string ⟨#[]⟩,.string ⟨#[]⟩],.bool false,v])∧ErrV w' v (some 5)∧w'.heap[t.St]?=some (ν 0 s)∧Kp [t.St] w w':=by
 have hmf:=zM;have HX:Hid (w.heap[x]?=some (χ t)∧t.over=true∧w.heap[t.St]?=some (ν 0 s)∧s.po=false∧x≠t.St∧w.heap[Cb]?=some (qA6 x key since)):=⟨hx,ho,hSt,hpo,hxS,hC⟩;have hCs:=ζ hC;have hSs:=ζ hSt;clear hx ho hSt hpo hxS hC;go_enter func26,ntmps26;go_wp2_with fail;obtain⟨w0,hw0,hX0,hR0,hK0,hs0⟩:=qL6 w (.cells #[.pointer (some ⟨Cb,0,none⟩)] 36) (.cells #[.string ⟨#[]⟩,.string ⟨#[]⟩] 42);rw[←hw0];clear hw0;obtain⟨hx,ho,hSt,hpo,hxS,hC⟩:=HX.out;refine (qS4 x t s Cb key since _ true 57 #[.pointer (some ⟨w.heap.size,0,none⟩)] w0 (hK0.hp hx) ho (hK0.hp hSt) hpo hxS (hK0.hp hC)).mono ?_;rintro e w1 ⟨v,rfl,hv,hS1,hK1⟩;have hR1:=hK1.ho hR0;have HB:Hid (ErrV w1 v (some 5)∧w1.heap[t.St]?=some (ν 0 s)∧Kp [t.St] w w1):=⟨hv,hS1,(hK0.mono (by simp)).trans hK1 (fun _ h _=>h)⟩;clear hv hS1 hK1 hK0 hR0 hx ho hSt hpo hxS hC;have hRs:=ζ hR1;have z0:=ξ hR1;have fz0:=ρ hR1;have HR1:=zh hR1;clear hR1;go_wp2;have hts:=qB2 (.string ⟨#[]⟩) (.string ⟨#[]⟩) HR1.out;have t0:=ξ hts.1 0;have t1:=ξ hts.1 1;simp only[zG,zH,zI] at t0 t1;refine bodyPost_ret (v:=.tuple #[.agg #[.string ⟨#[]⟩,.string ⟨#[]⟩],.bool false,v]) (by simp[results,results26,go_sem,t0,t1]) rfl ?_;obtain⟨hE,hB1,hB2⟩:=HB.out;exact⟨v,rfl,hE.keep hts.2 (fun i hi c fr e=>by rw[List.mem_singleton.1 hi,HR1.out] at e;cases e),hts.2.ho hB1,hB2.trans hts.2 (by intro i hi hlt;simp at hi;omega)⟩
theorem xC7(E:SEnv)(x A n:Nat)(t:Tx)(s:Sto)(r:Root)(Cb:Nat)(key:ByteArray)(since:Int)(w:World)(hL:LiveT E w x A n t s r)(hC:w.heap[Cb]?=some (qA6 x key since))(hk:key.toList.isEmpty=true∨since≠t.ch):
  Calls prog 23 #[.pointer (some ⟨Cb,0,none⟩)] w fun e w'=>∃ v,e=.returned (.tuple #[.agg #[.string ⟨#[]⟩,.string ⟨#[]⟩],.bool false,v])∧ErrV w' v (some 11)∧BadT E w w' t s:=by
 have hmf:=zM;have HL:=zh hL;have HC:=zh hC;have HK:=zh hk;have hCs:=ζ hC;have hSs:=ζ hL.hSt;clear hL hC hk;go_enter func23,ntmps23;go_wp2_with fail;obtain⟨w0,hw0,hX0,hR0,hK0,hs0⟩:=qL6 w (.cells #[.pointer (some ⟨Cb,0,none⟩)] 36) (.cells #[.string ⟨#[]⟩,.string ⟨#[]⟩] 42);rw[←hw0];clear hw0;refine (zK6 E x A n t s r Cb key since _ true 51 #[.pointer (some ⟨w.heap.size,0,none⟩)] w0 (HL.out.more hK0) (hK0.hp HC.out) rfl HK.out).mono ?_;rintro e w1 ⟨v,rfl,hv,hB⟩;have hR1:=hB.kp.heap hR0 (by simp only[List.mem_cons,not_or];exact⟨by omega,fun h=>by have:=E.low w HL.out.dev _ h;omega⟩);have HB:Hid (ErrV w1 v (some 11)∧BadT E w w1 t s):=⟨hv,BadT.from hK0 hB⟩;clear hv hB hK0 hR0;have hRs:=ζ hR1;have z0:=ξ hR1;have fz0:=ρ hR1;have HR1:=zh hR1;clear hR1;go_wp2;have hts:=qB2 (.string ⟨#[]⟩) (.string ⟨#[]⟩) HR1.out;have t0:=ξ hts.1 0;have t1:=ξ hts.1 1;simp only[zG,zH,zI] at t0 t1;refine bodyPost_ret (v:=.tuple #[.agg #[.string ⟨#[]⟩,.string ⟨#[]⟩],.bool false,v]) (by simp[results,results23,go_sem,t0,t1]) rfl ?_;obtain⟨hE,hB⟩:=HB.out;exact⟨v,rfl,hE.keep hts.2 (fun i hi c fr e=>by rw[List.mem_singleton.1 hi,HR1.out] at e;cases e),E.keepX _ _ _ hB.dev hts.2 (OffD.one HR1.out (by decide)),hts.2.ho hB.hSt,hB.kp.trans hts.2 (by intro i hi hlt;simp at hi;omega)⟩
theorem xD0(E:SEnv)(x A n:Nat)(t:Tx)(s:Sto)(r:Root)(Cb:Nat)(key:ByteArray)(since:Int)(w:World)(hL:LiveT E w x A n t s r)(hC:w.heap[Cb]?=some (qA6 x key since))(hk:key.toList.isEmpty=true∨since≠t.ch):
  Calls prog 26 #[.pointer (some ⟨Cb,0,none⟩)] w fun e w'=>∃ v,e=.returned (.tuple #[.agg #[.string ⟨#[]⟩,.string ⟨#[]⟩],.bool false,v])∧ErrV w' v (some 11)∧BadT E w w' t s:=by
 have hmf:=zM;have HL:=zh hL;have HC:=zh hC;have HK:=zh hk;have hCs:=ζ hC;have hSs:=ζ hL.hSt;clear hL hC hk;go_enter func26,ntmps26;go_wp2_with fail;obtain⟨w0,hw0,hX0,hR0,hK0,hs0⟩:=qL6 w (.cells #[.pointer (some ⟨Cb,0,none⟩)] 36) (.cells #[.string ⟨#[]⟩,.string ⟨#[]⟩] 42);rw[←hw0];clear hw0;refine (zK6 E x A n t s r Cb key since _ true 57 #[.pointer (some ⟨w.heap.size,0,none⟩)] w0 (HL.out.more hK0) (hK0.hp HC.out) rfl HK.out).mono ?_;rintro e w1 ⟨v,rfl,hv,hB⟩;have hR1:=hB.kp.heap hR0 (by simp only[List.mem_cons,not_or];exact⟨by omega,fun h=>by have:=E.low w HL.out.dev _ h;omega⟩);have HB:Hid (ErrV w1 v (some 11)∧BadT E w w1 t s):=⟨hv,BadT.from hK0 hB⟩;clear hv hB hK0 hR0;have hRs:=ζ hR1;have z0:=ξ hR1;have fz0:=ρ hR1;have HR1:=zh hR1;clear hR1;go_wp2;have hts:=qB2 (.string ⟨#[]⟩) (.string ⟨#[]⟩) HR1.out;have t0:=ξ hts.1 0;have t1:=ξ hts.1 1;simp only[zG,zH,zI] at t0 t1;refine bodyPost_ret (v:=.tuple #[.agg #[.string ⟨#[]⟩,.string ⟨#[]⟩],.bool false,v]) (by simp[results,results26,go_sem,t0,t1]) rfl ?_;obtain⟨hE,hB⟩:=HB.out;exact⟨v,rfl,hE.keep hts.2 (fun i hi c fr e=>by rw[List.mem_singleton.1 hi,HR1.out] at e;cases e),E.keepX _ _ _ hB.dev hts.2 (OffD.one HR1.out (by decide)),hts.2.ho hB.hSt,hB.kp.trans hts.2 (by intro i hi hlt;simp at hi;omega)⟩
theorem xE6(args:Array Value)(W:World):Sem.run prog (callFunc 46 args) W=.ok (.enter 46 args) W:=by
 simp[go_sem,func46]
theorem xF3(Tc Pc x:Nat)(w:World)(hT:w.heap[Tc]?=some (.cells #[.pointer (some ⟨x,0,none⟩)] 32))(hP:w.heap[Pc]?=some (.cells #[.pointer none] 36)):
  Calls prog 46 #[.pointer (some ⟨Tc,0,none⟩),.pointer (some ⟨Pc,0,none⟩)] w fun e w'=>e=qB7 none∧∃ Cb,w.heap.size≤Cb∧w'.heap[Cb]?=some (qA6 x ⟨#[]⟩ 0)∧w'.heap[Pc]?=some (.cells #[.pointer (some ⟨Cb,0,none⟩)] 36)∧Kp [Pc] w w':=by
 have hTs:=ζ hT;have hPs:=ζ hP;have t0:=ξ hT 0;simp only[zG,zH,zI] at t0;have p0:=ξ hP 0;simp only[zG,zH,zI] at p0;have fp0:=ρ hP 0;have HP:=zh hP;clear hT hP;go_enter func46,ntmps46;go_wp2
 go_end0
 refine⟨rfl,w.heap.size,Nat.le_refl _,?_,?_,?_⟩
 ·have e:=κ (w.setCell ⟨Pc,0,none⟩ (.pointer (some ⟨w.heap.size,0,none⟩))) (qA6 x ⟨#[]⟩ 0);rw[show (w.setCell ⟨Pc,0,none⟩ (.pointer (some ⟨w.heap.size,0,none⟩))).heap.size=w.heap.size by simp[World.setCell]] at e;exact e
 ·exact η _ (μ HP.out 0 _)
 ·exact ((Kp.refl [Pc] w).sc _).alloc _
theorem jF5(E:SEnv)(x A n:Nat)(t:Tx)(s:Sto)(r:Root)(w:World)(hL:LiveT E w x A n t s r):
  Calls prog 21 #[.pointer (some ⟨x,0,none⟩)] w fun e w'=>∃ Cb,e=.returned (.tuple #[.pointer (some ⟨Cb,0,none⟩),.nilIface])∧w.heap.size≤Cb∧w'.heap[Cb]?=some (qA6 x ⟨#[]⟩ 0)∧BadT E w w' t s:=by
 have hmf:=zM;have HL:=zh hL;have hxs:=ζ hL.hx;have hSs:=ζ hL.hSt;clear hL;go_enter func21,ntmps21;go_wp2_with fail;obtain⟨w0,hw0,hT0,hP0,hK0,hs0⟩:=qL6 w (.cells #[.pointer (some ⟨x,0,none⟩)] 32) (.cells #[.pointer none] 36);rw[←hw0];clear hw0;have hL0:=HL.out.more hK0;refine (qM1 none (by decide) x t.St 46 t s s #[] #[.pointer (some ⟨w.heap.size,0,none⟩),.pointer (some ⟨w.heap.size+1,0,none⟩)] _ [w.heap.size+1] (fun W w1=>E.Dev w1∧w1.heap[t.St]?=some (ν 1 s)∧∃ Cb,w0.heap.size≤Cb∧w1.heap[Cb]?=some (qA6 x ⟨#[]⟩ 0)∧w1.heap[w.heap.size+1]?=some (.cells #[.pointer (some ⟨Cb,0,none⟩)] 36)) w0 hL0.hx hL0.over rfl hL0.hSt hL0.po hL0.xS (xE6 _) (fun i hi=>by simp at hi;omega) ?_).mono ?_
 ·intro W hK hS;have hd:=hL0.devS hK;have hP:=hK.ho hP0;have hsz:=hK.size;refine (xF3 w.heap.size (w.heap.size+1) x W (hK.ho hT0) hP).mono ?_;rintro e w1 ⟨rfl,Cb,h1,h2,h3,hK1⟩;have hS1:w1.heap[t.St]?=some (ν 1 s):=hK1.ho hS;exact⟨rfl,⟨E.keepX W w1 _ hd hK1 (OffD.one hP (by decide)),hS1,Cb,by omega,h2,h3⟩,hK1.mono (by simp +contextual),hS1⟩
 rintro e w2 ⟨v,rfl,hv,hSt2,hK2,W,w1,Bb,⟨hd1,hS1,Cb,hCb,hC1,hP1⟩,hKW,hb1,hb2,hb3,hKB⟩;have hv':v=.nilIface:=hv;subst hv';have hC2:=hKB.heap hC1 (by simp only[List.mem_cons,List.not_mem_nil,or_false,not_or];exact⟨ω hC1 hS1 (by decide),ω hC1 hb3 (by decide)⟩);have hP2:=hKB.heap hP1 (by simp only[List.mem_cons,List.not_mem_nil,or_false,not_or];exact⟨ω hP1 hS1 (by decide),ω hP1 hb3 (by decide)⟩);have HB:Hid (w.heap.size≤Cb∧w2.heap[Cb]?=some (qA6 x ⟨#[]⟩ 0)∧BadT E w w2 t s):=⟨by omega,hC2,E.keepX w1 w2 _ hd1 hKB (qM8 hS1 hb3),hSt2,(hK0.mono (S':=t.St::E.S) (by simp)).trans hK2 (by intro i hi hlt;simp at hi ⊢;rcases hi with h | h;simp[h];omega)⟩;have hPs:=ζ hP2;have p0:=ξ hP2 0;simp only[zG,zH,zI] at p0;clear hv hSt2 hK2 hd1 hS1 hC1 hP1 hKW hb3 hKB hL0 hT0 hP0 hK0 hC2 hP2;go_wp2;refine bodyPost_ret (v:=.tuple #[.pointer (some ⟨Cb,0,none⟩),.nilIface]) (by simp[results,results21,go_sem]) rfl ?_;exact⟨Cb,rfl,HB.out⟩
theorem jF6(x:Nat)(t:Tx)(s:Sto)(w:World)(hx:w.heap[x]?=some (χ t))(ho:t.over=true)(hSt:w.heap[t.St]?=some (ν 0 s))(hpo:s.po=false)(hxS:x≠t.St):
  Calls prog 21 #[.pointer (some ⟨x,0,none⟩)] w fun e w'=>∃ v,e=.returned (.tuple #[.pointer none,v])∧ErrV w' v (some 5)∧w'.heap[t.St]?=some (ν 0 s)∧Kp [t.St] w w':=by
 have hmf:=zM;have hxs:=ζ hx;have hSs:=ζ hSt;have HXS:=zh hxS;clear hxS;go_enter func21,ntmps21;go_wp2_with fail;obtain⟨w0,hw0,hT0,hP0,hK0,hs0⟩:=qL6 w (.cells #[.pointer (some ⟨x,0,none⟩)] 32) (.cells #[.pointer none] 36);rw[←hw0];clear hw0;refine (qT1 x t.St 46 t s #[] _ _ w0 (hK0.hp hx) ho rfl (hK0.hp hSt) hpo HXS.out).mono ?_;rintro e w2 ⟨v,rfl,hv,hSt2,hK2⟩;have hP2:=hK2.ho hP0;have HB:Hid (ErrV w2 v (some 5)∧w2.heap[t.St]?=some (ν 0 s)∧Kp [t.St] w w2):=⟨hv,hSt2,(hK0.mono (by simp)).trans hK2 (fun _ h _=>h)⟩;have hPs:=ζ hP2;have p0:=ξ hP2 0;simp only[zG,zH,zI] at p0;clear hv hSt2 hK2 hT0 hP0 hK0 hP2;go_wp2;refine bodyPost_ret (v:=.tuple #[.pointer none,v]) (by simp[results,results21,go_sem]) rfl ?_;exact⟨v,rfl,HB.out⟩
def ι(Cb:Nat)(key:ByteArray)(on:Bool)(stp:Int):Obj:=.cells #[.pointer (some ⟨Cb,0,none⟩),.string key,.bool on,.int .i64 stp] 282
theorem xN4:(prog.info? 203).map (fun i=>(i.zero,i.size,i.bytes))=some (some (.pointer none),1,8):=by kernel_rfl
def zH1(f:TF)(tb base:Nat)(css:List Nat)(R:Nat→World→Prop)(S:List Nat)(w w':World):Prop:=
 ∃ w1 Cb cb v' L,R Cb w1∧Kp S w w1∧w1.heap.size≤cb∧w'.heap[cb]?=some (ι Cb ⟨#[]⟩ false 0)∧w'.heap[tb]?=some (tob { f with cs:=v' })∧w'.ownsRow base 203 1 v' (css.length+1) (qF3 (css++[cb]))∧Kp L w1 w'∧(∀ i∈L,i=tb∨f.cs.ownBlock=some i)∧∀ i,v'.ownBlock=some i→f.cs.ownBlock=some i∨w1.heap.size≤i
theorem jB4(B tb A n C:Nat)(cache:Value)(calls writes:Int)(k:KF)(f:TF)(ps:List KV)(S:List Nat)(R:World→Prop)(w:World)(hI:LkIn w B tb A n C cache calls writes k f ps)(hP:ProgS w S)(hdn:f.dn=true)(hcall:Calls prog 21 #[.pointer (some ⟨f.x,0,none⟩)] w fun e w'=>∃ v,e=.returned (.tuple #[.pointer none,v])∧ErrV w' v (some 5)∧R w'∧Kp S w w'):
  Calls prog 136 #[.pointer (some ⟨B,0,none⟩),.pointer (some ⟨tb,0,none⟩)] w fun e w'=>e=.returned (.bool true)∧qP0 R S w w':=by
 have HDN:=zh hdn;clear hdn;have hBs:=ζ hI.hB;have hTs:=ζ hI.hT;have HI:=zh hI;have HP:=zh hP;have hT:=hI.hT;have t0:=ξ hT 0;simp only[tob,zG,zH,zI] at t0;have HCALL:=hcall;clear hI hP hT hcall;go_enter func136,ntmps136;go_wp2_with fail;refine HCALL.mono ?_;rintro e w1 ⟨v,rfl,hv,hR,hK1⟩;have hB1:=HP.out.stay hK1 HI.out.hB (by decide);have hT1:=HP.out.stay hK1 HI.out.hT (by decide);have hg1:=HP.out.g0 hK1 HI.out.g0 (by omega);have HR:Hid (R w1∧Kp S w w1):=⟨hR,hK1⟩;clear t0 hR hK1;go_wp2_with fail;refine (qD9 v (some 5) w1 hg1 hv).mono ?_;rintro e w2 ⟨rfl,hK2⟩;have hB2:=hK2.hp hB1;have hT2:=hK2.hp hT1;have hB2s:=ζ hB2;have hT2s:=ζ hT2;have b10:=ξ hB2 10;simp only[kob,zG,zH,zI] at b10;have t3:=ξ hT2 3;simp only[tob,zG,zH,zI] at t3;rw[HI.out.po] at b10;rw[HDN.out] at t3;have HK2:=zh hK2;clear hB1 hT1 hg1 hv hK2 hB2 hT2
 go_wp2_with (go_at_call 127;refine (qC3 _ _).mono ?_;rintro e w3 ⟨rfl,rfl⟩)
 go_ret;exact⟨by simp,w1,HR.out.1,HR.out.2,HK2.out⟩
theorem jB5(B tb A n C:Nat)(cache:Value)(calls writes:Int)(k:KF)(f:TF)(ps:List KV)(base:Nat)(css:List Nat)(S:List Nat)(R:Nat→World→Prop)(w:World)(hI:LkIn w B tb A n C cache calls writes k f ps)(hP:ProgS w S)(hdn:f.dn=false)(hrow:w.ownsRow base 203 1 f.cs css.length (qF3 css))(hlen:css.length≤100000)(hb:base≤w.heap.size)(hcall:Calls prog 21 #[.pointer (some ⟨f.x,0,none⟩)] w fun e w'=>∃ Cb,e=.returned (.tuple #[.pointer (some ⟨Cb,0,none⟩),.nilIface])∧R Cb w'∧Kp S w w'):
  Calls prog 136 #[.pointer (some ⟨B,0,none⟩),.pointer (some ⟨tb,0,none⟩)] w fun e w'=>e=.returned (.bool true)∧zH1 f tb base css R S w w':=by
 have HDN:=zh hdn;have HRW:Hid (w.ownsRow base 203 1 f.cs css.length (qF3 css)∧base≤w.heap.size):=⟨hrow,hb⟩;obtain⟨cb0,cc0,hcs⟩:=qU0 hrow;have HCS:=zh hcs;clear hdn hrow hb hcs;have hBs:=ζ hI.hB;have hTs:=ζ hI.hT;have HI:=zh hI;have HP:=zh hP;have hT:=hI.hT;have t0:=ξ hT 0;simp only[tob,zG,zH,zI] at t0;have HCALL:=hcall;clear hI hP hT hcall;go_enter func136,ntmps136;go_wp2_with fail;refine HCALL.mono ?_;rintro e w1 ⟨Cb,rfl,hR,hK1⟩;have hB1:=HP.out.stay hK1 HI.out.hB (by decide);have hT1:=HP.out.stay hK1 HI.out.hT (by decide);have hg1:=HP.out.g0 hK1 HI.out.g0 (by omega);have HR:Hid (R Cb w1∧Kp S w w1):=⟨hR,hK1⟩;clear t0 hR hK1;go_wp2_with fail;refine (qD9 .nilIface none w1 hg1 rfl).mono ?_;rintro e w2 ⟨rfl,hK2⟩;have hB2:=hK2.hp hB1;have hT2:=hK2.hp hT1;have hB2s:=ζ hB2;have hT2s:=ζ hT2;have HT2:=zh hT2;have b10:=ξ hB2 10;simp only[kob,zG,zH,zI] at b10;have t3:=ξ hT2 3;have t8:=ξ hT2 8;simp only[tob,zG,zH,zI] at t3 t8;rw[HI.out.po] at b10;rw[HDN.out] at t3;rw[HCS.out] at t8;have HK2:=zh hK2;have hr2:w2.ownsRow base 203 1 f.cs css.length (qF3 css):=qK5 (qK5 HRW.out.1 HR.out.2 (fun k' c t fr h1 h2 e=>absurd ((HP.out k' h2).2 _ _ _ h1) (by rw[e];decide))) hK2 (fun _ _ _ _ _ h=>by cases h);have hsz1:=HR.out.2.size;have hsz2:=hK2.size;have hbs:=HRW.out.2;obtain⟨w4,hw4,hC4,hT4,hK4,hs4⟩:∃ w4,w4=w2.alloc (.cells #[.pointer (some ⟨Cb,0,none⟩),.string ⟨#[]⟩,.bool false,.int .i64 0] 282)∧w4.heap[w2.heap.size]?=some (ι Cb ⟨#[]⟩ false 0)∧w4.heap[tb]?=some (tob f)∧Kp [] w2 w4∧w4.heap.size=w2.heap.size+1:=⟨_,rfl,κ _ _,η _ hT2,(Kp.refl _ _).alloc _,by simp⟩;have hr4:w4.ownsRow base 203 1 f.cs css.length (qF3 css):=qK5 hr2 hK4 (fun _ _ _ _ _ h=>by cases h);obtain⟨v',w6,hr6,hrow6,hgr6,hob6⟩:=zE9 (w4.alloc (.cells #[.pointer (some ⟨w2.heap.size,0,none⟩)] 203)) base w4.heap.size f.cs css.length (qF3 css) (.pointer (some ⟨w2.heap.size,0,none⟩)) 195 203 195 (.pointer none) underlying195 xN4 rfl (World.ownsRow.alloc hr4 _) (by omega) (κ _ _) rfl (by simp;omega);have hC6:=qL0 hr4 hgr6 hC4 (by decide);have hT6:=qL0 hr4 hgr6 hT4 (by decide);obtain⟨b6,c6,hv6⟩:=qU0 hrow6;subst hv6;have HROW6:=zh hrow6;have HG6:=zh hgr6;have HOB:Hid (∀ i,Value.ownBlock (.slice b6 (css.length+1) c6)=some i→f.cs.ownBlock=some i∨w1.heap.size≤i):=fun i hi=>(hob6 i hi).imp id (fun h=>by simp at h;omega);have HC6:=zh hC6;have HT6:=zh hT6;have HK4:=zh hK4;have hT6s:=ζ hT6;rw[HCS.out] at hr6;rw[hs4,hw4] at hr6;have f8:=ρ hT6 8;have HW4:=zh hw4;have hT6c:=ξ hT6 8;simp only[tob,zG,zH,zI] at hT6c;rw[HCS.out] at hT6c;clear hB1 hT1 hg1 hK2 hB2 hT2 hr2 hr4 hK4 hC4 hT4 hC6 hT6 hrow6 hgr6 hob6 hw4 hs4
 go_wp2_with (first | (go_at_call 127;refine (qC3 _ _).mono ?_;rintro e w2 ⟨rfl,rfl⟩) | (at_builtin;(with_reducible refine qL7 ?_ ?_ hr6 ?_);rfl;rfl))
 go_ret;have hsz:w1.heap.size≤w2.heap.size:=HK2.out.size;have hKt:Kp [tb] w6 (w6.setCell ⟨tb,8,none⟩ (.slice b6 (css.length+1) c6)):=(Kp.refl _ _).sc _;refine⟨rfl,w1,Cb,w2.heap.size,.slice b6 (css.length+1) c6,tb::f.cs.ownBlock.toList,HR.out.1,HR.out.2,hsz,hKt.ho HC6.out,μ HT6.out 8 _,?_,?_,fun i hi=>?_,HOB.out⟩
 ·have e:qF3 (css++[w2.heap.size])=qF3 css++[.pointer (some ⟨w2.heap.size,0,none⟩)]:=by simp[qF3]
  rw[e];exact qK5 HROW6.out hKt (fun k' c t fr h1 h2 e=>by rw[List.mem_singleton.1 h2,HT6.out] at h1;cases h1;revert e;decide)
 ·exact ((((HK2.out.tr HK4.out).mono (S':=tb::f.cs.ownBlock.toList) (by simp)).alloc _).grown HG6.out (fun j hj=>.inl (by simp[hj]))).sc _
 ·rcases List.mem_cons.1 hi with h|h
  ·exact .inl h
  ·exact .inr (by simpa using h)
def qF9(l:List KV)(i:Int):Option KV:=if i<0 then none else l[i.toNat]?
theorem xI9(l:List KV):(l.find? fun _=>true)=qF9 l 0:=by
 cases l with
 | nil=>rfl
 | cons a l=>rfl
theorem xP8(l:List KV):qA9 (fun _=>true) l=qF9 l ((l.length:Int)-1):=by
 rcases List.eq_nil_or_concat l with rfl|⟨a,x,rfl⟩
 ·rfl
 ·rw[List.concat_eq_append,qJ1,zO5 (by rfl),qF9,if_neg (by simp)];simp only[Option.some_or,List.length_append,List.length_singleton];rw[show (((a.length+1:Nat):Int)-1).toNat=a.length by omega];simp
theorem jE1(l:List KV)(k:ByteArray):(l.find? fun q=>!kl q.k k)=qF9 l (qA0 l k:Nat):=by
 rw[zB8,qF9,if_neg (by omega),Int.toNat_natCast];rfl
theorem qY2{l:List KV}(hs:Sorted l){i j:Nat}(hi:i<l.length)(hj:j<l.length)(h:i<j):kl l[i].k l[j].k=true:=List.pairwise_iff_getElem.1 hs i j hi hj h
theorem zF4{l:List KV}(hs:Sorted l){j:Nat}(hj:j<l.length):qA0 l l[j].k=j:=by
 rw[qA0,List.findIdx_eq hj];refine⟨by simp[qJ4],fun i hi=>?_⟩;simp[qY2 hs (by omega) hj hi]
theorem xY3{l:List KV}(hs:Sorted l){j:Nat}(hj:j<l.length):(l.find? fun q=>kl l[j].k q.k)=qF9 l ((qA0 l l[j].k:Nat)+1):=by
 rw[zF4 hs hj,qF9,if_neg (by omega),show ((j:Int)+1).toNat=j+1 by omega];have hback:∀ i (hi:i<l.length),i≤j→kl l[j].k l[i].k=false:=fun i hi hle=>by
  by_cases e:i=j
  ·subst e;exact qJ4 _
  ·exact qM4 (qY2 hs hi hj (by omega))
 rw[zB8];by_cases h1:j+1<l.length
 ·congr 1
  rw[List.findIdx_eq h1];exact⟨qY2 hs hj h1 (by omega),fun i hi=>hback i (by omega) (by omega)⟩
 ·have:l.findIdx (fun q=>kl l[j].k q.k)=l.length:=List.findIdx_eq_length.2 fun q hq=>by
   obtain⟨i,hi,rfl⟩:=List.getElem_of_mem hq;simp[hback i hi (by omega)]
  rw[this,List.getElem?_eq_none (Nat.le_refl _),List.getElem?_eq_none (by omega)]
theorem jB6{l:List KV}(hs:Sorted l){j:Nat}(hj:j<l.length):qA9 (fun k=>kl k l[j].k) l=qF9 l ((qA0 l l[j].k:Nat)-1):=by
 rw[zF4 hs hj];have hidx:l.findIdx (fun q=>!kl q.k l[j].k)=j:=zF4 hs hj;rw[zO6 (f:=fun k=>kl k l[j].k) (fun a b h hb=>qK3 h hb) hs (i:=j-1) (by rw[hidx]) (by omega)];by_cases h0:j=0
 ·subst h0;rw[if_neg (by simp[qJ4]),qF9,if_pos (by omega)]
 ·rw[if_pos (qY2 hs (by omega) hj (by omega)),qF9,if_neg (by omega),show ((j:Int)-1).toNat=j-1 by omega,List.getElem?_eq_getElem (by omega)]
end Go.Proofs.YtdohpenfkdckiaaGreatDoor
namespace Go.Proofs.YtdohpenfkdckiaaGreatDoor.Gm
open Go.Proofs.Tryz
open Go.RowKit
open Go.ChangeMaps
open Gw (TK Books qH7 qH0 Muts MutC DInv SG qA8 qE1 qI1)
abbrev E0:=Gen.E0
structure CG where
 cb:Nat
 Cb:Nat
 key:ByteArray
 since:Int
structure YG where
 tb:Nat
 f:TF
 t:Tx
 r:Root
 ps:List KV
 cs:List CG
def qG5(y:YG):List Nat:=y.cs.map CG.cb
def qL8(y:YG):List Nat:=y.cs.map CG.Cb
def qI6(y:YG):List Nat:=[y.tb,y.f.x]++y.f.cs.ownBlock.toList++qG5 y++qL8 y
structure COk(base:Nat)(w:World)(y:YG)(c:CG):Prop where
 bc:base≤c.cb
 bC:base≤c.Cb
 hc:w.heap[c.cb]?=some (ι c.Cb c.key (!c.key.toList.isEmpty) c.since)
 hC:w.heap[c.Cb]?=some (qA6 y.f.x c.key c.since)
 s0:0≤c.since
 s1:c.since≤y.t.ch
 at_:c.key.toList.isEmpty=false→c.since=y.t.ch→y.t.over=false→∃ j,∃ h:j<y.ps.length,y.ps[j].k=c.key
structure YOk(base:Nat)(T:Int)(w:World)(St V:Nat)(y:YG):Prop where
 bT:base≤y.tb
 bX:base≤y.f.x
 hT:w.heap[y.tb]?=some (tob y.f)
 hx:w.heap[y.f.x]?=some (χ y.t)
 st:y.t.St=St
 sp:SPR w y.f.v y.ps
 sz:(y.ps.length:Int)≤T
 m0:0≤y.f.most
 m1:y.f.most≤T
 c0:0≤y.f.chg
 c1:y.f.chg≤T
 s0:0≤y.f.stp
 s1:y.f.stp≤T
 com:y.f.com=0
 wr:y.f.wr=y.t.wrt
 dn:y.f.dn=y.t.over
 ch0:0≤y.t.ch
 ch1:y.t.ch≤T
 stp:y.f.stp=y.t.ch
 crow:w.ownsRow base 203 1 y.f.cs (qG5 y).length (qF3 (qG5 y))
 clen:(y.cs.length:Int)≤T
 curs:∀ c∈y.cs,COk base w y c
 cbs:(qG5 y).Nodup
 Cbs:(qL8 y).Nodup
 live:y.t.over=false→y.t.on=some ⟨V,0,none⟩∧RR (E0 V).toEnv w y.t.h y.r∧RGood y.r∧y.r.cont=y.ps
def kOf(y:YG):TK:=⟨y.t.over,y.t.wrt,y.t.nr⟩
def qE9(ys:List YG):List (TF × Nat):=ys.map fun y=>(y.f,y.ps.length)
structure SOk(base:Nat)(T:Int)(w:World)(A n:Nat)(q:SG)(ys:List YG):Prop where
 bSt:base≤q.St
 bM:base≤q.M
 hD:w.heap[q.Db]?=some (.cells #[.pointer (some ⟨q.St,0,none⟩)] 102)
 hSt:w.heap[q.St]?=some (ν 0 q.s)
 hV:w.heap[q.V]?=some (qC5 A n)
 sV:q.s.V=q.V
 sM:q.s.M=q.M
 po:q.s.po=false
 rb:q.s.rb=0
 rs:q.s.rs=0
 bl:q.s.bl=0
 bg0:0≤q.s.bg
 bg1:q.s.bg≤T
 rm:RM w q.V q.M q.nM q.D
 nM:(q.nM:Int)≤T
 bk:Books q.s q.D (ys.map kOf)
structure TG where
 d:Gen.DG
 so:Option SG
 ys:List YG
 hs:List HEnt
def qB8(g:TG):List Nat:=g.ys.map YG.tb
def qI4(g:TG):List Nat:=[g.d.B,g.d.A,g.d.C]++g.d.ts.ownBlock.toList++g.d.li.ownBlock.toList++g.d.wa.ownBlock.toList++qE1 g.so++g.ys.flatMap qI6
structure TOk(base:Nat)(T:Int)(w:World)(g:TG):Prop where
 d:Gen.DOk base T w g.d
 held:Held w base (qA8 g.d) g.hs
 hlen:(g.hs.length:Int)≤T
 hps:∀ x∈g.hs,(x.ps.length:Int)≤T+2
 row:w.ownsRow base 132 1 g.d.ts (qB8 g).length (qF3 (qB8 g))
 ylen:(g.ys.length:Int)≤T
 so:(g.d.x=none∧g.so=none∧g.ys=[])∨∃ q,g.so=some q∧g.d.x=some ⟨q.Db,0,none⟩∧SOk base T w g.d.A g.d.n q g.ys∧∀ y∈g.ys,YOk base T w q.St q.V y
 sep:g.ys.Pairwise fun a b=>∀ i∈qI6 a,i ∉ qI6 b
theorem qB4{g:TG}{i:Nat}:i∈qI4 g↔(i=g.d.B∨i=g.d.A∨i=g.d.C)∨g.d.ts.ownBlock=some i∨g.d.li.ownBlock=some i∨g.d.wa.ownBlock=some i∨i∈qE1 g.so∨∃ y∈g.ys,i∈qI6 y:=by
 simp only[qI4,List.mem_append,List.mem_cons,List.not_mem_nil,or_false,Option.mem_toList,or_assoc,Option.mem_def,List.mem_flatMap]
theorem qE2{y:YG}{i:Nat}:i∈qI6 y↔i=y.tb∨i=y.f.x∨y.f.cs.ownBlock=some i∨i∈qG5 y∨i∈qL8 y:=by
 simp only[qI6,List.mem_append,List.mem_cons,List.not_mem_nil,or_false,Option.mem_toList,or_assoc,Option.mem_def]
theorem COk.kp{base:Nat}{w w':World}{y:YG}{c:CG}{L:List Nat}(h:COk base w y c)(hK:Kp L w w')(h1:c.cb ∉ L)(h2:c.Cb ∉ L):COk base w' y c:=⟨h.bc,h.bC,hK.heap h.hc h1,hK.heap h.hC h2,h.s0,h.s1,h.at_⟩
theorem YOk.kp{base:Nat}{T T':Int}{w w':World}{St V:Nat}{y:YG}{L:List Nat}(h:YOk base T w St V y)(hK:Kp L w w')(hT:T≤T')(h1:∀ i∈qI6 y,i ∉ L)(hS:Apt w L (284::qG8)):YOk base T' w' St V y:=
 ⟨h.bT,h.bX,hK.heap h.hT (h1 _ (qE2.2 (.inl rfl))),hK.heap h.hx (h1 _ (qE2.2 (.inr (.inl rfl)))),h.st,h.sp.keep hK (fun k hk c t fr e hm=>hS k hk c t fr e (by simp at hm;simp[hm])),by have:=h.sz;omega,h.m0,by have:=h.m1;omega,h.c0,by have:=h.c1;omega,h.s0,by have:=h.s1;omega,h.com,h.wr,h.dn,h.ch0,by have:=h.ch1;omega,h.stp,qI1 h.crow hK (fun i hi=>h1 i (qE2.2 (.inr (.inr (.inl hi))))),by have:=h.clen;omega,fun c hc=>(h.curs c hc).kp hK (h1 _ (qE2.2 (.inr (.inr (.inr (.inl (List.mem_map.2 ⟨c,hc,rfl⟩))))))) (h1 _ (qE2.2 (.inr (.inr (.inr (.inr (List.mem_map.2 ⟨c,hc,rfl⟩))))))),h.cbs,h.Cbs,fun ho=>by
  obtain⟨a1,a2,a3,a4⟩:=h.live ho;exact⟨a1,a2.keepT hK (fun k hk c t fr e hm=>hS k hk c t fr e (List.mem_cons_of_mem _ hm)),a3,a4⟩⟩
theorem SOk.kp{base:Nat}{T T':Int}{w w':World}{A n:Nat}{q:SG}{ys:List YG}{L:List Nat}(h:SOk base T w A n q ys)(hK:Kp L w w')(hT:T≤T')(h1:q.St ∉ L)(h2:q.M ∉ L)(hS:Apt w L [102,263]):SOk base T' w' A n q ys:=
 ⟨h.bSt,h.bM,hK.heap h.hD (fun hm=>hS _ hm _ _ _ h.hD (by simp)),hK.heap h.hSt h1,hK.heap h.hV (fun hm=>hS _ hm _ _ _ h.hV (by simp)),h.sV,h.sM,h.po,h.rb,h.rs,h.bl,h.bg0,by have:=h.bg1;omega,h.rm.kp hK h2,by have:=h.nM;omega,h.bk⟩
theorem TOk.keep{base:Nat}{T T':Int}{w w':World}{g:TG}{L:List Nat}(h:TOk base T w g)(hK:Kp L w w')(hM:Muts base (qH7++qH0) w L)(hL:∀ i∈L,i ∉ qI4 g)(hT:T≤T'):TOk base T' w' g:=by
 have hn:∀ i,i∈qI4 g→i ∉ L:=fun i hi hm=>hL i hm hi;refine⟨Gw.DOk.kp h.d hK hT (hn _ (qB4.2 (by simp))) (hn _ (qB4.2 (by simp))) (hn _ (qB4.2 (by simp))) (hM.apt (by decide)),Gw.Held.kp h.held hK (fun i hi=>hn i (qB4.2 (by simp[show g.d.li.ownBlock=some i from hi]))) (fun i hi=>hn i (qB4.2 (by simp[show g.d.wa.ownBlock=some i from hi]))) (hM.apt (by decide)),by have:=h.hlen;omega,fun x hx=>by have:=h.hps x hx;omega,qI1 h.row hK (fun i hi=>hn i (qB4.2 (by simp[hi]))),by have:=h.ylen;omega,?_,h.sep⟩;rcases h.so with h0|⟨q,e1,e2,h3,h4⟩
 ·exact .inl h0
 ·refine .inr ⟨q,e1,e2,h3.kp hK hT (hn _ (qB4.2 (by simp[e1,qE1]))) (hn _ (qB4.2 (by simp[e1,qE1]))) (hM.apt (by decide)),fun y hy=>(h4 y hy).kp hK hT (fun i hi=>hn i (qB4.2 (.inr (.inr (.inr (.inr (.inr ⟨y,hy,hi⟩))))))) (hM.apt (by decide))⟩
theorem TOk.muts{base:Nat}{T:Int}{w:World}{g:TG}(h:TOk base T w g):Muts base qH0 w (qI4 g):=by
 intro k hk;rcases qB4.1 hk with (rfl|rfl|rfl)|hk|hk|hk|hk|⟨y,hy,hk⟩
 ·exact⟨h.d.bB,_,h.d.hB,fun c t fr e=>by cases e;decide⟩
 ·exact⟨h.d.bA,_,h.d.hA,fun c t fr e=>by cases e;decide⟩
 ·exact⟨h.d.bC,_,h.d.hC,fun c t fr e=>by cases e;decide⟩
 ·obtain⟨h1,c,h2⟩:=qD4 h.row k (by simp[hk]);exact⟨h1,_,h2,fun c t fr e=>by cases e;decide⟩
 ·obtain⟨h1,c,h2⟩:=qD4 h.held.li k (by simp[qA8,hk]);exact⟨h1,_,h2,fun c t fr e=>by cases e;decide⟩
 ·obtain⟨h1,c,h2⟩:=qD4 h.held.wa k (by simp[qA8,hk]);exact⟨h1,_,h2,fun c t fr e=>by cases e;decide⟩
 ·rcases h.so with⟨_,e,_⟩|⟨q,e1,e2,h3,h4⟩
  ·rw[e] at hk;cases hk
  ·rw[e1] at hk;simp only[qE1,List.mem_cons,List.not_mem_nil,or_false] at hk;rcases hk with rfl|rfl
   ·exact⟨h3.bSt,_,h3.hSt,fun c t fr e=>by cases e;decide⟩
   ·obtain⟨es,c,h5⟩:=Gen.RM.obj h3.rm;exact⟨h3.bM,_,h5,fun c t fr e=>by cases e⟩
 ·rcases h.so with⟨_,_,e⟩|⟨q,e1,e2,h3,h4⟩
  ·rw[e] at hy;cases hy
  ·have hyy:=h4 y hy;rcases qE2.1 hk with rfl|rfl|hk|hk|hk
   ·exact⟨hyy.bT,_,hyy.hT,fun c t fr e=>by cases e;decide⟩
   ·exact⟨hyy.bX,_,hyy.hx,fun c t fr e=>by cases e;decide⟩
   ·obtain⟨h1,c,h2⟩:=qD4 hyy.crow k (by simp[hk]);exact⟨h1,_,h2,fun c t fr e=>by cases e;decide⟩
   ·obtain⟨c,hc,rfl⟩:=List.mem_map.1 hk;exact⟨(hyy.curs c hc).bc,_,(hyy.curs c hc).hc,fun c t fr e=>by cases e;decide⟩
   ·obtain⟨c,hc,rfl⟩:=List.mem_map.1 hk;exact⟨(hyy.curs c hc).bC,_,(hyy.curs c hc).hC,fun c t fr e=>by cases e;decide⟩
def qC1:DInv where
 G:=TG
 kf:=fun g=>qA8 g.d
 B:=fun g=>g.d.B
 tbs:=qB8
 tur:=qI4
 ok:=TOk
 kob_:=fun h=>h.d.hB
 row:=fun h=>PRow.of h.row
 tlen:=fun h=>by have:=h.ylen;simp only[qB8,List.length_map];exact this
 inB:=fun g=>qB4.2 (by simp)
 muts:=fun h=>h.muts
 keep:=fun h hK hM hL hT=>h.keep hK hM hL hT
 fresh:=fun base T w b A C m hb hA hC hT hm h1 h2 h3=>by
  have hd:Gen.DOk base T w ⟨b,A,C,m,List.replicate (m*128) 0,0,0,0,none,0,0,none,0,0,none,.slice none 0 0,.slice none 0 0,.slice none 0 0⟩:=⟨hb,hA,hC,h1,h2,h3,by simp,hm,by simp,by show (0:Int)≤6*T;omega,by simp,by show (0:Int)≤2*T;omega,by show ((0:Nat):Int)≤T;omega,World.ownsRow_nil _ _ _ _,World.ownsRow_nil _ _ _ _,.inl ⟨fun h8=>zM5 m h8,rfl,rfl⟩⟩;have hh:Held w base (qA8 ⟨b,A,C,m,List.replicate (m*128) 0,0,0,0,none,0,0,none,0,0,none,.slice none 0 0,.slice none 0 0,.slice none 0 0⟩) []:=⟨World.ownsRow_nil _ _ _ _,World.ownsRow_nil _ _ _ _,fun i hi=>(by cases hi),fun x hx=>(by cases hx)⟩;refine⟨⟨⟨b,A,C,m,List.replicate (m*128) 0,0,0,0,none,0,0,none,0,0,none,.slice none 0 0,.slice none 0 0,.slice none 0 0⟩,none,[],[]⟩,⟨hd,hh,by simpa using hT,fun x hx=>(by cases hx),World.ownsRow_nil _ _ _ _,by simpa using hT,.inl ⟨rfl,rfl,rfl⟩,List.Pairwise.nil⟩,rfl,fun i hi=>?_⟩;rcases qB4.1 hi with h|h|h|h|h|⟨y,hy,_⟩
  ·exact h
  ·cases h
  ·cases h
  ·cases h
  ·cases h
  ·cases hy
end Go.Proofs.YtdohpenfkdckiaaGreatDoor.Gm
namespace Go.Proofs.YtdohpenfkdckiaaGreatDoor.Gw
open Go.Proofs.Tryz
open Go.RowKit
theorem jA7(I:DInv)(base Wb:Nat)(T:Int)(ds:List I.G)(x y a b:Int)(s t:ByteArray)(w:World)(h:WOk I base T w Wb ds):
  Calls prog 78 #[.pointer (some ⟨Wb,0,none⟩),.agg #[.int .i64 2,.int .i64 x,.int .i64 y,.int .i64 a,.int .i64 b,.string s,.string t]] w fun e w'=>e=.returned (.bool true)∧(∃ ds',WOk I base (T+2) w' Wb ds')∧Below base w w':=by
 have h':=h;obtain⟨pk,nk,ck,xs,pd,cd,h1,h2,h3,h4⟩:=h.hW;have HH:=zh h';have hWs:=ζ h1;have hd1:=η (.cells #[.int .i64 2,.int .i64 x,.int .i64 y,.int .i64 a,.int .i64 b,.string s,.string t] 66) h1;have k0:=ξ h1 0;simp only[qF5,zG,zH,zI] at k0;have f0:=ρ h1 0;clear h h';go_enter func78,ntmps78;go_wp2;go_ret;have h:=HH.out;have hK:Kp [Wb] w ((w.setCell ⟨Wb,0,none⟩ (.slice none 0 0)).alloc (.cells #[.int .i64 2,.int .i64 x,.int .i64 y,.int .i64 a,.int .i64 b,.string s,.string t] 66)):=((Kp.refl _ _).sc _).alloc _;have hF:MutC base qH7 w [Wb]:=fun k hk=>by rw[List.mem_singleton.1 hk];exact⟨h.bW,_,_,_,h1,by decide⟩
 refine⟨rfl,⟨ds++[],h.turn hK hF (by omega) [] (by simp) (by simp) ⟨none,0,0,[],pd,cd,?_,World.ownsRow_nil _ _ _ _,by have:=h.len;simp;omega,?_⟩ (by have:=h.len;simp;omega)⟩,hK.below h.hbs (fun k hk=>(hF k hk).1)⟩
 ·rw[List.append_nil];exact η _ (μ h1 0 _)
 ·rw[List.append_nil];exact qJ7 h4 hK (fun k hk=>by rw[List.mem_singleton.1 hk];exact⟨_,_,_,h1,by decide⟩)
theorem WOk.more{I:DInv}{base:Nat}{T T':Int}{w w4 w5:World}{Wb:Nat}{ds:List I.G}(h:WOk I base T w Wb ds){pk:Option Addr}{nk ck:Nat}{xs:List Value}{pd:Option Addr}{cd:Nat}(h1:w.heap[Wb]?=some (qF5 pk nk ck pd ds.length cd))(h2:w.ownsRow base 3 1 (.slice pk nk ck) nk xs)(h3:(nk:Int)≤T)(h4:w.ownsRow base 119 1 (.slice pd ds.length cd) ds.length (qH5 I ds))
  (hK4:Kp [] w w4) (g:I.G) (hg:I.ok base T' w4 g) (hgM:∀ i∈I.tur g,w.heap.size≤i) (o:Obj) {g5 c5:Nat} (hrow5:w5.ownsRow base 119 1 (.slice (some ⟨g5,0,none⟩) (ds.length+1) c5) (ds.length+1) (qH5 I ds++[.pointer (some ⟨I.B g,0,none⟩)])) (hgr5:(w4.alloc o).grownBy w5 (Value.slice pd ds.length cd).ownBlock) (hT:T+2≤T'):
  WOk I base T' (w5.setCell ⟨Wb,1,none⟩ (.slice (some ⟨g5,0,none⟩) (ds.length+1) c5)) Wb (ds++[g])∧Below base w (w5.setCell ⟨Wb,1,none⟩ (.slice (some ⟨g5,0,none⟩) (ds.length+1) c5)):=by
 have hat:=qD4 h4;have hlt:=ζ h1;generalize hS:(Value.slice pd ds.length cd).ownBlock=r at *;have hWS:Wb ∉ r.toList:=fun hm=>by
  obtain⟨_,c,hc⟩:=hat _ hm;rw[h1] at hc;cases hc
 have hK5:Kp r.toList w w5:=((hK4.mono (S':=r.toList) (by simp)).alloc o).grown hgr5 (fun k hk=>Or.inl (by simp[hk]));have hW5:=hK5.heap h1 hWS;have hK:Kp (Wb::r.toList) w (w5.setCell ⟨Wb,1,none⟩ (.slice (some ⟨g5,0,none⟩) (ds.length+1) c5)):=(hK5.mono (S':=Wb::r.toList) (fun i hi _=>List.mem_cons_of_mem _ hi)).sc _;have hF:MutC base qH7 w (Wb::r.toList):=fun k hk=>by
  rcases List.mem_cons.1 hk with rfl|hk
  ·exact⟨h.bW,_,_,_,h1,by decide⟩
  ·obtain⟨hb,c,hc⟩:=hat _ hk;exact⟨hb,_,_,_,hc,by decide⟩
 have hKg:Kp (Wb::r.toList) w4 (w5.setCell ⟨Wb,1,none⟩ (.slice (some ⟨g5,0,none⟩) (ds.length+1) c5)):=(((Kp.refl _ _).alloc o).grown hgr5 (fun k hk=>Or.inl (by simp[hk]))).sc _;have hold:∀ k,w.heap.size≤k→k ∉ Wb::r.toList:=fun k hk hm=>by
  obtain⟨_,_,_,_,hc,_⟩:=hF k hm;have:=ζ hc;omega
 have hFm:∀ i∈Wb::r.toList,i ∉ I.tur g:=fun i hi hm=>hold _ (hgM i hm) hi;have hF4:Muts base (qH7++qH0) w4 (Wb::r.toList):=fun k hk=>by
  obtain⟨h1,c,t,fr,h2,h3⟩:=hF k hk;exact⟨h1,_,hK4.hp h2,fun c' t' fr' e=>by cases e;exact List.mem_append_left _ h3⟩
 have hg':I.ok base T' (w5.setCell ⟨Wb,1,none⟩ (.slice (some ⟨g5,0,none⟩) (ds.length+1) c5)) g:=I.keep hg hKg hF4 hFm (Int.le_refl _);have hl:=h.len;refine⟨h.turn hK hF (by omega) [g] (fun x hx=>by rw[List.mem_singleton.1 hx];exact⟨hg',hgM⟩) (by simp) ⟨pk,nk,ck,xs,some ⟨g5,0,none⟩,c5,?_,qJ7 h2 hK (fun k hk=>?_),by omega,?_⟩ (by simp;omega),hK.below h.hbs (fun k hk=>(hF k hk).1)⟩
 ·rw[List.length_append];exact μ hW5 1 _
 ·rcases List.mem_cons.1 hk with rfl|hk
  ·exact⟨_,_,_,h1,by decide⟩
  ·obtain⟨hb,c,hc⟩:=hat _ hk;exact⟨_,_,_,hc,by decide⟩
 ·have e:qH5 I (ds++[g])=qH5 I ds++[.pointer (some ⟨I.B g,0,none⟩)]:=by simp[qH5]
  rw[e,List.length_append];exact qJ7 hrow5 (S:=[Wb]) ((Kp.refl _ _).sc _) (fun k hk=>by rw[List.mem_singleton.1 hk];exact⟨_,_,_,hW5,by decide⟩)
theorem jA4(I:DInv)(base Wb:Nat)(T:Int)(ds:List I.G)(x y a b:Int)(s t:ByteArray)(w:World)(h:WOk I base T w Wb ds)(hT:T≤50000):
  Calls prog 78 #[.pointer (some ⟨Wb,0,none⟩),.agg #[.int .i64 3,.int .i64 x,.int .i64 y,.int .i64 a,.int .i64 b,.string s,.string t]] w fun e w'=>e=.returned (.bool true)∧(∃ ds',WOk I base (T+2) w' Wb ds')∧Below base w w':=by
 have h':=h;obtain⟨pk,nk,ck,xs,pd,cd,h1,h2,h3,h4⟩:=h.hW;have HH:=zh h';have hWs:=ζ h1;obtain⟨m,hm,hblk,hnew⟩:=xG0 a;have HBL:=zh hblk;have HND:=zh hnew;clear h h' hblk hnew;go_enter func78,ntmps78
 go_wp2_with (go_at_call 122;refine (HBL.out _).mono ?_;rintro e w' ⟨rfl,rfl⟩)
 refine (HND.out _).mono ?_;rintro e w3 ⟨rfl,rfl⟩;have hsz:((w.alloc (.cells #[.int .i64 3,.int .i64 x,.int .i64 y,.int .i64 a,.int .i64 b,.string s,.string t] 66)).alloc (.cells #[.pointer none,.int .i64 m,.slice none 0 0,.bool false,.slice none 0 0,.bool false,.bool false,.pointer none,.slice none 0 0,.int .i64 0,.bool false,.slice none 0 0,.slice none 0 0,.slice none 0 0] 130)).heap.size=w.heap.size+2:=by simp
 rw[hsz];obtain⟨w3,hw3,hD3,hC3,hA3,hK3,hs3⟩:∃ w3,w3=((((w.alloc (.cells #[.int .i64 3,.int .i64 x,.int .i64 y,.int .i64 a,.int .i64 b,.string s,.string t] 66)).alloc (.cells #[.pointer none,.int .i64 m,.slice none 0 0,.bool false,.slice none 0 0,.bool false,.bool false,.pointer none,.slice none 0 0,.int .i64 0,.bool false,.slice none 0 0,.slice none 0 0,.slice none 0 0] 130)).alloc (.cells (enc (List.replicate (m*128) 0)) 115)).alloc (qA1 m (w.heap.size+2) (.slice none 0 0) 0 0))∧w3.heap[w.heap.size+1]?=some (.cells #[.pointer none,.int .i64 m,.slice none 0 0,.bool false,.slice none 0 0,.bool false,.bool false,.pointer none,.slice none 0 0,.int .i64 0,.bool false,.slice none 0 0,.slice none 0 0,.slice none 0 0] 130)∧w3.heap[w.heap.size+2]?=some (.cells (enc (List.replicate (m*128) 0)) 115)∧w3.heap[w.heap.size+3]?=some (qA1 m (w.heap.size+2) (.slice none 0 0) 0 0)∧Kp [] w w3∧w3.heap.size=w.heap.size+4:=by
  generalize Obj.cells #[.int .i64 3,.int .i64 x,.int .i64 y,.int .i64 a,.int .i64 b,.string s,.string t] 66=o1;generalize Obj.cells #[.pointer none,.int .i64 m,.slice none 0 0,.bool false,.slice none 0 0,.bool false,.bool false,.pointer none,.slice none 0 0,.int .i64 0,.bool false,.slice none 0 0,.slice none 0 0,.slice none 0 0] 130=o2;generalize Obj.cells (enc (List.replicate (m*128) 0)) 115=o3;generalize qA1 m (w.heap.size+2) (.slice none 0 0) 0 0=o4;refine⟨_,rfl,η _ (η _ ?_),η _ ?_,?_,((((Kp.refl _ _).alloc _).alloc _).alloc _).alloc _,by simp⟩
  ·have e:=κ (w.alloc o1) o2;simpa using e
  ·have e:=κ ((w.alloc o1).alloc o2) o3;simpa using e
  ·have e:=κ (((w.alloc o1).alloc o2).alloc o3) o4;simpa using e
 rw[←hw3];clear hw3 hsz;have hW3:=hK3.hp h1;have h23:=qJ7 h2 hK3 (Apart.nil _ _);have h43:=qJ7 h4 hK3 (Apart.nil _ _);obtain⟨w4,hw4,hD4,hC4,hA4,hW4,hK4,hs4⟩:∃ w4,w4=w3.setCell ⟨w.heap.size+1,0,none⟩ (.pointer (some ⟨w.heap.size+3,0,none⟩))∧w4.heap[w.heap.size+1]?=some (kob ⟨w.heap.size+3,m,.slice none 0 0,false,.slice none 0 0,false,false,none,.slice none 0 0,0,false,.slice none 0 0,.slice none 0 0,.slice none 0 0⟩)∧w4.heap[w.heap.size+2]?=some (.cells (enc (List.replicate (m*128) 0)) 115)∧w4.heap[w.heap.size+3]?=some (qA1 m (w.heap.size+2) (.slice none 0 0) 0 0)∧w4.heap[Wb]?=some (qF5 pk nk ck pd ds.length cd)∧Kp [] w w4∧w4.heap.size=w.heap.size+4:=
  ⟨_,rfl,μ hD3 0 _,(qA4 (by omega) _ _).trans hC3,(qA4 (by omega) _ _).trans hA3,(qA4 (by omega) _ _).trans hW3,hK3.setCell (Or.inr (by simp)) _,by simp[World.setCell,hs3]⟩
 have h24:=qJ7 h2 hK4 (Apart.nil _ _);have h44:=qJ7 h4 hK4 (Apart.nil _ _);have hl:=HH.out.len;have hbs:=HH.out.hbs;obtain⟨v5,w5,hr5,hrow5,hgr5⟩:=zS1 (w4.alloc (.cells #[.pointer (some ⟨w.heap.size+1,0,none⟩)] 119)) base w4.heap.size (.slice pd ds.length cd) ds.length (qH5 I ds) (.pointer (some ⟨w.heap.size+1,0,none⟩)) 68 119 68 (.pointer none) underlying68 xN2 rfl (h44.alloc _) (by omega) (κ _ _) rfl (by simp;omega);obtain⟨g5,c5,rfl⟩:=qM9 hrow5;have hgr:=zh hgr5;have hrw:=zh hrow5;have hW5:w5.heap[Wb]?=some (qF5 pk nk ck pd ds.length cd):=by
  have hat:=qD4 h44;refine Kp.heap (S:=(Value.slice pd ds.length cd).ownBlock.toList) (((Kp.refl _ w4).alloc _).grown hgr5 (fun k hk=>Or.inl (by simp[hk]))) hW4 (fun hm=>?_);obtain⟨_,c,hc⟩:=hat _ hm;rw[hW4] at hc;cases hc
 have HDOk:Hid (∃ g,I.ok base (T+2) w4 g∧I.B g=w.heap.size+1∧∀ i∈I.tur g,w.heap.size≤i):=by
  have hT0:=HH.out.len;obtain⟨g,q1,q2,q3⟩:=I.fresh base (T+2) w4 (w.heap.size+1) (w.heap.size+3) (w.heap.size+2) m (by omega) (by omega) (by omega) (by omega) hm hD4 hA4 hC4;exact⟨g,q1,q2,fun i hi=>by rcases q3 i hi with h | h | h<;>omega⟩
 have HK4:=zh hK4;have d0:=ξ hD3 0;simp only[zG,zH,zI] at d0;have fd0:=ρ hD3 0;have u1:=ξ hW4 1;simp only[qF5,zG,zH,zI] at u1;have v1:=ξ hW5 1;simp only[qF5,zG,zH,zI] at v1;have fv1:=ρ hW5 1;have HW4:=zh hw4;have hz4:w4.heap.size=w3.heap.size:=by rw[hs4,hs3]
 rw[hz4] at hr5;rw[hw4] at hr5 u1;clear hz4;have H1:Hid (w.heap[Wb]?=some (qF5 pk nk ck pd ds.length cd)∧w.ownsRow base 3 1 (.slice pk nk ck) nk xs∧(nk:Int)≤T∧w.ownsRow base 119 1 (.slice pd ds.length cd) ds.length (qH5 I ds)):=⟨h1,h2,h3,h4⟩;clear hrow5 hgr5 hw4 hs3 hs4 hK3 hK4 hD3 hC3 hA3 hW3 h23 h43 hD4 hC4 hA4 hW4 h24 h44 h1 h2 h3 h4 hW5
 go_wp2_with (at_builtin;((with_reducible refine qS0 ?_ ?_ hr5 ?_);rfl;rfl))
 go_ret;obtain⟨h1,h2,h3,h4⟩:=H1.out;obtain⟨gn,g1,g2,g3⟩:=HDOk.out;have hrw':=hrw.out;rw[←g2] at hrw';obtain⟨q1,q2⟩:=HH.out.more h1 h2 h3 h4 HK4.out gn g1 g3 _ hrw' hgr.out (Int.le_refl _);exact⟨rfl,⟨_,q1⟩,q2⟩
theorem WOk.grew{I:DInv}{base:Nat}{T T':Int}{w w4 w5:World}{Wb:Nat}{ds:List I.G}(h:WOk I base T w Wb ds){pk:Option Addr}{nk ck:Nat}{xs ys:List Value}{pd:Option Addr}{cd:Nat}(h1:w.heap[Wb]?=some (qF5 pk nk ck pd ds.length cd))(h2:w.ownsRow base 3 1 (.slice pk nk ck) nk xs)(h3:(nk:Int)≤T)(h4:w.ownsRow base 119 1 (.slice pd ds.length cd) ds.length (qH5 I ds))
  (hK4:Kp [] w w4) (o:Obj) {g5 c5:Nat} (hrow5:w5.ownsRow base 3 1 (.slice (some ⟨g5,0,none⟩) (nk+1) c5) (nk+1) ys) (hgr5:(w4.alloc o).grownBy w5 (Value.slice pk nk ck).ownBlock) (hT:T+2≤T'):
  WOk I base T' (w5.setCell ⟨Wb,0,none⟩ (.slice (some ⟨g5,0,none⟩) (nk+1) c5)) Wb (ds++[])∧Below base w (w5.setCell ⟨Wb,0,none⟩ (.slice (some ⟨g5,0,none⟩) (nk+1) c5)):=by
 have hat:=qD4 h2;have hlt:=ζ h1;generalize hS:(Value.slice pk nk ck).ownBlock=r at *;have hWS:Wb ∉ r.toList:=fun hm=>by
  obtain⟨_,c,hc⟩:=hat _ hm;rw[h1] at hc;cases hc
 have hK5:Kp r.toList w w5:=((hK4.mono (S':=r.toList) (by simp)).alloc o).grown hgr5 (fun k hk=>Or.inl (by simp[hk]));have hW5:=hK5.heap h1 hWS;have hK:Kp (Wb::r.toList) w (w5.setCell ⟨Wb,0,none⟩ (.slice (some ⟨g5,0,none⟩) (nk+1) c5)):=(hK5.mono (S':=Wb::r.toList) (fun i hi _=>List.mem_cons_of_mem _ hi)).sc _;have hF:MutC base qH7 w (Wb::r.toList):=fun k hk=>by
  rcases List.mem_cons.1 hk with rfl|hk
  ·exact⟨h.bW,_,_,_,h1,by decide⟩
  ·obtain⟨hb,c,hc⟩:=hat _ hk;exact⟨hb,_,_,_,hc,by decide⟩
 have hl:=h.len;refine⟨h.turn hK hF (by omega) [] (by simp) (by simp) ⟨some ⟨g5,0,none⟩,nk+1,c5,ys,pd,cd,?_,?_,by omega,?_⟩ (by simp;omega),hK.below h.hbs (fun k hk=>(hF k hk).1)⟩
 ·rw[List.append_nil];exact μ hW5 0 _
 ·exact qJ7 hrow5 (S:=[Wb]) ((Kp.refl _ _).sc _) (fun k hk=>by rw[List.mem_singleton.1 hk];exact⟨_,_,_,hW5,by decide⟩)
 ·rw[List.append_nil];exact qJ7 h4 hK (fun k hk=>by
   rcases List.mem_cons.1 hk with rfl|hk
   ·exact⟨_,_,_,h1,by decide⟩
   ·obtain⟨hb,c,hc⟩:=hat _ hk;exact⟨_,_,_,hc,by decide⟩)
theorem jA5(I:DInv)(base Wb:Nat)(T:Int)(ds:List I.G)(x y a b:Int)(s t:ByteArray)(w:World)(h:WOk I base T w Wb ds)(hT:T≤50000):
  Calls prog 78 #[.pointer (some ⟨Wb,0,none⟩),.agg #[.int .i64 1,.int .i64 x,.int .i64 y,.int .i64 a,.int .i64 b,.string s,.string t]] w fun e w'=>e=.returned (.bool true)∧(∃ ds',WOk I base (T+2) w' Wb ds')∧Below base w w':=by
 have h':=h;obtain⟨pk,nk,ck,xs,pd,cd,h1,h2,h3,h4⟩:=h.hW;have HH:=zh h';have hWs:=ζ h1;have hbs:=h.hbs;have H1:Hid (w.heap[Wb]?=some (qF5 pk nk ck pd ds.length cd)∧w.ownsRow base 3 1 (.slice pk nk ck) nk xs∧(nk:Int)≤T∧w.ownsRow base 119 1 (.slice pd ds.length cd) ds.length (qH5 I ds)):=⟨h1,h2,h3,h4⟩;clear h h';go_enter func78,ntmps78;go_wp2_with fail;obtain⟨W1,hW1,hO1,hWb1,hK1⟩:∃ W1,W1=w.alloc (.cells #[.int .i64 1,.int .i64 x,.int .i64 y,.int .i64 a,.int .i64 b,.string s,.string t] 66)∧W1.heap[w.heap.size]?=some (.cells #[.int .i64 1,.int .i64 x,.int .i64 y,.int .i64 a,.int .i64 b,.string s,.string t] 66)∧W1.heap[Wb]?=some (qF5 pk nk ck pd ds.length cd)∧Kp [] w W1:=⟨_,rfl,κ _ _,η _ h1,(Kp.refl _ _).alloc _⟩;rw[←hW1];clear hW1;have h2d:W1.drew.ownsRow base 3 1 (.slice pk nk ck) nk xs:=qJ7 h2 hK1.drew (Apart.nil _ _);have hs1:=hK1.size;obtain⟨v5,w5,hr5,hrow5,hgr5⟩:=zS1 (W1.drew.alloc (.cells #[.int .i64 a] 3)) base W1.drew.heap.size (.slice pk nk ck) nk xs (.int .i64 a) 24 3 24 (.int .i64 0) underlying24 qW6 rfl (h2d.alloc _) (by omega) (κ _ _) rfl (by simp;omega);obtain⟨g5,c5,rfl⟩:=qM9 hrow5;have hW5:w5.heap[Wb]?=some (qF5 pk nk ck pd ds.length cd):=by
  have hat:=qD4 h2d;refine Kp.heap (S:=(Value.slice pk nk ck).ownBlock.toList) (((Kp.refl _ W1.drew).alloc _).grown hgr5 (fun k hk=>Or.inl (by simp[hk]))) hWb1 (fun hm=>?_);obtain⟨_,c,hc⟩:=hat _ hm;rw[show W1.drew.heap[Wb]?=W1.heap[Wb]? from rfl,hWb1] at hc;cases hc
 have HG:=zh hgr5;have HR:=zh hrow5;have HK:=zh hK1;have k0:=ξ hWb1 0;simp only[qF5,zG,zH,zI] at k0;have o3:=ξ hO1 3;simp only[zG,zH,zI] at o3;have v0:=ξ hW5 0;simp only[qF5,zG,zH,zI] at v0;have fv0:=ρ hW5 0;have hWs1:=ζ hWb1;have hOs1:=ζ hO1;clear hrow5 hgr5 hK1 hW5 h1 h2 h3 h4 h2d hs1 hWb1 hO1;refine wp_region_any (by kernel_rfl) ?_;change wpAny _ _ _ _ _ _ _ (World.drew _);refine zu 0 (.pointer (some ⟨Wb,0,none⟩)) ?_;refine zu 1 (.pointer (some ⟨Wb,0,none⟩)) ?_;refine zu 2 (.pointer (some ⟨Wb,0,none⟩)) ?_;refine zu 3 (.pointer (some ⟨Wb,0,none⟩)) ?_;refine zu 5 (.pointer (some ⟨w.heap.size,3,none⟩)) ?_;refine wpAny_ready (rs:=[4,6]) (by kernel_rfl) (by simp) ?_;refine AllReady.cons rfl (fun K hK=>?_) (AllReady.cons rfl (fun K hK=>?_) AllReady.nil)
 ·go_simp;refine hK _ _ ?_;clear hK K
  try simp only[zZ]
  refine zQ 6 fun K hK=>?_;go_simp;refine hK _ _ ?_;clear hK K
  try simp only[zZ]
  refine zQ 7 fun K hK=>?_;refine qG7 rfl (qQ6 rfl (.int .i64 a) _ _ _ underlying24 qW6 rfl rfl (by decide) (by decide)) ?_;refine hK _ _ ?_;clear hK K
  try simp only[zZ]
  refine zQ 8 fun K hK=>?_;refine qG7 rfl (zB6 rfl rfl rfl hr5) ?_;refine hK _ _ ?_;clear hK K
  try simp only[zZ]
  refine zu 9 (.pointer (some ⟨Wb,0,none⟩)) ?_;refine zu 10 (.pointer (some ⟨Wb,0,none⟩)) ?_;refine zQ 11 fun K hK=>?_;go_simp;refine hK _ _ ?_;clear hK K;refine wpAny_done (by kernel_rfl) ?_ _;go_wp2;go_ret;obtain⟨h1,h2,h3,h4⟩:=H1.out;obtain⟨q1,q2⟩:=HH.out.grew h1 h2 h3 h4 HK.out.drew _ HR.out HG.out (Int.le_refl _);exact⟨rfl,⟨_,q1⟩,q2⟩
 ·go_simp;refine hK _ _ ?_;clear hK K
  try simp only[zZ]
  refine wpAny_ready (rs:=[4,7]) (by kernel_rfl) (by simp) ?_;refine AllReady.cons rfl (fun K hK=>?_) (AllReady.cons rfl (fun K hK=>?_) AllReady.nil)
  ·go_simp;refine hK _ _ ?_;clear hK K
   try simp only[zZ]
   refine zQ 7 fun K hK=>?_;refine qG7 rfl (qQ6 rfl (.int .i64 a) _ _ _ underlying24 qW6 rfl rfl (by decide) (by decide)) ?_;refine hK _ _ ?_;clear hK K
   try simp only[zZ]
   refine zQ 8 fun K hK=>?_;refine qG7 rfl (zB6 rfl rfl rfl hr5) ?_;refine hK _ _ ?_;clear hK K
   try simp only[zZ]
   refine zu 9 (.pointer (some ⟨Wb,0,none⟩)) ?_;refine zu 10 (.pointer (some ⟨Wb,0,none⟩)) ?_;refine zQ 11 fun K hK=>?_;go_simp;refine hK _ _ ?_;clear hK K;refine wpAny_done (by kernel_rfl) ?_ _;go_wp2;go_ret;obtain⟨h1,h2,h3,h4⟩:=H1.out;obtain⟨q1,q2⟩:=HH.out.grew h1 h2 h3 h4 HK.out.drew _ HR.out HG.out (Int.le_refl _);exact⟨rfl,⟨_,q1⟩,q2⟩
  ·refine qG7 rfl (qQ6 rfl (.int .i64 a) _ _ _ underlying24 qW6 rfl rfl (by decide) (by decide)) ?_;refine hK _ _ ?_;clear hK K
   try simp only[zZ]
   refine zQ 4 fun K hK=>?_;go_simp;refine hK _ _ ?_;clear hK K
   try simp only[zZ]
   refine zQ 8 fun K hK=>?_;refine qG7 rfl (zB6 rfl rfl rfl hr5) ?_;refine hK _ _ ?_;clear hK K
   try simp only[zZ]
   refine zu 9 (.pointer (some ⟨Wb,0,none⟩)) ?_;refine zu 10 (.pointer (some ⟨Wb,0,none⟩)) ?_;refine zQ 11 fun K hK=>?_;go_simp;refine hK _ _ ?_;clear hK K;refine wpAny_done (by kernel_rfl) ?_ _;go_wp2;go_ret;obtain⟨h1,h2,h3,h4⟩:=H1.out;obtain⟨q1,q2⟩:=HH.out.grew h1 h2 h3 h4 HK.out.drew _ HR.out HG.out (Int.le_refl _);exact⟨rfl,⟨_,q1⟩,q2⟩
def qV0(I:DInv)(ks:List Int):Prop:=∀ (base Wb:Nat) (T:Int) (ds:List I.G) (o:SOp) (w:World),WOk I base T w Wb ds→Fit ks o→0≤T→T≤40000→
 Calls prog 40 #[.pointer (some ⟨Wb,0,none⟩),.agg #[.int .i64 o.k,.int .i64 o.x,.int .i64 o.y,.int .i64 o.a,.int .i64 o.b,.string o.s,.string o.t]] w fun e w'=>e=.returned (.bool true)∧(∃ ds',WOk I base (T+2) w' Wb ds')∧Below base w w'
theorem jH2(I:DInv)(ks:List Int)(ST:qV0 I ks)(p:Option Addr)(n cap:Nat)(f:Nat→SOp)(w:World)(hn:n≤16384)(h0:0<w.heap.size)(hg:w.cell? ⟨0,0,none⟩=some qB5)(hS:Script w p n f)(hf:∀ i,i<n→Fit ks (f i)):
  Calls prog 17 #[.slice p n cap] w fun e w'=>e=.returned (.int .i64 (-1))∧Kp [] w w':=by
 have HS:=zh hS;have HF:=zh hf;have hK0:Kp [] w (w.alloc (qF5 none 0 0 none 0 0)):=(Kp.refl _ _).alloc _;have HW:Hid (WOk I w.heap.size 0 (w.alloc (qF5 none 0 0 none 0 0)) w.heap.size []):=by
  exact⟨h0,by simp,(hK0.cell (a:=⟨0,0,none⟩) h0 (by simp)).trans hg,Nat.le_refl _,⟨none,0,0,[],none,0,κ _ _,World.ownsRow_nil _ _ _ _,by simp,World.ownsRow_nil _ _ _ _⟩,by simp,by simp,List.Pairwise.nil⟩
 have HB:Hid (Below w.heap.size w (w.alloc (qF5 none 0 0 none 0 0))):=hK0.below (Nat.le_refl _) (by simp);clear hS hf h0 hg hK0;go_enter func17,ntmps17;go_wp2
 go_loopw [4] (fun i wr=>∃ (j:Nat) (ds:List I.G),j≤n∧i=.int .i64 j∧WOk I w.heap.size (2*j) wr w.heap.size ds∧Below w.heap.size w wr) (fun i _=>n-(intOf i).toNat)
 case atStart=>exact⟨0,[],Nat.zero_le _,rfl,HW.out,HB.out⟩
 case round=>
  obtain⟨j,ds,hj,rfl,hW,hB⟩:=hrel;have HW1:=zh hW;have HB1:=zh hB;clear hW hB;by_cases hlt:j<n
  ·obtain⟨blk,off,rfl,hblk,hcell⟩:=(HS.out.keep (Kp.of_below HB1.out (Nat.le_refl _))) (by omega);have c0:=hcell j hlt 0 (by decide);have c1:=hcell j hlt 1 (by decide);have c2:=hcell j hlt 2 (by decide);have c3:=hcell j hlt 3 (by decide);have c4:=hcell j hlt 4 (by decide);have c5:=hcell j hlt 5 (by decide);have c6:=hcell j hlt 6 (by decide);simp only[SOp.cells,zH,zI,Nat.add_zero] at c0 c1 c2 c3 c4 c5 c6;have hjb:(j:Int)<(n:Int):=by omega
   clear hcell;go_wp2_with fail;refine (ST w.heap.size w.heap.size (2*j) ds (f j) wr HW1.out (HF.out j hlt) (by omega) (by omega)).mono ?_;rintro e w2 ⟨rfl,⟨ds',hW2⟩,hB2⟩;have HW2:=zh hW2;have HB2:=zh hB2;clear hW2 hB2;go_wp2;exact⟨⟨j+1,ds',by omega,by go_num,by have h:=HW2.out;rw[show ((2*j+2:Int))=2*((j+1:Nat):Int) by omega] at h;exact h,HB1.out.trans HB2.out⟩,by simp[intOf];omega⟩
  ·have hjb:¬(j:Int)<(n:Int):=by omega
   go_wp2;go_ret;exact⟨rfl,Kp.of_below HB1.out (Nat.le_refl _)⟩
structure DOps(I:DInv)(ks:List Int):Prop where
 fmt:∀ (base:Nat) (T:Int) (w:World) (g:I.G),I.ok base T w g→0≤T→T≤40000→0<base→base≤w.heap.size→w.cell? ⟨0,0,none⟩=some qB5→
  Calls prog 80 #[.pointer (some ⟨I.B g,0,none⟩)] w fun e w'=>e=.returned (.bool true)∧DStep I base (T+2) w w' g
 opn:∀ (base:Nat) (T:Int) (w:World) (g:I.G),I.ok base T w g→0≤T→T≤40000→0<base→base≤w.heap.size→w.cell? ⟨0,0,none⟩=some qB5→
  Calls prog 81 #[.pointer (some ⟨I.B g,0,none⟩)] w fun e w'=>e=.returned (.bool true)∧DStep I base (T+2) w w' g
 beg:∀ (base:Nat) (T:Int) (w:World) (g:I.G),I.ok base T w g→0≤T→T≤40000→0<base→base≤w.heap.size→w.cell? ⟨0,0,none⟩=some qB5→(I.kf g).x≠none→∀ wrt:Bool,
  Calls prog 82 #[.pointer (some ⟨I.B g,0,none⟩),.bool wrt] w fun e w'=>e=.returned (.bool true)∧DStep I base (T+2) w w' g
 txn:∀ (base:Nat) (T:Int) (w:World) (g:I.G),I.ok base T w g→0≤T→T≤40000→0<base→base≤w.heap.size→w.cell? ⟨0,0,none⟩=some qB5→(I.kf g).x≠none→∀ (j:Nat) (hj:j<(I.tbs g).length) (o:SOp),13≤o.k→o.k∈ks→SFits o→
  Calls prog 83 #[.pointer (some ⟨I.B g,0,none⟩),.pointer (some ⟨(I.tbs g)[j],0,none⟩),.agg #[.int .i64 o.k,.int .i64 o.x,.int .i64 o.y,.int .i64 o.a,.int .i64 o.b,.string o.s,.string o.t]] w fun e w'=>e=.returned (.bool true)∧DStep I base (T+2) w w' g
 looks:∀ (base:Nat) (T:Int) (w:World) (g:I.G),I.ok base T w g→0≤T→T≤50000→
  Calls prog 84 #[.pointer (some ⟨I.B g,0,none⟩)] w fun e w'=>e=.returned (.bool true)∧Kp [] w w'
def qP1(I:DInv)(base Wb:Nat)(T:Int)(w w':World):Prop:=(∃ ds',WOk I base (T+2) w' Wb ds')∧Below base w w'
theorem WOk.done{I:DInv}{base Wb:Nat}{T:Int}{w w1 w2:World}{ds:List I.G}(h:WOk I base T w Wb ds)(hK:Kp [] w w1)(j:Nat)(hj:j<ds.length)(hs:DStep I base (T+2) w1 w2 ds[j]):qP1 I base Wb T w w2:=by
 have h1:=h.same hK (Int.le_refl _);exact⟨h1.one j hj hs (by omega),(hK.below h.hbs (by simp)).trans (hs.below (h1.all _ (List.getElem_mem hj)) h1.hbs)⟩
theorem WOk.idle{I:DInv}{base Wb:Nat}{T:Int}{w w1:World}{ds:List I.G}(h:WOk I base T w Wb ds)(hK:Kp [] w w1):qP1 I base Wb T w w1:=
 ⟨⟨ds,h.same hK (by omega)⟩,hK.below h.hbs (by simp)⟩
theorem jB8{I:DInv}{cur:Array Value}{ds:List I.G}(h:cur.toList.take (ds.length*1)=qH5 I ds)(j:Nat)(hj:j<ds.length):cur[j]?=some (.pointer (some ⟨I.B ds[j],0,none⟩)):=by
 have e:(qH5 I ds)[j]?=some (.pointer (some ⟨I.B ds[j],0,none⟩)):=by simp[qH5,hj]
 rw[←h,List.getElem?_take_of_lt (by omega)] at e;simpa using e
theorem jF0(I:DInv)(ks:List Int)(O:DOps I ks)(base Wb:Nat)(T:Int)(ds:List I.G)(k x y a b:Int)(s t:ByteArray)(w:World)(h:WOk I base T w Wb ds)(hT0:0≤T)(hT:T≤40000)(hf:SFits ⟨k,x,y,a,b,s,t⟩)(hkk:k∈ks)(hk10:10≤k)(hk20:k≤20)(hd:ds.length≠0):
  Calls prog 40 #[.pointer (some ⟨Wb,0,none⟩),.agg #[.int .i64 k,.int .i64 x,.int .i64 y,.int .i64 a,.int .i64 b,.string s,.string t]] w fun e w'=>e=.returned (.bool true)∧qP1 I base Wb T w w':=by
 have hbs0:=h.hbs;have hK0:Kp [] w (w.alloc (.cells #[.int .i64 k,.int .i64 x,.int .i64 y,.int .i64 a,.int .i64 b,.string s,.string t] 66)):=(Kp.refl _ _).alloc _;have HK0:=zh hK0;have HH:=zh h;have HF:Hid (SFits ⟨k,x,y,a,b,s,t⟩∧k∈ks):=⟨hf,hkk⟩;have hx0:=hf.x.1;have hx1:=hf.x.2;have hy0:=hf.y.1;have hy1:=hf.y.2;simp only at hx0 hx1 hy0 hy1;clear h hK0 hf hkk;have hb20:¬20<k:=by omega
 have hb10:¬k<10:=by omega
 go_enter func40,ntmps40;go_wp2_with fail;refine (zR2 Wb k x y a b s t _ (by omega)).mono ?_;rintro e w1 ⟨rfl,hK1⟩;have HK1:Hid (Kp [] w w1):=HK0.out.tr hK1;have HH1:Hid (WOk I base T w1 Wb ds):=HH.out.same HK1.out (Int.le_refl _);have hO1:=hK1.heap (κ w (.cells #[.int .i64 k,.int .i64 x,.int .i64 y,.int .i64 a,.int .i64 b,.string s,.string t] 66)) (by simp);obtain⟨pk,nk,ck,xs,pd,cd,hWb1,h2,h3,h4⟩:=HH1.out.hW;obtain⟨gd,cur,rfl,hgd,hR1,hcur⟩:=jA3 h4 (by omega);have hWs:=ζ hWb1;have hOs:=ζ hO1;have hgs:=ζ hR1;have hl:=HH1.out.len;have hn0:¬((ds.length:Int)=0):=by omega
 have k1:=ξ hWb1 1;simp only[qF5,zG,zH,zI] at k1;have o0:=ξ hO1 0;simp only[zG,zH,zI] at o0;clear h2 h3 h4 hK1;go_wp2_with fail
 ·rename_i hbr;exfalso;simp at hbr;rcases hbr with (hbr|hbr)|hbr
  ·exact hd (by simp[hbr])
  ·omega
  ·omega
 have hS0:w1.drew.heap[Wb]?=some (qF5 pk nk ck (some ⟨gd,0,none⟩) ds.length cd)∧w1.drew.heap[w.heap.size]?=some (.cells #[.int .i64 k,.int .i64 x,.int .i64 y,.int .i64 a,.int .i64 b,.string s,.string t] 66)∧w1.drew.heap[gd]?=some (.cells cur 119):=⟨hWb1,hO1,hR1⟩;refine wp_region_held_drew (S:=fun W=>W.heap[Wb]?=some (qF5 pk nk ck (some ⟨gd,0,none⟩) ds.length cd)∧W.heap[w.heap.size]?=some (.cells #[.int .i64 k,.int .i64 x,.int .i64 y,.int .i64 a,.int .i64 b,.string s,.string t] 66)∧W.heap[gd]?=some (.cells cur 119)) (by kernel_rfl) hS0 (fun _=>?_);refine zP 0 Wb 0 hS0 ?_;refine zP 1 Wb 0 hS0 ?_;refine zP 2 Wb 1 hS0 ?_;refine zV 3 (.slice (some ⟨gd,0,none⟩) ds.length cd) rfl (fun W hS=>by have c:=ξ hS.1 1;simp[qF5] at c;clear hS;go_simp) hS0 ?_;refine zP 4 w.heap.size 1 hS0 ?_;refine zV 5 (.int .i64 x) rfl (fun W hS=>by have c:=ξ hS.2.1 1;simp at c;clear hS;go_simp) hS0 ?_;refine zP 6 Wb 0 hS0 ?_;refine zP 7 Wb 0 hS0 ?_;refine zP 8 Wb 1 hS0 ?_;refine zV 9 (.slice (some ⟨gd,0,none⟩) ds.length cd) rfl (fun W hS=>by have c:=ξ hS.1 1;simp[qF5] at c;clear hS;go_simp) hS0 ?_;refine zU 10 (.int .i64 ds.length) hS0 ?_;refine zq 11 fun K hK=>?_;go_simp;refine (qX8 x ds.length _ hx0 hx1 (by omega) (by omega)).mono ?_;rintro e w2 ⟨j,rfl,hj,rfl⟩;refine hK.out _ _ hS0 (fun _=>?_);clear hK K
 try simp only[zZ]
 refine zU 12 (.pointer (some ⟨gd,j,none⟩)) hS0 ?_;refine zV 13 (.pointer (some ⟨I.B ds[j],0,none⟩)) rfl (fun W hS=>by have c:=ξ hS.2.2 j;rw[jB8 hcur j hj] at c;clear hS;go_simp) hS0 ?_;refine zU 14 (.pointer (some ⟨I.B ds[j],0,none⟩)) hS0 ?_;refine zd ?_;have HO1:=zh hO1;have HKD:=zh HK1.out.drew;have HGJ:Hid (I.ok base T w1.drew ds[j]):=(HH1.out.same (Kp.refl [] _).drew (Int.le_refl _)).all _ (List.getElem_mem hj);have HG0:Hid (w1.drew.cell? ⟨0,0,none⟩=some qB5):=(HH1.out.same (Kp.refl [] _).drew (Int.le_refl _)).g0;have HBS:=zh HH1.out.hbs;clear hS0 hcur hR1 hWb1 hO1 k1 hgs hWs o0 hOs;have hOs:=ζ HO1.out;have hO1:=HO1.out;have o0:=ξ hO1 0;simp only[zG,zH,zI] at o0;clear hO1;by_cases e10:k=10
 ·subst e10;go_wp2_with fail;refine (O.fmt base T w1.drew _ HGJ.out hT0 hT HH.out.hb HBS.out HG0.out).mono ?_;rintro e w2 ⟨rfl,hs⟩;have HX:Hid (qP1 I base Wb T w w2):=HH.out.done HKD.out j hj hs;clear hs;go_wp2;go_ret;exact⟨rfl,HX.out⟩
 by_cases e11:k=11
 ·subst e11;go_wp2_with fail;refine (O.opn base T w1.drew _ HGJ.out hT0 hT HH.out.hb HBS.out HG0.out).mono ?_;rintro e w2 ⟨rfl,hs⟩;have HX:Hid (qP1 I base Wb T w w2):=HH.out.done HKD.out j hj hs;clear hs;go_wp2;go_ret;exact⟨rfl,HX.out⟩
 have hkB:=I.kob_ HGJ.out;have hBs:=ζ hkB;have b7:=ξ hkB 7;have b11:=ξ hkB 11;simp only[kob,zG,zH,zI] at b7 b11
 cases hxx:(I.kf ds[j]).x with
 | none=>
  rw[hxx] at b7;clear hxx hkB b11;go_wp2;go_ret;exact⟨rfl,HH.out.idle HKD.out⟩
 | some xa=>
  rw[hxx] at b7;have HXN:Hid ((I.kf ds[j]).x≠none):=by intro h;rw[h] at hxx;cases hxx
  by_cases e12:k=12
  ·subst e12;have hO1:=HO1.out;have o3:=ξ hO1 3;simp only[zG,zH,zI] at o3;clear hO1 hxx hkB;go_wp2_with fail;refine (O.beg base T w1.drew _ HGJ.out hT0 hT HH.out.hb HBS.out HG0.out HXN.out _).mono ?_;rintro e w2 ⟨rfl,hs⟩;have HX:Hid (qP1 I base Wb T w w2):=HH.out.done HKD.out j hj hs;clear hs;go_wp2;go_ret;exact⟨rfl,HX.out⟩
  obtain⟨pt,ct,hts,hrow⟩:=I.row HGJ.out;have htl:=I.tlen HGJ.out;rw[hts] at b11;by_cases hz:(I.tbs ds[j]).length=0
  ·rw[hz] at b11;clear hxx hkB hrow;go_wp2;go_ret;exact⟨rfl,HH.out.idle HKD.out⟩
  obtain⟨gt,curt,rfl,hRt,hct⟩:=hrow (by omega);have hz0:¬(((I.tbs ds[j]).length:Int)=0):=by omega
  obtain⟨m,hm⟩:∃ m,(I.tbs ds[j]).length=m:=⟨_,rfl⟩;rw[hm] at b11 hz0 htl hz;have hgt:=ζ hRt;have HB7:=zh hkB;have HTS:Hid ((I.kf ds[j]).ts=.slice (some ⟨gt,0,none⟩) m ct):=by rw[←hm];exact hts
  have HRt:=zh hRt;have HCT:Hid (∀ i (h:i<m),curt[i]?=some (.pointer (some ⟨(I.tbs ds[j])[i]'(by omega),0,none⟩))):=fun i h=>hct i (by omega);have HO1b:=HO1;clear hxx hkB hRt hct hts;go_wp2_with fail;have hb11:∀ V:World,V.heap[I.B ds[j]]?=some (kob (I.kf ds[j]))→V.cell? ⟨I.B ds[j],11,none⟩=some (.slice (some ⟨gt,0,none⟩) m ct):=fun V hV=>by
   have c:=ξ hV 11;simp only[kob,zG,zH,zI] at c;rw[c,HTS.out]
  have hS0:w1.drew.drew.heap[I.B ds[j]]?=some (kob (I.kf ds[j]))∧w1.drew.drew.heap[w.heap.size]?=some (.cells #[.int .i64 k,.int .i64 x,.int .i64 y,.int .i64 a,.int .i64 b,.string s,.string t] 66)∧w1.drew.drew.heap[gt]?=some (.cells curt 132):=⟨HB7.out,HO1.out,HRt.out⟩;refine wp_region_held_drew (S:=fun W=>W.heap[I.B ds[j]]?=some (kob (I.kf ds[j]))∧W.heap[w.heap.size]?=some (.cells #[.int .i64 k,.int .i64 x,.int .i64 y,.int .i64 a,.int .i64 b,.string s,.string t] 66)∧W.heap[gt]?=some (.cells curt 132)) (by kernel_rfl) hS0 (fun _=>?_);refine zU 0 (.pointer (some ⟨I.B ds[j],0,none⟩)) hS0 ?_;refine zU 1 (.pointer (some ⟨I.B ds[j],0,none⟩)) hS0 ?_;refine zU 2 (.pointer (some ⟨I.B ds[j],11,none⟩)) hS0 ?_;refine zV 3 (.slice (some ⟨gt,0,none⟩) m ct) rfl (fun W hS=>by have c:=hb11 _ hS.1;clear hS;go_simp) hS0 ?_;refine zP 4 w.heap.size 2 hS0 ?_;refine zV 5 (.int .i64 y) rfl (fun W hS=>by have c:=ξ hS.2.1 2;simp at c;clear hS;go_simp) hS0 ?_;refine zU 6 (.pointer (some ⟨I.B ds[j],0,none⟩)) hS0 ?_;refine zU 7 (.pointer (some ⟨I.B ds[j],0,none⟩)) hS0 ?_;refine zU 8 (.pointer (some ⟨I.B ds[j],11,none⟩)) hS0 ?_;refine zV 9 (.slice (some ⟨gt,0,none⟩) m ct) rfl (fun W hS=>by have c:=hb11 _ hS.1;clear hS;go_simp) hS0 ?_;refine zU 10 (.int .i64 m) hS0 ?_;refine zq 11 fun K hK=>?_;go_simp;refine (qX8 y m _ hy0 hy1 (by omega) (by omega)).mono ?_;rintro e w2 ⟨jt,rfl,hjt,rfl⟩;refine hK.out _ _ hS0 (fun _=>?_);clear hK K
  try simp only[zZ]
  refine zU 12 (.pointer (some ⟨gt,jt,none⟩)) hS0 ?_;refine zV 13 (.pointer (some ⟨(I.tbs ds[j])[jt]'(by omega),0,none⟩)) rfl (fun W hS=>by have c:=ξ hS.2.2 jt;rw[HCT.out jt hjt] at c;clear hS;go_simp) hS0 ?_;refine zU 14 (.pointer (some ⟨(I.tbs ds[j])[jt]'(by omega),0,none⟩)) hS0 ?_;refine zd ?_;have HKD2:=zh HKD.out.drew;have HGJ2:Hid (I.ok base T w1.drew.drew ds[j]):=I.keep HGJ.out (Kp.refl [] _).drew (Muts.nil _ _ _) (by simp) (Int.le_refl _);have HG02:=zh HG0.out;have HO2:=zh HO1.out;have HBS2:=zh HBS.out;clear hS0 o0 b7 b11 hb11 hgt hBs hOs;have hOs:=ζ HO2.out;have hO2:=HO2.out;have o0:=ξ hO2;clear hO2;go_wp2_with fail;refine (O.txn base T w1.drew.drew _ HGJ2.out hT0 hT HH.out.hb HBS2.out HG02.out HXN.out jt (by omega) ⟨k,x,y,a,b,s,t⟩ (by show 13≤k;omega) HF.out.2 HF.out.1).mono ?_;rintro e w2 ⟨rfl,hs⟩;have HS:=zh hs;obtain⟨g',L',q1,q2,_⟩:=hs;have HLK:=O.looks base (T+2) w2 g' q1 (by omega) (by omega);rw[q2] at HLK;clear q1 q2;go_wp2_with fail;refine HLK.mono ?_;rintro e w3 ⟨rfl,hK3⟩;have HX:Hid (qP1 I base Wb T w w3):=HH.out.done HKD2.out j hj (HS.out.after hK3);clear hK3;go_wp2;go_ret;exact⟨rfl,HX.out⟩
theorem zF8(I:DInv)(base Wb:Nat)(T:Int)(ds:List I.G)(k x y a b:Int)(s t:ByteArray)(w:World)(h:WOk I base T w Wb ds)
  (H:∀ w,WOk I base T w Wb ds→Calls prog 78 #[.pointer (some ⟨Wb,0,none⟩),.agg #[.int .i64 k,.int .i64 x,.int .i64 y,.int .i64 a,.int .i64 b,.string s,.string t]] w fun e w'=>e=.returned (.bool true)∧(∃ ds',WOk I base (T+2) w' Wb ds')∧Below base w w'):
  Calls prog 40 #[.pointer (some ⟨Wb,0,none⟩),.agg #[.int .i64 k,.int .i64 x,.int .i64 y,.int .i64 a,.int .i64 b,.string s,.string t]] w fun e w'=>e=.returned (.bool true)∧(∃ ds',WOk I base (T+2) w' Wb ds')∧Below base w w':=by
 have hK0:Kp [] w (w.alloc (.cells #[.int .i64 k,.int .i64 x,.int .i64 y,.int .i64 a,.int .i64 b,.string s,.string t] 66)):=(Kp.refl _ _).alloc _;have HC:=H _ (h.same hK0 (Int.le_refl _));have HB:Hid (Below base w (w.alloc (.cells #[.int .i64 k,.int .i64 x,.int .i64 y,.int .i64 a,.int .i64 b,.string s,.string t] 66))):=hK0.below h.hbs (by simp);clear H h hK0;go_enter func40,ntmps40;go_wp2_with fail;refine HC.mono ?_;rintro e w1 ⟨rfl,⟨ds',h1⟩,h2⟩;have H1:=zh h1;have H2:=zh h2;clear h1 h2 HC;go_wp2;go_ret;exact⟨rfl,⟨ds',H1.out⟩,HB.out.trans H2.out⟩
theorem zT4(I:DInv)(base Wb:Nat)(T:Int)(ds:List I.G)(k x y a b:Int)(s t:ByteArray)(w:World)(h:WOk I base T w Wb ds)
  (H:∀ w,Calls prog 78 #[.pointer (some ⟨Wb,0,none⟩),.agg #[.int .i64 k,.int .i64 x,.int .i64 y,.int .i64 a,.int .i64 b,.string s,.string t]] w fun e w'=>e=.returned (.bool false)∧Kp [] w w') (hk:ds.length=0∨k<1):
  Calls prog 40 #[.pointer (some ⟨Wb,0,none⟩),.agg #[.int .i64 k,.int .i64 x,.int .i64 y,.int .i64 a,.int .i64 b,.string s,.string t]] w fun e w'=>e=.returned (.bool true)∧(∃ ds',WOk I base (T+2) w' Wb ds')∧Below base w w':=by
 have HC:=H (w.alloc (.cells #[.int .i64 k,.int .i64 x,.int .i64 y,.int .i64 a,.int .i64 b,.string s,.string t] 66));have HH:=zh h;clear H h;go_enter func40,ntmps40;go_wp2_with fail;refine HC.mono ?_;rintro e w1 ⟨rfl,hK1⟩;have HK1:Hid (Kp [] w w1):=((Kp.refl _ _).alloc _).tr hK1;have HH1:Hid (WOk I base T w1 Wb ds):=HH.out.same HK1.out (Int.le_refl _);have hO1:=hK1.heap (κ w (.cells #[.int .i64 k,.int .i64 x,.int .i64 y,.int .i64 a,.int .i64 b,.string s,.string t] 66)) (by simp);obtain⟨pk,nk,ck,xs,pd,cd,hWb1,h2,h3,h4⟩:=HH1.out.hW;have hWs:=ζ hWb1;have hOs:=ζ hO1;have k1:=ξ hWb1 1;simp only[qF5,zG,zH,zI] at k1;have o0:=ξ hO1 0;simp only[zG,zH,zI] at o0;clear h2 h3 h4 hK1 HC hO1 hWb1;by_cases hn0:(ds.length:Int)=0
 ·clear hk;go_wp2;go_ret;exact⟨rfl,⟨ds,HH1.out.same (Kp.refl _ _) (by omega)⟩,HK1.out.below HH.out.hbs (by simp)⟩
 ·have hk1:k<1:=by omega
  clear hk;have hb20:¬20<k:=by omega
  have hb10:k<10:=by omega
  go_wp2
  all_goals
   go_ret;exact⟨rfl,⟨ds,HH1.out.same (Kp.refl _ _) (by omega)⟩,HK1.out.below HH.out.hbs (by simp)⟩
theorem jF1(I:DInv)(ks:List Int)(hks:∀ k∈ks,10≤k∧k≤20)(O:DOps I ks):qV0 I ks:=by
 intro base Wb T ds o w h hf hT0 hT;obtain⟨k,x,y,a,b,s,t⟩:=o;obtain⟨hk,hfit⟩:=hf;simp only at hk ⊢;rcases hk with hk|hk
 ·by_cases h1:k<1
  ·exact zT4 I base Wb T ds k x y a b s t w h (fun w1=>jA6 Wb k x y a b s t w1 h1) (Or.inr h1)
  ·have h3:k=1∨k=2∨k=3:=by omega
   rcases h3 with rfl|rfl|rfl
   ·exact zF8 I base Wb T ds 1 x y a b s t w h (fun w1 h1=>jA5 I base Wb T ds x y a b s t w1 h1 (by omega))
   ·exact zF8 I base Wb T ds 2 x y a b s t w h (fun w1 h1=>jA7 I base Wb T ds x y a b s t w1 h1)
   ·exact zF8 I base Wb T ds 3 x y a b s t w h (fun w1 h1=>jA4 I base Wb T ds x y a b s t w1 h1 (by omega))
 ·have h2:=hks k hk;by_cases hd:ds.length=0
  ·exact zT4 I base Wb T ds k x y a b s t w h (fun w1=>zR2 Wb k x y a b s t w1 (by omega)) (Or.inl hd)
  ·exact jF0 I ks O base Wb T ds k x y a b s t w h hT0 hT hfit hk h2.1 h2.2 hd
end Go.Proofs.YtdohpenfkdckiaaGreatDoor.Gw
namespace Go.Proofs.YtdohpenfkdckiaaGreatDoor.Gw
open Go.Proofs.Tryz
open Go.RowKit
open Go.ChangeMaps
theorem qG3{w:World}{a b:Nat}{c:Array Value}{t:TypeId}{fr:Nat × Nat}{es:Array MapEntry}{m:Nat}(ha:w.heap[a]?=some (.cells c t fr))(hb:w.heap[b]?=some (.map es m)):a≠b:=fun e=>by
 rw[e,hb] at ha;cases ha
theorem qO4{β:Type}(f:YG→β){l:List YG}{i:Nat}(hi:i<l.length){y:YG}(h:f y=f l[i]):(l.set i y).map f=l.map f:=by
 rw[List.map_set,h];exact List.ext_getElem (by simp) (fun j h1 h2=>by
  rw[List.getElem_set];split
  ·rename_i e;subst e;simp
  ·rfl)
theorem zQ4{l:List Nat}(h:l.Nodup){i j:Nat}(hi:i<l.length)(hj:j<l.length)(hne:j≠i):l[j]≠l[i]:=fun e=>by
 have hp:=List.pairwise_iff_getElem.1 h;rcases Nat.lt_or_gt_of_ne hne with hlt|hgt
 ·exact hp j i hj hi hlt e
 ·exact hp i j hi hj hgt e.symm
theorem TOk.store{base:Nat}{T:Int}{w:World}{g:TG}(h:TOk base T w g)(hx:g.d.x≠none):∃ q,g.so=some q∧g.d.x=some ⟨q.Db,0,none⟩∧SOk base T w g.d.A g.d.n q g.ys∧∀ y∈g.ys,YOk base T w q.St q.V y:=by
 rcases h.so with⟨e,_⟩|h
 ·exact absurd e hx
 ·exact h
theorem TOk.txn{base:Nat}{T T':Int}{w w':World}{g:TG}{q:SG}{L:List Nat}(h:TOk base T w g)(e1:g.so=some q)(e2:g.d.x=some ⟨q.Db,0,none⟩)(hS:SOk base T w g.d.A g.d.n q g.ys)(hY:∀ y∈g.ys,YOk base T w q.St q.V y)(i:Nat)(hi:i<g.ys.length)(y':YG)(q':SG)(hK:Kp L w w')(hL:∀ k∈L,k=q.St∨k=q.M∨k=g.ys[i].tb∨k=g.ys[i].f.x)(hT:T≤T')
  (et:y'.tb=g.ys[i].tb) (ex:y'.f.x=g.ys[i].f.x) (eSt:q'.St=q.St) (eM:q'.M=q.M) (eV:q'.V=q.V) (eD:q'.Db=q.Db) (hy:YOk base T' w' q.St q.V y') (hs:SOk base T' w' g.d.A g.d.n q' (g.ys.set i y')):DStep qN7 base T' w w' g:=by
 have hyi:=hY _ (List.getElem_mem hi);obtain⟨es,mc,hM⟩:=Gen.RM.obj hS.rm;have hMut:Muts base [169,197,99] w L:=fun k hk=>by
  rcases hL k hk with rfl|rfl|rfl|rfl
  ·exact⟨hS.bSt,_,hS.hSt,fun c t fr e=>by cases e;decide⟩
  ·exact⟨hS.bM,_,hM,fun c t fr e=>by cases e⟩
  ·exact⟨hyi.bT,_,hyi.hT,fun c t fr e=>by cases e;decide⟩
  ·exact⟨hyi.bX,_,hyi.hx,fun c t fr e=>by cases e;decide⟩
 have htb:qB8 { g with so:=some q',ys:=g.ys.set i y' }=qB8 g:=qO4 YG.tb hi et;have hxs:qO8 { g with so:=some q',ys:=g.ys.set i y' }=qO8 g:=qO4 (fun y=>y.f.x) hi ex;refine⟨{ g with so:=some q',ys:=g.ys.set i y' },L,?_,rfl,fun k hk=>.inl ?_,hK,fun k hk=>?_⟩
 ·refine⟨DOk.kp h.d hK hT (hMut.not h.d.hB (by decide)) (hMut.not h.d.hA (by decide)) (hMut.not h.d.hC (by decide)) (hMut.apt (by decide)),Held.kp h.held hK (fun k hk=>?_) (fun k hk=>?_) (hMut.apt (by decide)),by have:=h.hlen;show ((g.hs.length:Nat):Int)≤T';omega,fun x hx=>by have:=h.hps x hx;omega,?_,by have:=h.ylen;show (((g.ys.set i y').length:Nat):Int)≤T';rw[List.length_set];omega,.inr ⟨q',rfl,by rw[eD];exact e2,hs,fun y hy'=>?_⟩,by rw[htb];exact h.tbs,by rw[hxs];exact h.xs⟩
  ·obtain⟨_,c,h2⟩:=qD4 h.held.li k (by simpa using hk);exact hMut.not h2 (by decide)
  ·obtain⟨_,c,h2⟩:=qD4 h.held.wa k (by simpa using hk);exact hMut.not h2 (by decide)
  ·rw[htb];refine qI1 h.row hK (fun k hk=>?_);obtain⟨_,c,h2⟩:=qD4 h.row k (by simp[show g.d.ts.ownBlock=some k from hk]);exact hMut.not h2 (by decide)
  ·obtain⟨j,hj,rfl⟩:=List.getElem_of_mem hy';simp only[List.length_set] at hj;rw[List.getElem_set,eSt,eV];split
   ·exact hy
   ·rename_i hne;have hyj:=hY _ (List.getElem_mem hj);have n1:g.ys[j].tb≠g.ys[i].tb:=by
     have:=zQ4 h.tbs (i:=i) (j:=j) (by simp[qB8];exact hi) (by simp[qB8];exact hj) (fun e=>hne e.symm);simpa [qB8] using this
    have n2:g.ys[j].f.x≠g.ys[i].f.x:=by
     have:=zQ4 h.xs (i:=i) (j:=j) (by simp[qO8];exact hi) (by simp[qO8];exact hj) (fun e=>hne e.symm);simpa [qO8] using this
    refine hyj.kp hK hT (fun hm=>?_) (fun hm=>?_) (hMut.apt (by decide))
    ·rcases hL _ hm with e|e|e|e
     ·exact ω hyj.hT hS.hSt (by decide) e
     ·exact qG3 hyj.hT hM e
     ·exact n1 e
     ·exact ω hyj.hT hyi.hx (by decide) e
    ·rcases hL _ hm with e|e|e|e
     ·exact ω hyj.hx hS.hSt (by decide) e
     ·exact qG3 hyj.hx hM e
     ·exact ω hyj.hx hyi.hT (by decide) e
     ·exact n2 e
 ·have hk':=qB4.1 hk;rw[htb,hxs] at hk';refine qB4.2 ?_;rw[e1];simp only[qE1,eSt,eM] at hk' ⊢;exact hk'
 ·refine qB4.2 ?_;rw[e1];rcases hL k hk with rfl|rfl|rfl|rfl
  ·exact .inr (.inr (.inr (.inr (.inl (by simp[qE1])))))
  ·exact .inr (.inr (.inr (.inr (.inl (by simp[qE1])))))
  ·exact .inr (.inr (.inr (.inr (.inr (.inl (List.mem_map.2 ⟨_,List.getElem_mem hi,rfl⟩))))))
  ·exact .inr (.inr (.inr (.inr (.inr (.inr (List.mem_map.2 ⟨_,List.getElem_mem hi,rfl⟩))))))
theorem SOk.same{base:Nat}{T T':Int}{w w':World}{A n:Nat}{q:SG}{ys ys':List YG}{L:List Nat}(h:SOk base T w A n q ys)(hK:Kp L w w')(hT:T≤T')(h1:w'.heap[q.St]?=some (ν 0 q.s))(h2:q.M ∉ L)(hS:Apt w L [102,263])(hk:ys'.map kOf=ys.map kOf):SOk base T' w' A n q ys':=
 ⟨h.bSt,h.bM,hK.heap h.hD (fun hm=>hS _ hm _ _ _ h.hD (by simp)),h1,hK.heap h.hV (fun hm=>hS _ hm _ _ _ h.hV (by simp)),h.sV,h.sM,h.po,h.rb,h.rs,h.bl,h.bg0,by have:=h.bg1;omega,h.rm.kp hK h2,by have:=h.nM;omega,by rw[hk];exact h.bk⟩
theorem YOk.liveT{base:Nat}{T:Int}{w:World}{A n:Nat}{q:SG}{ys:List YG}{y:YG}(h:YOk base T w q.St q.V y)(hS:SOk base T w A n q ys)(ho:y.t.over=false)(hT:T≤40000)(hn:n≤1000):LiveT (E0 q.V) w y.f.x A n y.t q.s y.r:=by
 obtain⟨a1,a2,a3,a4⟩:=h.live ho;have hsz:=h.sz;have hch:=h.ch1;have hbl:=hS.bl;exact⟨h.hx,ho,a1,by rw[h.st];exact hS.hSt,hS.po,hS.sV,hS.hV,hn,by omega,by omega,trivial,by simp[Gen.E0],a2,a3,by rw[a4];omega,h.ch0,by omega⟩
theorem TOk.quiet{base:Nat}{T T':Int}{w w':World}{g:TG}{q:SG}{L:List Nat}(h:TOk base T w g)(e1:g.so=some q)(e2:g.d.x=some ⟨q.Db,0,none⟩)(hS:SOk base T w g.d.A g.d.n q g.ys)(hY:∀ y∈g.ys,YOk base T w q.St q.V y)(i:Nat)(hi:i<g.ys.length)(hK:Kp L w w')(hL:∀ k∈L,k=q.St)(hT:T≤T')(h1:w'.heap[q.St]?=some (ν 0 q.s)):DStep qN7 base T' w w' g:=by
 have hyi:=hY _ (List.getElem_mem hi);obtain⟨es,mc,hM⟩:=Gen.RM.obj hS.rm;have hap:∀ Ts:List TypeId,169 ∉ Ts→Apt w L Ts:=fun Ts hT k hk c t fr e=>by
  rw[hL k hk,hS.hSt] at e;cases e;exact hT
 have hset:g.ys.set i g.ys[i]=g.ys:=by simp
 refine h.txn e1 e2 hS hY i hi g.ys[i] q hK (fun k hk=>.inl (hL k hk)) hT rfl rfl rfl rfl rfl rfl (hyi.kp hK hT (fun hm=>?_) (fun hm=>?_) (hap _ (by decide))) ?_
 ·exact ω hyi.hT hS.hSt (by decide) (hL _ hm)
 ·exact ω hyi.hx hS.hSt (by decide) (hL _ hm)
 ·refine hS.same hK hT h1 (fun hm=>?_) (hap _ (by decide)) (by rw[hset]);rw[hL _ hm,hS.hSt] at hM;cases hM
end Go.Proofs.YtdohpenfkdckiaaGreatDoor.Gw
namespace Go.Proofs.YtdohpenfkdckiaaGreatDoor.Gm
open Go.Proofs.Tryz
open Go.RowKit
open Go.ChangeMaps
open Gw (TK Books qH7 qH0 Muts MutC DInv SG qA8 qE1 qI1 DStep qG3)
theorem qO4{β:Type}(f:YG→β){l:List YG}{i:Nat}(hi:i<l.length){y:YG}(h:f y=f l[i]):(l.set i y).map f=l.map f:=by
 rw[List.map_set,h];exact List.ext_getElem (by simp) (fun j h1 h2=>by
  rw[List.getElem_set];split
  ·rename_i e;subst e;simp
  ·rfl)
def yTs:List TypeId:=[197,99,203,282,80]
theorem YOk.yMut{base:Nat}{T:Int}{w:World}{St V:Nat}{y:YG}(h:YOk base T w St V y):MutC base yTs w (qI6 y):=fun k hk=>by
 rcases qE2.1 hk with rfl|rfl|hk|hk|hk
 ·exact⟨h.bT,_,_,_,h.hT,by decide⟩
 ·exact⟨h.bX,_,_,_,h.hx,by decide⟩
 ·obtain⟨h1,c,h2⟩:=qD4 h.crow k (by simp[hk]);exact⟨h1,_,_,_,h2,by decide⟩
 ·obtain⟨c,hc,rfl⟩:=List.mem_map.1 hk;exact⟨(h.curs c hc).bc,_,_,_,(h.curs c hc).hc,by decide⟩
 ·obtain⟨c,hc,rfl⟩:=List.mem_map.1 hk;exact⟨(h.curs c hc).bC,_,_,_,(h.curs c hc).hC,by decide⟩
theorem TOk.store{base:Nat}{T:Int}{w:World}{g:TG}(h:TOk base T w g)(hx:g.d.x≠none):∃ q,g.so=some q∧g.d.x=some ⟨q.Db,0,none⟩∧SOk base T w g.d.A g.d.n q g.ys∧∀ y∈g.ys,YOk base T w q.St q.V y:=by
 rcases h.so with⟨e,_⟩|h
 ·exact absurd e hx
 ·exact h
theorem TOk.txn{base:Nat}{T T':Int}{w w':World}{g:TG}{q:SG}{L:List Nat}(h:TOk base T w g)(e1:g.so=some q)(e2:g.d.x=some ⟨q.Db,0,none⟩)(hS:SOk base T w g.d.A g.d.n q g.ys)(hY:∀ y∈g.ys,YOk base T w q.St q.V y)(i:Nat)(hi:i<g.ys.length)(y':YG)(q':SG)(hK:Kp L w w')(hL:∀ k∈L,k=q.St∨k=q.M∨k∈qI6 g.ys[i])(hT:T≤T')
  (et:y'.tb=g.ys[i].tb) (hm:∀ k∈qI6 y',k∈qI6 g.ys[i]∨w.heap.size≤k) (eSt:q'.St=q.St) (eM:q'.M=q.M) (eV:q'.V=q.V) (eD:q'.Db=q.Db) (hy:YOk base T' w' q.St q.V y') (hs:SOk base T' w' g.d.A g.d.n q' (g.ys.set i y')):DStep qC1 base T' w w' g:=by
 have hyi:=hY _ (List.getElem_mem hi);obtain⟨es,mc,hM⟩:=Gen.RM.obj hS.rm;have hMut:Muts base (169::yTs) w L:=fun k hk=>by
  rcases hL k hk with rfl|rfl|hk
  ·exact⟨hS.bSt,_,hS.hSt,fun c t fr e=>by cases e;decide⟩
  ·exact⟨hS.bM,_,hM,fun c t fr e=>by cases e⟩
  ·obtain⟨b1,c,t,fr,b2,b3⟩:=hyi.yMut k hk;exact⟨b1,_,b2,fun c' t' fr' e=>by cases e;exact List.mem_cons_of_mem _ b3⟩
 have htb:qB8 { g with so:=some q',ys:=g.ys.set i y' }=qB8 g:=qO4 YG.tb hi et;have hpw:=List.pairwise_iff_getElem.1 h.sep;have hap:∀ j (hj:j<g.ys.length),i≠j→∀ k∈qI6 g.ys[i],k ∉ qI6 g.ys[j]:=fun j hj hne k hk hk'=>by
  rcases Nat.lt_or_gt_of_ne hne with hlt|hgt
  ·exact hpw i j hi hj hlt k hk hk'
  ·exact hpw j i hj hi hgt k hk' hk
 have hlt:∀ j (hj:j<g.ys.length),∀ k∈qI6 g.ys[j],k<w.heap.size:=fun j hj k hk=>(hY _ (List.getElem_mem hj)).yMut.muts.lt hk;refine⟨{ g with so:=some q',ys:=g.ys.set i y' },L,?_,rfl,fun k hk=>?_,hK,fun k hk=>?_⟩
 ·refine⟨Gw.DOk.kp h.d hK hT (hMut.not h.d.hB (by decide)) (hMut.not h.d.hA (by decide)) (hMut.not h.d.hC (by decide)) (hMut.apt (by decide)),Gw.Held.kp h.held hK (fun k hk=>?_) (fun k hk=>?_) (hMut.apt (by decide)),by have:=h.hlen;show ((g.hs.length:Nat):Int)≤T';omega,fun x hx=>by have:=h.hps x hx;omega,?_,by have:=h.ylen;show (((g.ys.set i y').length:Nat):Int)≤T';rw[List.length_set];omega,.inr ⟨q',rfl,by rw[eD];exact e2,hs,fun y hy'=>?_⟩,?_⟩
  ·obtain⟨_,c,h2⟩:=qD4 h.held.li k (by simpa using hk);exact hMut.not h2 (by decide)
  ·obtain⟨_,c,h2⟩:=qD4 h.held.wa k (by simpa using hk);exact hMut.not h2 (by decide)
  ·rw[htb];refine qI1 h.row hK (fun k hk=>?_);obtain⟨_,c,h2⟩:=qD4 h.row k (by simp[show g.d.ts.ownBlock=some k from hk]);exact hMut.not h2 (by decide)
  ·obtain⟨j,hj,rfl⟩:=List.getElem_of_mem hy';simp only[List.length_set] at hj;rw[List.getElem_set,eSt,eV];split
   ·exact hy
   ·rename_i hne;have hyj:=hY _ (List.getElem_mem hj);refine hyj.kp hK hT (fun k hk hm'=>?_) (hMut.apt (by decide));obtain⟨_,c,t,fr,b2,b3⟩:=hyj.yMut k hk;rcases hL _ hm' with e|e|e
    ·subst e;rw[hS.hSt] at b2;cases b2
     revert b3;decide
    ·subst e;rw[hM] at b2;cases b2
    ·exact hap j hj hne k e hk
  ·show (g.ys.set i y').Pairwise _;rw[List.pairwise_iff_getElem];intro a b ha hb hab;simp only[List.length_set] at ha hb;rw[List.getElem_set,List.getElem_set];split
   ·rename_i h1;subst h1;split
    ·omega
    ·rename_i hne;intro k hk hk';rcases hm k hk with hk|hk
     ·exact hap b hb hne k hk hk'
     ·have:=hlt b hb k hk';omega
   ·split
    ·rename_i hne h2;subst h2;intro k hk hk';rcases hm k hk' with hk'|hk'
     ·exact hap a ha (fun e=>hne e) k hk' hk
     ·have:=hlt a ha k hk;omega
    ·exact hpw a b ha hb hab
 ·rcases qB4.1 hk with hk|hk|hk|hk|hk|⟨y,hy',hk⟩
  ·exact .inl (qB4.2 (.inl hk))
  ·exact .inl (qB4.2 (.inr (.inl hk)))
  ·exact .inl (qB4.2 (.inr (.inr (.inl hk))))
  ·exact .inl (qB4.2 (.inr (.inr (.inr (.inl hk)))))
  ·refine .inl (qB4.2 (.inr (.inr (.inr (.inr (.inl ?_))))));rw[e1];simp only[qE1,eSt,eM] at hk ⊢;exact hk
  ·obtain⟨j,hj,rfl⟩:=List.getElem_of_mem hy';simp only[List.length_set] at hj;rw[List.getElem_set] at hk;split at hk
   ·rcases hm k hk with hk|hk
    ·exact .inl (qB4.2 (.inr (.inr (.inr (.inr (.inr ⟨_,List.getElem_mem hi,hk⟩))))))
    ·exact .inr hk
   ·exact .inl (qB4.2 (.inr (.inr (.inr (.inr (.inr ⟨_,List.getElem_mem hj,hk⟩))))))
 ·refine qB4.2 ?_;rcases hL k hk with rfl|rfl|hk
  ·exact .inr (.inr (.inr (.inr (.inl (by rw[e1];simp[qE1])))))
  ·exact .inr (.inr (.inr (.inr (.inl (by rw[e1];simp[qE1])))))
  ·exact .inr (.inr (.inr (.inr (.inr ⟨_,List.getElem_mem hi,hk⟩))))
theorem SOk.same{base:Nat}{T T':Int}{w w':World}{A n:Nat}{q:SG}{ys ys':List YG}{L:List Nat}(h:SOk base T w A n q ys)(hK:Kp L w w')(hT:T≤T')(h1:w'.heap[q.St]?=some (ν 0 q.s))(h2:q.M ∉ L)(hS:Apt w L [102,263])(hk:ys'.map kOf=ys.map kOf):SOk base T' w' A n q ys':=
 ⟨h.bSt,h.bM,hK.heap h.hD (fun hm=>hS _ hm _ _ _ h.hD (by simp)),h1,hK.heap h.hV (fun hm=>hS _ hm _ _ _ h.hV (by simp)),h.sV,h.sM,h.po,h.rb,h.rs,h.bl,h.bg0,by have:=h.bg1;omega,h.rm.kp hK h2,by have:=h.nM;omega,by rw[hk];exact h.bk⟩
theorem YOk.liveT{base:Nat}{T:Int}{w:World}{A n:Nat}{q:SG}{ys:List YG}{y:YG}(h:YOk base T w q.St q.V y)(hS:SOk base T w A n q ys)(ho:y.t.over=false)(hT:T≤40000)(hn:n≤1000):LiveT (E0 q.V) w y.f.x A n y.t q.s y.r:=by
 obtain⟨a1,a2,a3,a4⟩:=h.live ho;have hsz:=h.sz;have hch:=h.ch1;have hbl:=hS.bl;exact⟨h.hx,ho,a1,by rw[h.st];exact hS.hSt,hS.po,hS.sV,hS.hV,hn,by omega,by omega,trivial,by simp[Gen.E0],a2,a3,by rw[a4];omega,h.ch0,by omega⟩
theorem TOk.quiet{base:Nat}{T T':Int}{w w':World}{g:TG}{q:SG}{L:List Nat}(h:TOk base T w g)(e1:g.so=some q)(e2:g.d.x=some ⟨q.Db,0,none⟩)(hS:SOk base T w g.d.A g.d.n q g.ys)(hY:∀ y∈g.ys,YOk base T w q.St q.V y)(i:Nat)(hi:i<g.ys.length)(hK:Kp L w w')(hL:∀ k∈L,k=q.St)(hT:T≤T')(h1:w'.heap[q.St]?=some (ν 0 q.s)):DStep qC1 base T' w w' g:=by
 have hyi:=hY _ (List.getElem_mem hi);obtain⟨es,mc,hM⟩:=Gen.RM.obj hS.rm;have hap:∀ Ts:List TypeId,169 ∉ Ts→Apt w L Ts:=fun Ts hT k hk c t fr e=>by
  rw[hL k hk,hS.hSt] at e;cases e;exact hT
 have hset:g.ys.set i g.ys[i]=g.ys:=by simp
 refine h.txn e1 e2 hS hY i hi g.ys[i] q hK (fun k hk=>.inl (hL k hk)) hT rfl (fun k hk=>.inl hk) rfl rfl rfl rfl (hyi.kp hK hT (fun k hk hm=>?_) (hap _ (by decide))) ?_
 ·obtain⟨_,c,t,fr,b2,b3⟩:=hyi.yMut k hk;rw[hL _ hm,hS.hSt] at b2;cases b2
  revert b3;decide
 ·refine hS.same hK hT h1 (fun hm=>?_) (hap _ (by decide)) (by rw[hset]);rw[hL _ hm,hS.hSt] at hM;cases hM
end Go.Proofs.YtdohpenfkdckiaaGreatDoor.Gm
namespace Go.Proofs.YtdohpenfkdckiaaGreatDoor.Gw
open Go.Proofs.Tryz
open Go.RowKit
open Go.ChangeMaps
structure At(base:Nat)(T:Int)(w:World)(g:TG)(q:SG)(i:Nat)(y:YG):Prop where
 ok:TOk base T w g
 T0:0≤T
 T1:T≤40000
 hb:0<base
 hbs:base≤w.heap.size
 g0:w.cell? ⟨0,0,none⟩=some qB5
 e1:g.so=some q
 e2:g.d.x=some ⟨q.Db,0,none⟩
 S:SOk base T w g.d.A g.d.n q g.ys
 Y:∀ y∈g.ys,YOk base T w q.St q.V y
 hi:i<g.ys.length
 hy:g.ys[i]=y
theorem At.y{base:Nat}{T:Int}{w:World}{g:TG}{q:SG}{i:Nat}{y:YG}(h:At base T w g q i y):YOk base T w q.St q.V y:=by
 have:=h.Y _ (List.getElem_mem h.hi);rw[h.hy] at this;exact this
theorem At.n1{base:Nat}{T:Int}{w:World}{g:TG}{q:SG}{i:Nat}{y:YG}(h:At base T w g q i y):g.d.n≤1000:=by
 have:=h.ok.d.n1000;omega
theorem At.live{base:Nat}{T:Int}{w:World}{g:TG}{q:SG}{i:Nat}{y:YG}(h:At base T w g q i y)(ho:y.t.over=false):LiveT (E0 q.V) w y.f.x g.d.A g.d.n y.t q.s y.r:=h.y.liveT h.S ho h.T1 h.n1
theorem At.xS{base:Nat}{T:Int}{w:World}{g:TG}{q:SG}{i:Nat}{y:YG}(h:At base T w g q i y):y.f.x≠q.St:=ω h.y.hx h.S.hSt (by decide)
theorem At.tS{base:Nat}{T:Int}{w:World}{g:TG}{q:SG}{i:Nat}{y:YG}(h:At base T w g q i y):y.tb≠q.St:=ω h.y.hT h.S.hSt (by decide)
theorem At.tx{base:Nat}{T:Int}{w:World}{g:TG}{q:SG}{i:Nat}{y:YG}(h:At base T w g q i y):y.tb≠y.f.x:=ω h.y.hT h.y.hx (by decide)
theorem At.hStt{base:Nat}{T:Int}{w:World}{g:TG}{q:SG}{i:Nat}{y:YG}(h:At base T w g q i y):w.heap[y.t.St]?=some (ν 0 q.s):=by
 rw[h.y.st];exact h.S.hSt
theorem At.prog{base:Nat}{T:Int}{w:World}{g:TG}{q:SG}{i:Nat}{y:YG}(h:At base T w g q i y):ProgS w [q.St,y.f.x]:=fun k hk=>by
 have hb:=h.hb;simp only[List.mem_cons,List.not_mem_nil,or_false] at hk;rcases hk with rfl|rfl
 ·exact⟨by have:=h.S.bSt;omega,fun c t fr e=>by rw[h.S.hSt] at e;cases e;decide⟩
 ·exact⟨by have:=h.y.bX;omega,fun c t fr e=>by rw[h.y.hx] at e;cases e;decide⟩
theorem At.prog1{base:Nat}{T:Int}{w:World}{g:TG}{q:SG}{i:Nat}{y:YG}(h:At base T w g q i y):ProgS w [q.St]:=fun k hk=>h.prog k (by simp at hk;simp[hk])
theorem At.look{base:Nat}{T:Int}{w:World}{g:TG}{q:SG}{i:Nat}{y:YG}(h:At base T w g q i y):LkIn w g.d.B y.tb g.d.A g.d.n g.d.C (.slice none 0 0) g.d.calls g.d.writes (qA8 g.d) y.f y.ps:=
 ⟨h.ok.d.hB,rfl,rfl,h.ok.d.hA,h.y.hT,h.y.sp,by have:=h.y.sz;have:=h.T1;omega,h.g0⟩
theorem At.chg{base:Nat}{T:Int}{w:World}{g:TG}{q:SG}{i:Nat}{y:YG}(h:At base T w g q i y)(tbs:List Nat)(fs:List (TF × Nat)):ChIn w g.d.B y.tb g.d.A g.d.n g.d.C (.slice none 0 0) g.d.calls g.d.writes (qA8 g.d) y.f tbs fs y.ps:=
 have hT:=h.T1
 ⟨h.ok.d.hB,rfl,rfl,h.ok.d.hA,h.y.hT,h.y.sp,by have:=h.y.sz;omega,h.g0,h.y.m0,by have:=h.y.m1;omega,h.y.c0,by have:=h.y.c1;omega,h.y.s0,by have:=h.y.s1;omega⟩
theorem At.tfs{base:Nat}{T:Int}{w:World}{g:TG}{q:SG}{i:Nat}{y:YG}(h:At base T w g q i y):TFs w (qA8 g.d) (qB8 g) (qE9 g.ys):=
 ⟨PRow.of h.ok.row,by simp[qB8,qE9],fun j h1 h2=>by
  have hj:j<g.ys.length:=by simpa [qB8] using h1
  have hyj:=h.Y _ (List.getElem_mem hj);obtain⟨b,c,e⟩:=hyj.sp.form;exact⟨by simpa [qB8,qE9] using hyj.hT,b,c,by simpa [qE9] using e⟩⟩
def qC6(q:SG)(w1:World):Prop:=w1.heap[q.St]?=some (ν 0 q.s)
theorem At.quiet{base:Nat}{T:Int}{w w1 w':World}{g:TG}{q:SG}{i:Nat}{y:YG}(h:At base T w g q i y)(h1:qC6 q w1)(hK:Kp [q.St] w w1)(hK':Kp [] w1 w'):DStep qN7 base (T+2) w w' g:=
 h.ok.quiet h.e1 h.e2 h.S h.Y i h.hi (hK.tr hK') (by simp) (by omega) (hK'.hp h1)
theorem At.changed{base:Nat}{T:Int}{w w':World}{g:TG}{q:SG}{i:Nat}{y:YG}{r':Root}{qs:List KV}(h:At base T w g q i y)(ho:y.t.over=false)(hg:RGood r')(hc:r'.cont=qs)(hl:qs.length≤y.ps.length+1)
  (hd:qU8 y.f y.tb (fun w1=>∃ h',FineT (E0 q.V) w w1 y.f.x y.t q.s r' h') [q.St,y.f.x] qs w w'):DStep qN7 base (T+2) w w' g:=by
 obtain⟨w1,v',⟨h',hF⟩,hK1,hK2,hT',hsp⟩:=hd;have hyy:=h.y;obtain⟨a1,a2,a3,a4⟩:=hyy.live ho;have hKK:Kp [q.St,y.f.x,y.tb] w w':=(hK1.mono (S':=[q.St,y.f.x,y.tb]) (fun k hk _=>by simp at hk ⊢;rcases hk with h | h<;>simp[h])).trans hK2 (fun k hk _=>by simp at hk ⊢;simp[hk]);have hT1:w1.heap[y.tb]?=some (tob y.f):=hK1.heap hyy.hT (by simp;exact⟨h.tS,h.tx⟩);have hx':w'.heap[y.f.x]?=some (χ { y.t with h:=h',ch:=y.t.ch+1 }):=hK2.heap hF.hx (by simp;exact fun e=>h.tx e.symm);have hSt1:w1.heap[q.St]?=some (ν 0 q.s):=by have:=hF.hSt;rw[hyy.st] at this;exact this
 have hSt':w'.heap[q.St]?=some (ν 0 q.s):=hK2.heap hSt1 (by simp;exact fun e=>h.tS e.symm);have hap:∀ Ts:List TypeId,169 ∉ Ts→99 ∉ Ts→197 ∉ Ts→Apt w [q.St,y.f.x,y.tb] Ts:=fun Ts n1 n2 n3 k hk c t fr e=>by
  simp only[List.mem_cons,List.not_mem_nil,or_false] at hk;rcases hk with rfl|rfl|rfl
  ·rw[h.S.hSt] at e;cases e;exact n1
  ·rw[hyy.hx] at e;cases e;exact n2
  ·rw[hyy.hT] at e;cases e;exact n3
 obtain⟨es,mc,hM⟩:=Gen.RM.obj h.S.rm;have hlen:((qs.length:Nat):Int)≤T+1:=by have:=hyy.sz;omega
 have m0:=hyy.m0;have m1:=hyy.m1;refine h.ok.txn h.e1 h.e2 h.S h.Y i h.hi ⟨y.tb,y.f.step v' qs.length,{ y.t with h:=h',ch:=y.t.ch+1 },r',qs⟩ q hKK (fun k hk=>?_) (by omega) (by rw[h.hy]) (by rw[h.hy];rfl) rfl rfl rfl rfl ?_ ?_
 ·simp only[List.mem_cons,List.not_mem_nil,or_false] at hk;rw[h.hy];rcases hk with h|h|h
  ·exact .inl h
  ·exact .inr (.inr (.inr h))
  ·exact .inr (.inr (.inl h))
 ·have c0:=hyy.c0;have c1:=hyy.c1;have s0:=hyy.s0;have s1:=hyy.s1;have d0:=hyy.ch0;have d1:=hyy.ch1;refine⟨hyy.bT,hyy.bX,hT',hx',hyy.st,hsp,by show ((qs.length:Nat):Int)≤T+2;omega,?_,?_,by show 0≤y.f.chg+1;omega,by show y.f.chg+1≤T+2;omega,by show 0≤y.f.stp+1;omega,by show y.f.stp+1≤T+2;omega,hyy.com,hyy.wr,hyy.dn,by show 0≤y.t.ch+1;omega,by show y.t.ch+1≤T+2;omega,fun _=>⟨a1,?_,hg,hc⟩⟩
  ·show 0≤(if y.f.most<(qs.length:Nat) then ((qs.length:Nat):Int) else y.f.most);split<;>omega
  ·show (if y.f.most<(qs.length:Nat) then ((qs.length:Nat):Int) else y.f.most)≤T+2;split<;>omega
  ·exact hF.rr.keepT hK2 (fun k hk c t fr e=>by simp at hk;subst hk;rw[hT1] at e;cases e;decide)
 ·refine h.S.same hKK (by omega) hSt' (fun hm=>?_) (hap _ (by decide) (by decide) (by decide)) (qO4 kOf h.hi (by rw[h.hy];rfl));simp only[List.mem_cons,List.not_mem_nil,or_false] at hm;rcases hm with e|e|e
  ·exact qG3 h.S.hSt hM e.symm
  ·exact qG3 hyy.hx hM e.symm
  ·exact qG3 hyy.hT hM e.symm
theorem zG2{y:YG}{key val:ByteArray}{full:Bool}(ho:y.t.over=false)(hw:y.f.wr=y.t.wrt)(hd:y.f.dn=y.t.over)(h:qD1 y.f.wr y.f.dn key val≠0):qN1 y.t ⟨key,val⟩ full=some (qD1 y.f.wr y.f.dn key val):=by
 rw[hw,hd,ho] at h ⊢;simp only[qD1,qN1,Bool.false_eq_true,if_false] at h ⊢;split
 ·rfl
 ·split
  ·rfl
  ·split
   ·rfl
   ·rename_i h1 h2 h3;rw[if_neg h1,if_neg h2,if_neg h3] at h;exact absurd rfl h
theorem qU6{y:YG}{key val:ByteArray}(ho:y.t.over=false)(hw:y.f.wr=y.t.wrt)(hd:y.f.dn=y.t.over)(h:qD1 y.f.wr y.f.dn key val=0):y.t.wrt=true∧qF6 key=true∧val.size≤12:=by
 rw[hw,hd,ho] at h;simp only[qD1,Bool.false_eq_true,if_false] at h;split at h
 ·simp at h
 ·split at h
  ·simp at h
  ·split at h
   ·simp at h
   ·rename_i h1 h2 h3;exact⟨by simpa using h1,by simpa using h2,by omega⟩
theorem qI7{q:SG}{w w1:World}{t:Tx}(he:t.St=q.St)(h:BadT (E0 q.V) w w1 t q.s):qC6 q w1∧Kp [q.St] w w1:=by
 have h1:=h.hSt;have h2:=h.kp;rw[he] at h1 h2;exact⟨h1,h2⟩
theorem zR7(base:Nat)(T:Int)(w:World)(g:TG)(q:SG)(i:Nat)(y:YG)(key val:ByteArray)(h:At base T w g q i y):
  Calls prog 132 #[.pointer (some ⟨g.d.B,0,none⟩),.pointer (some ⟨y.tb,0,none⟩),.string key,.string val,.bool false] w fun e w'=>e=.returned (.bool true)∧DStep qN7 base (T+2) w w' g:=by
 have hyy:=h.y;have hbad:∀ j,qD1 y.f.wr y.f.dn key val=j→j≠0→(Calls prog 34 #[.pointer (some ⟨y.f.x,0,none⟩),.string key,.string val] w fun e w'=>∃ v,e=.returned v∧ErrV w' v (some j)∧qC6 q w'∧Kp [q.St] w w')→Calls prog 132 #[.pointer (some ⟨g.d.B,0,none⟩),.pointer (some ⟨y.tb,0,none⟩),.string key,.string val,.bool false] w fun e w'=>e=.returned (.bool true)∧DStep qN7 base (T+2) w w' g:=fun j hj hj0 hc=>
  (zK2 g.d.B y.tb g.d.A g.d.n g.d.C (.slice none 0 0) g.d.calls g.d.writes (qA8 g.d) y.f [] [] y.ps key val j (some j) rfl [q.St] (qC6 q) w (h.chg _ _) h.prog1 hj hj0 hc).mono fun e w' ⟨a,w1,b,c,d⟩=>⟨a,h.quiet b c d⟩
 cases ho:y.t.over with
 | true=>
  refine hbad 5 (by rw[hyy.dn,ho];rfl) (by decide) ((zR8 y.f.x y.t q.s ⟨key,val⟩ w hyy.hx ho h.hStt h.S.po (by rw[hyy.st];exact h.xS)).mono ?_);rintro e w' ⟨v,a,b,c,d⟩;rw[hyy.st] at c d;exact⟨v,a,b,c,d⟩
 | false=>
  have hL:=h.live ho;by_cases hw:qD1 y.f.wr y.f.dn key val=0
  ·obtain⟨f1,f2,f3⟩:=qU6 ho hyy.wr hyy.dn hw;have hok:qE0 ⟨key,val⟩:=⟨((qN8 key).1 f2).1,((qN8 key).1 f2).2,f3⟩;obtain⟨a1,a2,a3,a4⟩:=hyy.live ho;obtain⟨p1,p2⟩:=qL3 a3 hok;have hil:=qL1 ⟨key,val⟩ y.ps;rw[a4] at p2;by_cases hr:((y.r.put ⟨key,val⟩).news:Int)≤(g.d.n:Int)-2-q.s.bl
   ·refine (zK3 g.d.B y.tb g.d.A g.d.n g.d.C (.slice none 0 0) g.d.calls g.d.writes (qA8 g.d) y.f [] [] y.ps key val none rfl [q.St,y.f.x] (fun w1=>∃ h',FineT (E0 q.V) w w1 y.f.x y.t q.s (y.r.put ⟨key,val⟩) h') w (h.chg _ _) h.prog hw ((zR6 (E0 q.V) y.f.x g.d.A g.d.n y.t q.s y.r ⟨key,val⟩ w hL f1 hok hr).mono ?_)).mono fun e w' ⟨a,b⟩=>⟨a,h.changed ho p1 p2 hil b⟩;rintro e w' ⟨rfl,h',hF⟩;have hk:=hF.kp;rw[hyy.st] at hk;exact⟨_,rfl,rfl,⟨h',hF⟩,hk⟩
   ·have hT:=h.T1;have hn:=h.n1;have hsz:=hyy.sz;refine (zK4 g.d.B y.tb g.d.A g.d.n g.d.C (.slice none 0 0) g.d.calls g.d.writes (qA8 g.d) y.f (qB8 g) (qE9 g.ys) y.ps key val (some 3) rfl [q.St] (qC6 q) w (h.chg _ _) h.prog1 hw ((qY1 (E0 q.V) y.f.x g.d.A g.d.n y.t q.s y.r ⟨key,val⟩ 3 w hL ?_).mono ?_) h.tfs ?_ ?_ none 0 0 rfl (by decide) (by show g.d.n≤100000;omega) (by omega) ?_).mono fun e w' ⟨a,w1,b,c,d⟩=>⟨a,h.quiet b c d⟩
    ·have hv:¬12<val.size:=by omega
     simp only[qN1,f1,f2,hv,if_false,Bool.true_eq_false];rw[if_pos (by simp;omega)]
    ·rintro e w' ⟨v,rfl,a,b⟩;obtain⟨b1,b2⟩:=qI7 hyy.st b;exact⟨v,rfl,a,b1,b2⟩
    ·have:=h.ok.ylen;simp[qB8];omega
    ·intro x hx;obtain⟨z,hz,rfl⟩:=List.mem_map.1 hx;have:=(h.Y z hz).sz;simp only;omega
    ·have hst:qE3 (qA8 g.d).com (qE9 g.ys)=0:=zF6 fun x hx=>by
      obtain⟨z,hz,rfl⟩:=List.mem_map.1 hx;show (0:Int)≤z.f.com;rw[(h.Y z hz).com];exact Int.le_refl _
     rw[hst,qQ2];have hnw:=zS0 p1;rw[p2] at hnw;have hbl:=h.S.bl;have:¬(3*(max (max y.f.most ((ins ⟨key,val⟩ y.ps).length:Nat)) ((0:Nat):Int))+12+0≤((qA8 g.d).n:Int)):=by
      show ¬(_≤(g.d.n:Int));omega
     rw[decide_eq_false this];rfl
  ·refine hbad _ rfl hw ((qY1 (E0 q.V) y.f.x g.d.A g.d.n y.t q.s y.r ⟨key,val⟩ _ w hL (zG2 ho hyy.wr hyy.dn hw)).mono ?_);rintro e w' ⟨v,rfl,a,b⟩;obtain⟨b1,b2⟩:=qI7 hyy.st b;exact⟨v,rfl,a,b1,b2⟩
theorem zB4{y:YG}{key:ByteArray}(ho:y.t.over=false)(hw:y.f.wr=y.t.wrt)(hd:y.f.dn=y.t.over)(h:qD1 y.f.wr y.f.dn key ⟨#[]⟩≠0):qP3 y.t key=some (qD1 y.f.wr y.f.dn key ⟨#[]⟩):=by
 rw[hw,hd,ho] at h ⊢;have h0:¬12<(⟨#[]⟩:ByteArray).size:=by decide
 simp only[qD1,qP3,Bool.false_eq_true,if_false,if_neg h0] at h ⊢;split
 ·rfl
 ·split
  ·rfl
  ·rename_i h1 h2;rw[if_neg h1,if_neg h2] at h;exact absurd rfl h
theorem zL3(base:Nat)(T:Int)(w:World)(g:TG)(q:SG)(i:Nat)(y:YG)(key val:ByteArray)(h:At base T w g q i y):
  Calls prog 132 #[.pointer (some ⟨g.d.B,0,none⟩),.pointer (some ⟨y.tb,0,none⟩),.string key,.string val,.bool true] w fun e w'=>e=.returned (.bool true)∧DStep qN7 base (T+2) w w' g:=by
 have hyy:=h.y;have hbad:∀ j,qD1 y.f.wr y.f.dn key ⟨#[]⟩=j→j≠0→(Calls prog 28 #[.pointer (some ⟨y.f.x,0,none⟩),.string key] w fun e w'=>∃ v,e=.returned v∧ErrV w' v (some j)∧qC6 q w'∧Kp [q.St] w w')→Calls prog 132 #[.pointer (some ⟨g.d.B,0,none⟩),.pointer (some ⟨y.tb,0,none⟩),.string key,.string val,.bool true] w fun e w'=>e=.returned (.bool true)∧DStep qN7 base (T+2) w w' g:=fun j hj hj0 hc=>
  (zK0 g.d.B y.tb g.d.A g.d.n g.d.C (.slice none 0 0) g.d.calls g.d.writes (qA8 g.d) y.f [] [] y.ps key val j (some j) rfl [q.St] (qC6 q) w (h.chg _ _) h.prog1 hj hj0 hc).mono fun e w' ⟨a,w1,b,c,d⟩=>⟨a,h.quiet b c d⟩
 cases ho:y.t.over with
 | true=>
  refine hbad 5 (by rw[hyy.dn,ho];rfl) (by decide) ((zL4 y.f.x y.t q.s key w hyy.hx ho h.hStt h.S.po (by rw[hyy.st];exact h.xS)).mono ?_);rintro e w' ⟨v,a,b,c,d⟩;rw[hyy.st] at c d;exact⟨v,a,b,c,d⟩
 | false=>
  have hL:=h.live ho;by_cases hw:qD1 y.f.wr y.f.dn key ⟨#[]⟩=0
  ·obtain⟨f1,f2,f3⟩:=qU6 ho hyy.wr hyy.dn hw;obtain⟨a1,a2,a3,a4⟩:=hyy.live ho;obtain⟨p1,p2⟩:=zL2 (k:=key) a3;have hil:(del key y.ps).length≤y.ps.length+1:=Nat.le_succ_of_le (List.length_filter_le _ _);rw[a4] at p2;refine (zK1 g.d.B y.tb g.d.A g.d.n g.d.C (.slice none 0 0) g.d.calls g.d.writes (qA8 g.d) y.f [] [] y.ps key val none rfl [q.St,y.f.x] (fun w1=>∃ h',FineT (E0 q.V) w w1 y.f.x y.t q.s (y.r.del key) h') w (h.chg _ _) h.prog hw ((zL1 (E0 q.V) y.f.x g.d.A g.d.n y.t q.s y.r key w hL f1 f2).mono ?_)).mono fun e w' ⟨a,b⟩=>⟨a,h.changed ho p1 p2 hil b⟩;rintro e w' ⟨rfl,h',hF⟩;have hk:=hF.kp;rw[hyy.st] at hk;exact⟨_,rfl,rfl,⟨h',hF⟩,hk⟩
  ·refine hbad _ rfl hw ((zL0 (E0 q.V) y.f.x g.d.A g.d.n y.t q.s y.r key _ w hL (zB4 ho hyy.wr hyy.dn hw)).mono ?_);rintro e w' ⟨v,rfl,a,b⟩;obtain⟨b1,b2⟩:=qI7 hyy.st b;exact⟨v,rfl,a,b1,b2⟩
end Go.Proofs.YtdohpenfkdckiaaGreatDoor.Gw
